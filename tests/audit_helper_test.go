package tests

import (
	"fmt"
	"slices"
	"testing"

	"loop.example/g00723/impl"
)

func wantWords(t *testing.T, what string, got impl.PartsResult, code int64, words ...int64) {
	t.Helper()
	if got.Code != code || !slices.Equal(got.Words, words) {
		t.Errorf("%s: got %+v, want the code %d and %v", what, got, code, words)
	}
}

func wantZeroed(t *testing.T, what string, h impl.Heap, want bool) {
	t.Helper()
	if got := impl.IsZeroed(h); got != want {
		t.Errorf("%s: IsZeroed is %v, want %v, of %+v", what, got, want, h)
	}
}

// wantBlind asks it both ways round.
func wantBlind(t *testing.T, what string, c impl.Config, a, b []impl.Op, tenant int64) {
	t.Helper()
	if !impl.IsBlind(c, a, b, tenant) || !impl.IsBlind(c, b, a, tenant) {
		t.Errorf("%s: the tenant %d of %+v is not blind for %+v and %+v", what, tenant, c, a, b)
	}
}

func wantFaithful(t *testing.T, what string, c impl.Config, list []impl.Op, want bool) {
	t.Helper()
	if got := impl.IsFaithful(c, list); got != want {
		t.Errorf("%s: IsFaithful is %v, want %v, of %+v and %d ops", what, got, want, c, len(list))
	}
}

// modelHeld is asked of heaps without a fault.
func modelHeld(h impl.Heap) []int64 {
	var held []int64
	for n := range h.Tenants {
		held = append(held, modelUsed(modelOwn(h, n)))
	}
	return held
}

// modelSpace tells the space that there is for an object, where so many words of the Quota are left.
func modelSpace(left int64) impl.IntResult {
	switch {
	case left < 2:
		return impl.IntResult{Code: impl.ErrQuota}
	case left > 14:
		return impl.IntResult{Value: 12}
	}
	return impl.IntResult{Value: left - 2}
}

// modelMeeting has the places of words of objects that more than one tenant holds.
func modelMeeting(h impl.Heap) []int64 {
	objects := modelObjects(h.Arena)
	holders := make([]int, len(h.Arena.Words))
	for n := range h.Tenants {
		for _, at := range modelReach(objects, modelRoots(h, n)) {
			for word := at; word < at+2+int64(len(objectOf(objects, at).Fields)); word++ {
				holders[word]++
			}
		}
	}
	var places []int64
	for at, n := range holders {
		if n > 1 {
			places = append(places, int64(at))
		}
	}
	return places
}

// wantAudited asks a heap that has no fault what is promised of each heap, of the program and of
// the models.
func wantAudited(t *testing.T, what string, h impl.Heap) {
	t.Helper()
	wantRightHeap(t, what, h)
	wantZeroed(t, what, h, true)
	if !impl.IsIsolated(h) {
		t.Errorf("%s: not isolated: %+v", what, h)
	}
	if places := modelMeeting(h); len(places) > 0 {
		t.Errorf("%s: the places %v are held by more than one, of %+v", what, places, h)
	}
	held := modelHeld(h)
	wantWords(t, what+": HeldBy", impl.HeldBy(h), impl.OK, held...)
	for n, own := range h.Tenants {
		want := modelSpace(own.Quota - held[n])
		wantWord(t, fmt.Sprint(what, ": SpaceFor ", n), impl.SpaceFor(h, int64(n)), want.Code, want.Value)
	}
	for _, n := range []int64{-1, int64(len(h.Tenants)), 4, 9} {
		wantWord(t, fmt.Sprint(what, ": SpaceFor ", n), impl.SpaceFor(h, n), impl.ErrNone, 0)
	}
}

// newCode is what a new object of this size is refused with, if it is refused.
func newCode(h impl.Heap, tenant int, size int64) int64 {
	own, space := h.Tenants[tenant], impl.SpaceFor(h, int64(tenant))
	canBeGiven := func(s impl.HeapSlot) bool { return s.At == 0 && s.Gen < 99 }
	switch {
	case size > 12:
		return impl.ErrRange
	case !slices.ContainsFunc(own.Slots, canBeGiven):
		return impl.ErrFull
	case own.Hash == 99999 || space.Code == impl.ErrQuota || size > space.Value:
		return impl.ErrQuota
	}
	return impl.OK
}

// checkSpaces asks that each object of a size that there is space for is made, and that a greater
// one is not. It answers how many were made of the greatest such size, and how many were refused
// for one field more.
func checkSpaces(t *testing.T, what string, h impl.Heap) (made, refused int) {
	t.Helper()
	for n := range h.Tenants {
		space := impl.SpaceFor(h, int64(n))
		for size := range int64(14) {
			for _, force := range []bool{false, true} {
				o := impl.Op{Tenant: int64(n), Kind: impl.OpNew, Index: size, Force: force}
				what := fmt.Sprintf("%s: %+v of %+v, where there is space for %+v", what, o, h, space)
				got := impl.DoHeap(h, o)
				want := newCode(h, n, size)
				if got.Code != impl.OK || len(got.Replies) != 1 || got.Replies[0].Code != want {
					t.Fatalf("%s: got %+v, want the code %d", what, got, want)
				}
				held := modelHeld(h)
				if want == impl.OK {
					held[n] += 2 + size
				}
				wantWords(t, what+": behind it", impl.HeldBy(got.Heap), impl.OK, held...)
				switch {
				case space.Code != impl.OK:
				case size == space.Value && want == impl.OK:
					made++
				case size == space.Value+1 && want == impl.ErrQuota:
					refused++
				}
			}
		}
	}
	return made, refused
}
