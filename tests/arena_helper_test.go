package tests

import (
	"math"
	"slices"
	"testing"

	"loop.example/g00723/impl"
)

// strange holds numbers at which sums and products would overflow, beside the bounds of chapter 1.
var strange = []int64{
	math.MinInt64, math.MinInt64 + 1, math.MinInt64 / 2, -impl.MaxValue - 1, -impl.MaxValue, -200, -9, -8, -7, -2, -1,
	0, 1, 2, 3, 7, 8, 9, 15, 16, 17, 199, 200, 201, 400, impl.MaxValue, impl.MaxValue + 1,
	math.MaxInt64 / 2, math.MaxInt64/2 + 1, math.MaxInt64 - 8, math.MaxInt64,
}

// marked is an arena in which every word, taken or not, is another one and none is 0.
func marked(half, active, bump int64) impl.Arena {
	a := impl.Arena{Half: half, Active: active, Bump: bump, Words: make([]int64, 2*half)}
	for i := range a.Words {
		a.Words[i] = int64(100 + i)
		if i%2 == 1 {
			a.Words[i] = -a.Words[i]
		}
	}
	return a
}

// copied does not use the program, so that a test can hold an argument against what it was.
func copied(a impl.Arena) impl.Arena {
	a.Words = append([]int64(nil), a.Words...)
	return a
}

func equalArenas(a, b impl.Arena) bool {
	return a.Half == b.Half && a.Active == b.Active && a.Bump == b.Bump && slices.Equal(a.Words, b.Words)
}

func isZeroArena(a impl.Arena) bool {
	return a.Half == 0 && a.Active == 0 && a.Bump == 0 && len(a.Words) == 0
}

func wantArena(t *testing.T, what string, got impl.ArenaResult, want impl.Arena, at int64) {
	t.Helper()
	if got.Code != impl.OK || got.At != at || !equalArenas(got.Arena, want) {
		t.Errorf("%s: got %+v, want At %d and %+v", what, got, at, want)
	}
}

// wantRefusal asks that all beside the code is zero.
func wantRefusal(t *testing.T, what string, got impl.ArenaResult, code int64) {
	t.Helper()
	if got.Code != code || got.At != 0 || !isZeroArena(got.Arena) {
		t.Errorf("%s: got %+v, want the code %d and nothing beside it", what, got, code)
	}
}

func wantWord(t *testing.T, what string, got impl.IntResult, code, value int64) {
	t.Helper()
	if got.Code != code || got.Value != value {
		t.Errorf("%s: got %+v, want the code %d and %d", what, got, code, value)
	}
}

type arenaCall struct {
	name string
	call func(a impl.Arena) impl.ArenaResult
}

// arenaCalls are calls of every function that makes an arena of an arena.
func arenaCalls(x, y int64) []arenaCall {
	return []arenaCall{
		{"WriteAt", func(a impl.Arena) impl.ArenaResult { return impl.WriteAt(a, x, y) }},
		{"ZeroRange", func(a impl.Arena) impl.ArenaResult { return impl.ZeroRange(a, x, y) }},
		{"TakeWords", func(a impl.Arena) impl.ArenaResult { return impl.TakeWords(a, x) }},
		{"FlipArena", impl.FlipArena},
	}
}

type faultyArena struct {
	name  string
	arena impl.Arena
	code  int64
}

func withWord(a impl.Arena, at int, word int64) impl.Arena {
	a = copied(a)
	a.Words[at] = word
	return a
}

func withWords(a impl.Arena, n int) impl.Arena {
	a.Words = make([]int64, n)
	return a
}

// faultyArenas has each fault of an arena alone, just outside its bound and far from it, and such
// in which two faults are so.
func faultyArenas() []faultyArena {
	good := marked(8, 0, 3)
	list := []faultyArena{
		{"zero value", impl.Arena{}, impl.ErrRange},
		{"half below", withWords(impl.Arena{Half: impl.MinHalf - 1}, 14), impl.ErrRange},
		{"half above", withWords(impl.Arena{Half: impl.MaxHalf + 1}, 402), impl.ErrRange},
		{"half negative", impl.Arena{Half: -8}, impl.ErrRange},
		{"no words", impl.Arena{Half: 8}, impl.ErrMany},
		{"one word less", withWords(good, 15), impl.ErrMany},
		{"one word more", withWords(good, 17), impl.ErrMany},
		{"one half of words", withWords(good, 8), impl.ErrMany},
		{"greatest half, one word less", withWords(impl.Arena{Half: impl.MaxHalf}, 399), impl.ErrMany},
		{"greatest half, one word more", withWords(impl.Arena{Half: impl.MaxHalf}, 401), impl.ErrMany},
		{"first word above", withWord(good, 0, impl.MaxValue+1), impl.ErrRange},
		{"last word above", withWord(good, 15, impl.MaxValue+1), impl.ErrRange},
		{"first word below", withWord(good, 0, -impl.MaxValue-1), impl.ErrRange},
		{"last word below", withWord(good, 15, -impl.MaxValue-1), impl.ErrRange},
		{"greatest number as a word", withWord(good, 9, math.MaxInt64), impl.ErrRange},
		{"least number as a word", withWord(good, 9, math.MinInt64), impl.ErrRange},
		{"half and words", impl.Arena{Half: 7}, impl.ErrRange},
		{"active and words", impl.Arena{Half: 8, Active: 2}, impl.ErrRange},
		{"bump and words", impl.Arena{Half: 8, Bump: 9}, impl.ErrRange},
		{"count and a word", withWord(withWords(good, 17), 2, impl.MaxValue+1), impl.ErrMany},
	}
	for _, n := range []int64{-1, 2, math.MinInt64, math.MaxInt64} {
		a := copied(good)
		a.Active = n
		list = append(list, faultyArena{"active", a, impl.ErrRange})
	}
	for _, n := range []int64{-1, 9, 16, math.MinInt64, math.MaxInt64} {
		a := copied(good)
		a.Bump = n
		list = append(list, faultyArena{"bump", a, impl.ErrRange})
	}
	// Twice the last one of these is 16 again, once it overflows.
	for _, n := range []int64{math.MinInt64, math.MaxInt64, math.MinInt64 + 8} {
		a := copied(good)
		a.Half = n
		list = append(list, faultyArena{"half far away", a, impl.ErrRange})
	}
	return list
}
