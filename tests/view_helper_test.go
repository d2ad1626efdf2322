package tests

import (
	"fmt"
	"math"
	"math/rand/v2"
	"slices"
	"testing"

	"loop.example/g00723/impl"
)

func wantOps(t *testing.T, what string, got impl.OpsResult, ops []impl.Op) {
	t.Helper()
	if got.Code != impl.OK || !slices.Equal(got.Ops, ops) {
		t.Errorf("%s: got %+v, want %+v", what, got, ops)
	}
}

// wantNoOps asks that all beside the code is zero.
func wantNoOps(t *testing.T, what string, got impl.OpsResult, code int64) {
	t.Helper()
	if got.Code != code || len(got.Ops) != 0 {
		t.Errorf("%s: got %+v, want the code %d and nothing beside it", what, got, code)
	}
}

func wantView(t *testing.T, what string, got impl.ViewResult, replies []impl.Reply) {
	t.Helper()
	if got.Code != impl.OK || !slices.Equal(got.Replies, replies) {
		t.Errorf("%s: got %+v, want %+v", what, got, replies)
	}
}

// wantNoView asks that all beside the code is zero.
func wantNoView(t *testing.T, what string, got impl.ViewResult, code int64) {
	t.Helper()
	if got.Code != code || len(got.Replies) != 0 {
		t.Errorf("%s: got %+v, want the code %d and nothing beside it", what, got, code)
	}
}

// wantBothViews asks what a tenant sees, of all that is done and of what it does alone.
func wantBothViews(t *testing.T, what string, c impl.Config, list []impl.Op, tenant int64, replies []impl.Reply) {
	t.Helper()
	what = fmt.Sprint(what, ": of the tenant ", tenant)
	wantView(t, what+": ViewOf", impl.ViewOf(c, list, tenant), replies)
	wantView(t, what+": AloneView", impl.AloneView(c, list, tenant), replies)
}

func wantNoViews(t *testing.T, what string, c impl.Config, list []impl.Op, tenant int64, code int64) {
	t.Helper()
	what = fmt.Sprint(what, ": of the tenant ", tenant)
	wantNoView(t, what+": ViewOf", impl.ViewOf(c, list, tenant), code)
	wantNoView(t, what+": AloneView", impl.AloneView(c, list, tenant), code)
}

// mixedOps are of several tenants, most of which there never are. What else they have is of no
// matter here; two of them are alike.
func mixedOps() []impl.Op {
	return []impl.Op{
		{Tenant: 1, Kind: impl.OpDup, Handle: 33},
		{Kind: impl.OpNew, Index: 3, Value: 2, Force: true},
		{Tenant: 9, Kind: impl.OpUsed},
		{Tenant: 1, Kind: impl.OpDup, Handle: 33},
		{Tenant: -1, Kind: impl.OpNew},
		{Tenant: 3, Kind: impl.OpLink, Handle: 35, To: 67, Index: 1},
		{Tenant: 1, Kind: -5, Handle: math.MinInt64, To: math.MaxInt64, Index: -1, Value: 7, Force: true},
		{},
		{Tenant: math.MinInt64, Kind: 12},
		{Tenant: 4, Kind: impl.OpNew, Force: true},
		{Tenant: 1 << 32},
		{Tenant: math.MaxInt64, Value: 5},
		{Tenant: 257},
		{Tenant: 9, Kind: impl.OpUsed, Force: true},
	}
}

// placesOfMixed tells at which places an op of a tenant stands in mixedOps.
func placesOfMixed() map[int64][]int {
	return map[int64][]int{
		0: {1, 7}, 1: {0, 3, 6}, 3: {5}, 4: {9}, 9: {2, 13}, -1: {4}, 257: {12}, 1 << 32: {10},
		math.MinInt64: {8}, math.MaxInt64: {11},
		2: nil, -2: nil, 5: nil, 256: nil, -9: nil, math.MinInt64 + 1: nil, math.MaxInt64 - 1: nil,
	}
}

// atPlaces works for ops and for replies.
func atPlaces[T any](list []T, places []int) []T {
	var some []T
	for _, n := range places {
		some = append(some, list[n])
	}
	return some
}

// numberedReplies are all other ones, and such as no op has.
func numberedReplies(n int) []impl.Reply {
	var list []impl.Reply
	for i := range n {
		list = append(list, impl.Reply{Code: int64(i % 12), Value: int64(500 - i)})
	}
	return list
}

// numberedOps are of one tenant, each one with another Value.
func numberedOps(tenant int64, n int) []impl.Op {
	var list []impl.Op
	for i := range n {
		list = append(list, impl.Op{Tenant: tenant, Kind: impl.OpPut, Value: 1000*tenant + int64(i)})
	}
	return list
}

// modelMerged goes from op to op into the depth. It does not use the program.
func modelMerged(a, b []impl.Op, turns []bool) []impl.Op {
	if len(a) == 0 {
		return slices.Clone(b)
	}
	if len(b) == 0 {
		return slices.Clone(a)
	}
	isFirsts := true
	if len(turns) > 0 {
		isFirsts, turns = turns[0], turns[1:]
	}
	if isFirsts {
		return append([]impl.Op{a[0]}, modelMerged(a[1:], b, turns)...)
	}
	return append([]impl.Op{b[0]}, modelMerged(a, b[1:], turns)...)
}

func anyTurns(r *rand.Rand, n int) []bool {
	var turns []bool
	for range n {
		turns = append(turns, r.IntN(2) == 0)
	}
	return turns
}

// shuffledTogether keeps the order of each list.
func shuffledTogether(r *rand.Rand, lists ...[]impl.Op) []impl.Op {
	lists = slices.Clone(lists)
	var all []impl.Op
	for {
		lists = slices.DeleteFunc(lists, func(list []impl.Op) bool { return len(list) == 0 })
		if len(lists) == 0 {
			return all
		}
		n := r.IntN(len(lists))
		all = append(all, lists[n][0])
		lists[n] = lists[n][1:]
	}
}

// modelAbstract is asked of heaps without a fault and of tenants that there are.
func modelAbstract(h impl.Heap, tenant int) impl.Machine {
	m := modelOwn(h, tenant)
	return modelTidy(m, modelReachOf(m))
}

// wantAbstracts asks for the machines of all tenants, and that there are no others.
func wantAbstracts(t *testing.T, what string, h impl.Heap, machines ...impl.Machine) {
	t.Helper()
	for n, m := range machines {
		wantMachine(t, fmt.Sprint(what, ": the tenant ", n), impl.AbstractOf(h, int64(n)), m)
		if code := impl.MachineFault(m); code != impl.OK {
			t.Errorf("%s: the tenant %d has the MachineFault %d: %+v", what, n, code, m)
		}
	}
	for _, n := range []int64{-1, int64(len(machines)), 9} {
		wantNoMachine(t, fmt.Sprint(what, ": the tenant ", n), impl.AbstractOf(h, n), impl.ErrNone)
	}
}

// modelAbstracts has a machine for each tenant.
func modelAbstracts(h impl.Heap) []impl.Machine {
	var machines []impl.Machine
	for n := range h.Tenants {
		machines = append(machines, modelAbstract(h, n))
	}
	return machines
}

// checkAbstractStep asks what is promised of an op, by the machines alone: the own one is turned as
// DoMachine turns it, and no other one.
func checkAbstractStep(t *testing.T, what string, h impl.Heap, o impl.Op) impl.HeapResult {
	t.Helper()
	what = fmt.Sprintf("%s: %+v of %+v", what, o, h)
	got := impl.DoHeap(h, o)
	if got.Code != impl.OK || len(got.Replies) != 1 {
		t.Fatalf("%s: got %+v", what, got)
	}
	for n := range int64(len(h.Tenants)) {
		ahead, behind := impl.AbstractOf(h, n), impl.AbstractOf(got.Heap, n)
		want := ahead.Machine
		if n == o.Tenant {
			step := impl.DoMachine(ahead.Machine, o)
			if want = step.Machine; step.Code != impl.OK || step.Reply != got.Replies[0] {
				t.Errorf("%s: the machine replies %+v, and the heap %+v", what, step, got.Replies[0])
			}
		}
		if ahead.Code != impl.OK {
			t.Errorf("%s: the tenant %d has the code %d", what, n, ahead.Code)
		}
		wantMachine(t, fmt.Sprint(what, ": the tenant ", n, " behind it"), behind, want)
	}
	if n := o.Tenant; !isFrom(n, 0, int64(len(h.Tenants))-1) {
		wantNoMachine(t, what, impl.AbstractOf(h, n), impl.ErrNone)
		wantNoMachine(t, what, impl.AbstractOf(got.Heap, n), impl.ErrNone)
		if got.Replies[0] != (impl.Reply{Code: impl.ErrNone}) {
			t.Errorf("%s: got %+v", what, got.Replies)
		}
	}
	wantAbstracts(t, what, got.Heap, modelAbstracts(got.Heap)...)
	return got
}

// heapOf has the nodes of a machine of the tenant 1 as objects, with the last one ahead, and behind
// each one of them an object of another tenant that leads to the last one of its own.
func heapOf(m impl.Machine) plan {
	var p plan
	place := map[int64]int64{}
	for i, n := range m.Nodes {
		place[n.Id] = int64(2*(len(m.Nodes)-i) - 1)
	}
	for _, n := range slices.Backward(m.Nodes) {
		o := made(1, n.Mask, n.Hash, slices.Clone(n.Fields)...)
		for i, to := range o.Fields {
			if isPointerField(o.Head, int64(i)) {
				o.Fields[i] = place[to]
			}
		}
		last := int64(len(p.objects))
		p.objects = append(p.objects, o, made(0, 1, 70+last, last))
	}
	held := max(2, modelUsed(m))
	other := impl.HeapTenant{Quota: max(2, 3*int64(len(m.Nodes))), Hash: 8, Slots: []impl.HeapSlot{{}, {Gen: 2, At: int64(len(p.objects))}}}
	if len(m.Nodes) == 0 {
		other.Slots[1].At = 0
	}
	own := impl.HeapTenant{Quota: held, Hash: m.Hash}
	for _, s := range m.Slots {
		own.Slots = append(own.Slots, impl.HeapSlot{Gen: s.Gen, At: place[s.Node]})
	}
	p.tenants = []impl.HeapTenant{other, own}
	p.half = max(8, wordsIn(p.objects), other.Quota+held)
	return p
}

// wantCallsAlike asks of calls by all arguments that visitArguments has that they answer alike each
// time, that no argument is changed, and that what is done to an answer is not seen in another one.
func wantCallsAlike[T any](t *testing.T, calls map[string]func(v viewArguments) T, equal func(a, b T) bool, copied func(told T) T, spoil func(told T)) {
	t.Helper()
	visitArguments(func(v viewArguments) {
		v = v.roomy()
		before := v.behind()
		for name, call := range calls {
			first, second := call(v), call(v)
			if !equal(first, second) {
				t.Fatalf("%s answers %+v and then %+v", name, first, second)
			}
			want := copied(second)
			spoil(first)
			if !equal(second, want) || !equal(call(v), want) {
				t.Fatalf("%s: what was done to an answer is seen in another one", name)
			}
			if !v.behind().equals(before) {
				t.Fatalf("%s turned %+v into %+v", name, before, v)
			}
		}
	})
}
