package tests

import (
	"fmt"
	"math/rand/v2"
	"slices"
	"testing"

	"loop.example/g00723/impl"
)

func TestOpsAndRepliesOfATenant(t *testing.T) {
	list := mixedOps()
	replies := numberedReplies(len(list))
	for tenant, places := range placesOfMixed() {
		what := fmt.Sprint("the tenant ", tenant)
		wantOps(t, what, impl.OpsFor(list, tenant), atPlaces(list, places))
		wantView(t, what, impl.RepliesFor(list, replies, tenant), atPlaces(replies, places))
		for _, none := range [][]impl.Op{nil, {}} {
			wantOps(t, what+" of no ops", impl.OpsFor(none, tenant), nil)
			wantView(t, what+" of no ops", impl.RepliesFor(none, nil, tenant), nil)
			wantView(t, what+" of no ops", impl.RepliesFor(none, []impl.Reply{}, tenant), nil)
		}
	}
	alone := numberedOps(2, 7)
	wantOps(t, "all are its own", impl.OpsFor(alone, 2), alone)
	wantView(t, "all are its own", impl.RepliesFor(alone, replies[:7], 2), replies[:7])
	wantOps(t, "none is its own", impl.OpsFor(alone, 0), nil)
	wantView(t, "none is its own", impl.RepliesFor(alone, replies[:7], 0), nil)
}

func TestManyOpsAndRepliesOfATenant(t *testing.T) {
	tenants := []int64{0, 1, 2, 3, 4, -1}
	for seed := range uint64(300) {
		r := rand.New(rand.NewPCG(10, seed))
		var list []impl.Op
		own, seen := map[int64][]impl.Op{}, map[int64][]impl.Reply{}
		replies := numberedReplies(r.IntN(301))
		for i, reply := range replies {
			o := impl.Op{Tenant: tenants[r.IntN(len(tenants))], Kind: r.Int64N(14), Handle: int64(i), Force: r.IntN(2) == 0}
			list = append(list, o)
			own[o.Tenant], seen[o.Tenant] = append(own[o.Tenant], o), append(seen[o.Tenant], reply)
		}
		for _, tenant := range append([]int64{9}, tenants...) {
			what := fmt.Sprint("the seed ", seed, ": the tenant ", tenant)
			wantOps(t, what, impl.OpsFor(list, tenant), own[tenant])
			wantView(t, what, impl.RepliesFor(list, replies, tenant), seen[tenant])
		}
	}
}

func TestTooManyOps(t *testing.T) {
	for _, n := range []int{299, 300} {
		list, replies := numberedOps(1, n), numberedReplies(n)
		wantOps(t, fmt.Sprint(n, " ops"), impl.OpsFor(list, 1), list)
		wantOps(t, fmt.Sprint(n, " ops of another one"), impl.OpsFor(list, 0), nil)
		wantView(t, fmt.Sprint(n, " ops"), impl.RepliesFor(list, replies, 1), replies)
		wantView(t, fmt.Sprint(n, " ops of another one"), impl.RepliesFor(list, replies, 9), nil)
		wantOps(t, fmt.Sprint(n, " ops"), impl.CalmOps(list, false), list)
	}
	for _, n := range []int{301, 302, 100000} {
		for _, tenant := range []int64{1, 0, 9, -1} {
			list := numberedOps(1, n)
			what := fmt.Sprint(n, " ops, for the tenant ", tenant)
			wantNoOps(t, what, impl.OpsFor(list, tenant), impl.ErrMany)
			// Too many ops come ahead of replies that are not as many.
			for _, replies := range []int{0, 1, 300, 301, n - 1, n, n + 1} {
				wantNoView(t, fmt.Sprint(what, ", and ", replies, " replies"), impl.RepliesFor(list, numberedReplies(replies), tenant), impl.ErrMany)
			}
		}
		wantNoOps(t, fmt.Sprint(n, " ops"), impl.CalmOps(numberedOps(1, n), true), impl.ErrMany)
		wantNoOps(t, fmt.Sprint(n, " ops"), impl.CalmOps(numberedOps(1, n), false), impl.ErrMany)
	}
}

func TestNotAsManyReplies(t *testing.T) {
	for _, n := range []int{0, 1, 2, 14, 299, 300} {
		for _, more := range []int{-300, -14, -2, -1, 0, 1, 2, 14, 300, 5000} {
			if n+more < 0 {
				continue
			}
			list, replies := numberedOps(1, n), numberedReplies(n+more)
			for _, tenant := range []int64{1, 0, 9, -1} {
				what := fmt.Sprint(n, " ops and ", n+more, " replies, for the tenant ", tenant)
				switch {
				case more != 0:
					wantNoView(t, what, impl.RepliesFor(list, replies, tenant), impl.ErrForm)
				case tenant == 1:
					wantView(t, what, impl.RepliesFor(list, replies, tenant), replies)
				default:
					wantView(t, what, impl.RepliesFor(list, replies, tenant), nil)
				}
			}
		}
	}
}

func TestCalmOps(t *testing.T) {
	for _, force := range []bool{false, true} {
		want := mixedOps()
		for i := range want {
			want[i].Force = force
		}
		calm := impl.CalmOps(mixedOps(), force)
		wantOps(t, fmt.Sprint("to ", force), calm, want)
		wantOps(t, fmt.Sprint("again to ", force), impl.CalmOps(calm.Ops, force), want)
		wantOps(t, fmt.Sprint("to the other one and back to ", force), impl.CalmOps(impl.CalmOps(mixedOps(), !force).Ops, force), want)
		wantOps(t, "of no ops", impl.CalmOps(nil, force), nil)
		wantOps(t, "of no ops", impl.CalmOps([]impl.Op{}, force), nil)
	}
}

func TestMergeOps(t *testing.T) {
	a, b := numberedOps(3, 3), numberedOps(-5, 4)
	const T, F = true, false
	cases := []struct {
		name  string
		turns []bool
		order string
	}{
		{"no turns", nil, "aaabbbb"},
		{"the first list's turns", []bool{T, T, T}, "aaabbbb"},
		{"the other list's turns", []bool{F, F, F, F}, "bbbbaaa"},
		{"by turns", []bool{T, F, T, F, T, F, F}, "ababab" + "b"},
		{"by turns the other way round", []bool{F, T, F, T, F, T, F}, "bababab"},
		{"fewer turns than ops", []bool{F}, "baaabbb"},
		{"turns that end ahead of both", []bool{F, T, F, F}, "babbaab"},
		{"turns that end with the other list", []bool{T, F, F, F, F}, "abbbbaa"},
		{"turns that go on for the first list", []bool{T, T, T, T, T, T, T, T}, "aaabbbb"},
		{"turns that go on for the other list", []bool{F, F, F, F, F, F, F, F}, "bbbbaaa"},
		{"turns for a list that has run out, and then for the other one", []bool{F, F, F, F, F, T, F, T}, "bbbbaaa"},
		{"turns for the first list that has run out, and then for the other one", []bool{T, T, F, T, T, F, T, F, T}, "aababbb"},
		{"more turns than ops", []bool{T, F, T, F, F, F, T, T, F, T, F, T}, "ababbba"},
	}
	for _, c := range cases {
		var want []impl.Op
		next := map[rune]int{}
		for _, list := range c.order {
			want = append(want, map[rune][]impl.Op{'a': a, 'b': b}[list][next[list]])
			next[list]++
		}
		wantOps(t, c.name, impl.MergeOps(a, b, c.turns), want)
	}
	for _, turns := range [][]bool{nil, {}, {true}, {false}, {false, false, false, false}, {true, true, true, false}} {
		what := fmt.Sprint("with the turns ", turns)
		wantOps(t, "only the first one "+what, impl.MergeOps(a, nil, turns), a)
		wantOps(t, "only the other one "+what, impl.MergeOps(nil, b, turns), b)
		wantOps(t, "none "+what, impl.MergeOps(nil, nil, turns), nil)
		wantOps(t, "none "+what, impl.MergeOps([]impl.Op{}, []impl.Op{}, turns), nil)
	}
	wantOps(t, "ops of all kinds", impl.MergeOps(mixedOps(), mixedOps()[:1], []bool{true, false}), slices.Insert(mixedOps(), 1, mixedOps()[0]))
}

// visitTurns visits all lists of turns that are no longer than n.
func visitTurns(n int, visit func(turns []bool)) {
	for length := range n + 1 {
		for bits := range 1 << length {
			var turns []bool
			for i := range length {
				turns = append(turns, bits>>i%2 == 1)
			}
			visit(turns)
		}
	}
}

// TestAllMergesOfShortLists asks that both lists keep their order, too: they are of two tenants.
func TestAllMergesOfShortLists(t *testing.T) {
	for n := range 5 {
		for m := range 5 {
			a, b := numberedOps(0, n), numberedOps(1, m)
			visitTurns(n+m+1, func(turns []bool) {
				what := fmt.Sprint(n, " and ", m, " ops by the turns ", turns)
				got := impl.MergeOps(a, b, turns)
				wantOps(t, what, got, modelMerged(a, b, turns))
				wantOps(t, what+": the first one", impl.OpsFor(got.Ops, 0), a)
				wantOps(t, what+": the other one", impl.OpsFor(got.Ops, 1), b)
			})
		}
	}
}

func TestMergesOfManyOps(t *testing.T) {
	for seed := range uint64(200) {
		r := rand.New(rand.NewPCG(11, seed))
		n := r.IntN(301)
		a, b := numberedOps(0, n), numberedOps(1, r.IntN(301-n))
		turns := anyTurns(r, r.IntN(400))
		wantOps(t, fmt.Sprint("the seed ", seed), impl.MergeOps(a, b, turns), modelMerged(a, b, turns))
	}
	for _, n := range []int{0, 1, 150, 299, 300} {
		for _, turns := range [][]bool{nil, {false}, slices.Repeat([]bool{true, false}, 200), make([]bool, 100000)} {
			a, b := numberedOps(0, n), numberedOps(1, 300-n)
			what := fmt.Sprint(n, " ops, and 300 together")
			wantOps(t, what, impl.MergeOps(a, b, turns), modelMerged(a, b, turns))
			wantNoOps(t, what+", and one more", impl.MergeOps(append(a, impl.Op{}), b, turns), impl.ErrMany)
			wantNoOps(t, what+", and one more of the other one", impl.MergeOps(a, append(b, impl.Op{}), turns), impl.ErrMany)
		}
	}
	many := make([]impl.Op, 100000)
	wantNoOps(t, "very many", impl.MergeOps(many, nil, nil), impl.ErrMany)
	wantNoOps(t, "very many", impl.MergeOps(nil, many, nil), impl.ErrMany)
	wantNoOps(t, "very many", impl.MergeOps(many, many, []bool{true}), impl.ErrMany)
}

// handRun is of two tenants; there is no room for what one of them makes, until what it dropped is
// collected.
func handRun() (impl.Config, []impl.Op, []impl.Reply) {
	c := impl.Config{Half: 12, Quotas: []int64{6, 6}, Slots: []int64{2, 2}}
	steps := []struct {
		op    impl.Op
		reply impl.Reply
	}{
		{impl.Op{Kind: impl.OpNew, Index: 2, Value: 1}, impl.Reply{Value: 32}},
		{impl.Op{Tenant: 1, Kind: impl.OpNew, Index: 4}, impl.Reply{Value: 33}},
		{impl.Op{Kind: impl.OpLink, Handle: 32, To: 32}, impl.Reply{}},
		{impl.Op{Tenant: 2, Kind: impl.OpUsed}, impl.Reply{Code: impl.ErrNone}},
		{impl.Op{Tenant: 1, Kind: impl.OpDrop, Handle: 33}, impl.Reply{}},
		{impl.Op{Kind: impl.OpDrop, Handle: 33}, impl.Reply{Code: impl.ErrHandle}},
		{impl.Op{Tenant: 1, Kind: impl.OpNew, Index: 3}, impl.Reply{Value: 65}},
		{impl.Op{Kind: impl.OpNew, Index: 1}, impl.Reply{Code: impl.ErrQuota}},
		{impl.Op{Tenant: 1, Kind: impl.OpNew}, impl.Reply{Code: impl.ErrQuota}},
		{impl.Op{Kind: impl.OpLoad, Handle: 32}, impl.Reply{Value: 36}},
		{impl.Op{Kind: impl.OpSame, Handle: 32, To: 36}, impl.Reply{Value: 1}},
		{impl.Op{Tenant: 1, Kind: impl.OpHash, Handle: 65}, impl.Reply{Value: 2}},
		{impl.Op{Kind: impl.OpUsed, Force: true}, impl.Reply{Value: 4}},
		{impl.Op{Tenant: 1, Kind: impl.OpDup, Handle: 65}, impl.Reply{Value: 37}},
		{impl.Op{Tenant: 1, Kind: impl.OpNew, Index: 4}, impl.Reply{Code: impl.ErrFull}},
		{impl.Op{Tenant: -1, Kind: impl.OpNew, Force: true}, impl.Reply{Code: impl.ErrNone}},
	}
	var list []impl.Op
	var replies []impl.Reply
	for _, s := range steps {
		list, replies = append(list, s.op), append(replies, s.reply)
	}
	return c, list, replies
}

func TestViewsByHand(t *testing.T) {
	c, list, replies := handRun()
	if got := impl.RunHeap(c, list); !slices.Equal(got.Replies, replies) || !slices.Equal(got.Collected, []int64{4, 9, 9}) {
		t.Errorf("got %+v, want %+v", got, replies)
	}
	places := [][]int{{0, 2, 5, 7, 9, 10, 12}, {1, 4, 6, 8, 11, 13, 14}}
	for n := range len(list) + 1 {
		for tenant, all := range places {
			own := slices.DeleteFunc(slices.Clone(all), func(place int) bool { return place >= n })
			wantBothViews(t, fmt.Sprint(n, " ops"), c, list[:n], int64(tenant), atPlaces(replies, own))
		}
		for _, tenant := range []int64{2, -1, 3, 9} {
			wantNoViews(t, fmt.Sprint(n, " ops"), c, list[:n], tenant, impl.ErrNone)
		}
	}
	// The other way round, and with ops by force.
	for tenant, own := range places {
		other := places[1-tenant]
		want := atPlaces(replies, own)
		for _, order := range [][]int{slices.Concat(own, other), slices.Concat(other, own), slices.Concat(other[:3], own, other[3:]), slices.Concat([]int{3, 15}, own, []int{3, 15})} {
			ops := atPlaces(list, order)
			wantBothViews(t, fmt.Sprint("in the order ", order), c, ops, int64(tenant), want)
			wantBothViews(t, fmt.Sprint("by force in the order ", order), c, impl.CalmOps(ops, true).Ops, int64(tenant), want)
		}
	}
}

// TestTenantsThatAreNotSeen asks that there is a view of just the tenants of the config.
func TestTenantsThatAreNotSeen(t *testing.T) {
	for n := range int64(4) {
		c := impl.Config{Half: 40, Quotas: slices.Repeat([]int64{10}, int(n)+1), Slots: slices.Repeat([]int64{2}, int(n)+1)}
		for _, tenant := range append([]int64{4, 5, 256, 257, 1 << 32, 1<<32 + 1}, strange...) {
			list := []impl.Op{{Tenant: tenant, Kind: impl.OpUsed}, {Tenant: tenant ^ 1, Kind: impl.OpNew}, {Tenant: tenant, Kind: impl.OpNew}}
			what := fmt.Sprint(n+1, " tenants")
			if isFrom(tenant, 0, n) {
				wantBothViews(t, what, c, nil, tenant, nil)
				wantBothViews(t, what, c, list, tenant, []impl.Reply{{}, {Value: 32 + tenant}})
				continue
			}
			wantNoViews(t, what, c, nil, tenant, impl.ErrNone)
			wantNoViews(t, what, c, list, tenant, impl.ErrNone)
			wantNoViews(t, what, c, make([]impl.Op, 300), tenant, impl.ErrNone)
		}
	}
}

// TestViewsThatAreRefused has the codes in their order.
func TestViewsThatAreRefused(t *testing.T) {
	good := impl.Config{Half: 20, Quotas: []int64{9, 11}, Slots: []int64{2, 3}}
	most := slices.Repeat([]impl.Op{{Kind: impl.OpUsed}, {Tenant: 1, Kind: impl.OpUsed, Force: true}, {Tenant: 2}}, 100)
	wantBothViews(t, "300 ops", good, most, 0, make([]impl.Reply, 100))
	wantBothViews(t, "300 ops", good, most, 1, make([]impl.Reply, 100))
	refused := []struct {
		config impl.Config
		code   int64
	}{
		{impl.Config{}, impl.ErrRange},
		{impl.Config{Half: 20, Quotas: []int64{9, 2}, Slots: []int64{3}}, impl.ErrMany},
		{impl.Config{Half: 20, Quotas: []int64{9, 1}, Slots: []int64{2, 3}}, impl.ErrRange},
		{impl.Config{Half: 19, Quotas: []int64{9, 11}, Slots: []int64{2, 3}}, impl.ErrFull},
	}
	for _, tenant := range []int64{0, 1, 2, 9, -1} {
		for _, n := range []int{301, 302, 100000} {
			// The ops of the tenant alone may be fewer.
			list := append(make([]impl.Op, n-1), impl.Op{Tenant: tenant, Kind: impl.OpUsed})
			wantNoViews(t, fmt.Sprint(n, " ops"), good, list, tenant, impl.ErrMany)
			wantNoViews(t, fmt.Sprint(n, " ops of others"), good, slices.Repeat([]impl.Op{{Tenant: 3}}, n), tenant, impl.ErrMany)
			for _, r := range refused {
				wantNoViews(t, fmt.Sprintf("%d ops of %+v", n, r.config), r.config, list, tenant, r.code)
			}
		}
		for _, r := range refused {
			wantNoViews(t, fmt.Sprintf("no ops of %+v", r.config), r.config, nil, tenant, r.code)
			wantNoViews(t, fmt.Sprintf("300 ops of %+v", r.config), r.config, most, tenant, r.code)
		}
	}
}

// ownRun is what a tenant does to its own machine, alone, and what it is replied. It does not use
// the program.
func ownRun(r *rand.Rand, c impl.Config, tenant, n int) ([]impl.Op, []impl.Reply, impl.Machine) {
	m := impl.Machine{Tenant: int64(tenant), Quota: c.Quotas[tenant], Slots: make([]impl.Slot, c.Slots[tenant])}
	var list []impl.Op
	var replies []impl.Reply
	for range n {
		o := anyOp(r, m)
		switch r.IntN(4) {
		case 0:
			size := r.Int64N(6)
			o = impl.Op{Kind: impl.OpNew, Index: size, Value: r.Int64N(1 << size)}
		case 1:
			handles := handlesOf(m)
			o = impl.Op{Kind: impl.OpDrop, Handle: handles[r.IntN(len(handles))]}
		}
		o.Tenant, o.Force = m.Tenant, r.IntN(8) == 0
		reply, after := modelDo(m, o)
		list, replies, m = append(list, o), append(replies, reply), after
	}
	return list, replies, m
}

// otherRuns are of all other tenants, some of which try the handles of this one, and of such
// tenants that there are not.
func otherRuns(r *rand.Rand, c impl.Config, tenant int, own []impl.Op) [][]impl.Op {
	lists := [][]impl.Op{nil}
	for other := range c.Quotas {
		if other == tenant {
			continue
		}
		list, _, _ := ownRun(r, c, other, r.IntN(60))
		var tries []impl.Op
		for _, o := range own {
			if o.Tenant = int64(other); r.IntN(4) == 0 {
				tries = append(tries, o)
			}
		}
		lists = append(lists, list, tries)
	}
	for _, o := range own {
		if o.Tenant = strange[r.IntN(len(strange))]; !isFrom(o.Tenant, 0, 3) && r.IntN(4) == 0 {
			lists[0] = append(lists[0], o)
		}
	}
	return lists
}

// TestWhatATenantSeesHangsOnWhatItDoesAlone has the ops of one tenant among those of all others, in
// several orders, by force and without.
func TestWhatATenantSeesHangsOnWhatItDoesAlone(t *testing.T) {
	counts := map[int64]int{}
	collections := 0
	for seed := range uint64(150) {
		r := rand.New(rand.NewPCG(12, seed))
		c := anyConfig(r)
		tenant := r.IntN(len(c.Quotas))
		own, replies, m := ownRun(r, c, tenant, r.IntN(50))
		for _, reply := range replies {
			counts[reply.Code]++
		}
		others := otherRuns(r, c, tenant, own)
		for n := range 3 {
			rest := shuffledTogether(r, others[:1+r.IntN(len(others))]...)
			rest = rest[:min(len(rest), 300-len(own))]
			merged := impl.MergeOps(own, rest, anyTurns(r, r.IntN(300)))
			if n == 0 {
				merged.Ops = shuffledTogether(r, own, rest)
			}
			what := fmt.Sprintf("the seed %d, %+v: %+v", seed, c, merged)
			wantOps(t, what, impl.OpsFor(merged.Ops, int64(tenant)), own)
			for _, list := range [][]impl.Op{merged.Ops, impl.CalmOps(merged.Ops, false).Ops, impl.CalmOps(merged.Ops, true).Ops} {
				wantBothViews(t, what, c, list, int64(tenant), replies)
				end := impl.RunHeap(c, list)
				wantMachine(t, what+": at the end", impl.AbstractOf(end.Heap, int64(tenant)), m)
				if n > 0 && len(list) > 0 && !slices.ContainsFunc(list, func(o impl.Op) bool { return o.Force }) {
					collections += len(end.Collected)
				}
			}
		}
	}
	// Otherwise these seeds show nothing of some kind.
	if collections < 50 {
		t.Errorf("there were %d collections for room", collections)
	}
	for _, code := range []int64{impl.OK, impl.ErrForm, impl.ErrRange, impl.ErrHandle, impl.ErrFull, impl.ErrQuota} {
		if counts[code] < 20 {
			t.Errorf("the code %d was replied %d times", code, counts[code])
		}
	}
}

// workMachines are those of workPlan.
func workMachines(quotas ...int64) []impl.Machine {
	return []impl.Machine{
		{
			Quota: quotas[0], Hash: 5, Slots: []impl.Slot{{Gen: 2, Node: 1}, {Gen: 1}, {Gen: 99}},
			Nodes: []impl.GraphNode{vertex(1, 5, 3, 2, 44, 1), vertex(2, 0, 4, -7)},
		},
		{
			Tenant: 1, Quota: quotas[1], Hash: 3, Slots: []impl.Slot{{Gen: 1, Node: 1}, {Gen: 4, Node: 1}, {}, {Gen: 7, Node: 2}},
			Nodes: []impl.GraphNode{vertex(1, 1, 1, 2, 9), vertex(2, 2, 2, 8, 1)},
		},
		{
			Tenant: 2, Quota: quotas[2], Hash: 9, Slots: []impl.Slot{{Gen: 99, Node: 1}, {}},
			Nodes: []impl.GraphNode{vertex(1, 0, 9, 70)},
		},
	}
}

// TestAbstractOf has heaps whose objects stand elsewhere each time; the machines are always those.
func TestAbstractOf(t *testing.T) {
	want := workMachines(12, 10, 8)
	for active := range int64(2) {
		for _, half := range []int64{30, 31, 200} {
			work := workPlan(half, active, 12, 10, 8)
			once := collectedWork(work)
			for _, p := range []plan{work, once, once.collected(4, 3, 2, 1, 0), once.collected(2, 0, 4, 1, 3)} {
				wantAbstracts(t, fmt.Sprintf("%+v", p), p.heap(), want...)
			}
			wantAbstracts(t, "a collection by the program", impl.CollectHeap(work.heap()).Heap, want...)
		}
		wantAbstracts(t, "a half that is just full", richPlan(active).heap(), workMachines(8, 8, 7)...)
	}
	// Slots that lead elsewhere turn the order in which objects are reached.
	turned := roomyWork(0).with(func(p *plan) {
		p.tenants[0].Slots[1] = impl.HeapSlot{Gen: 3, At: 2}
		p.tenants[0].Slots[0] = impl.HeapSlot{Gen: 2}
		p.tenants[0].Slots[2] = impl.HeapSlot{Gen: 99, At: 1}
		p.tenants[1].Slots = []impl.HeapSlot{{Gen: 5}, {Gen: 6, At: 4}, {Gen: 7, At: 5}}
		p.tenants[2].Slots = []impl.HeapSlot{{Gen: 98}}
	})
	wantAbstracts(t, "turned slots", turned.heap(),
		impl.Machine{
			Quota: 12, Hash: 5, Slots: []impl.Slot{{Gen: 2}, {Gen: 3, Node: 1}, {Gen: 99, Node: 2}},
			Nodes: []impl.GraphNode{vertex(1, 0, 4, -7), vertex(2, 5, 3, 1, 44, 2)},
		},
		impl.Machine{
			Tenant: 1, Quota: 10, Hash: 3, Slots: []impl.Slot{{Gen: 5}, {Gen: 6, Node: 1}, {Gen: 7, Node: 2}},
			Nodes: []impl.GraphNode{vertex(1, 2, 2, 8, 3), vertex(2, 0, 13), vertex(3, 1, 1, 1, 9)},
		},
		impl.Machine{Tenant: 2, Quota: 8, Hash: 9, Slots: []impl.Slot{{Gen: 98}}},
	)
}

func TestAbstractOfANewHeap(t *testing.T) {
	c := impl.Config{Half: 200, Quotas: []int64{2, 3, 4, 191}, Slots: []int64{1, 8, 2, 5}}
	var machines []impl.Machine
	for n, quota := range c.Quotas {
		machines = append(machines, impl.Machine{Tenant: int64(n), Quota: quota, Slots: make([]impl.Slot, c.Slots[n])})
	}
	wantAbstracts(t, "a new heap", impl.NewHeap(c).Heap, machines...)
	wantAbstracts(t, "a run of no ops", impl.RunHeap(c, nil).Heap, machines...)
}

// TestAbstractsOfMachines lays machines into heaps, of which they are told back as tidy ones.
func TestAbstractsOfMachines(t *testing.T) {
	cases := machineCases()
	for active := range int64(2) {
		for _, c := range cases {
			p := heapOf(c.machine())
			p.active = active
			want := c.tidyMachine()
			want.Quota = p.tenants[1].Quota
			h := p.heap()
			wantHeapFault(t, c.name, h, impl.OK)
			wantMachine(t, c.name, impl.AbstractOf(h, 1), want)
			wantMachine(t, c.name+", collected", impl.AbstractOf(impl.CollectHeap(h).Heap, 1), want)
			wantAbstracts(t, c.name, h, modelAbstracts(h)...)
		}
	}
}

// TestTheMostObjects has as many objects as there is room for, which lead to one another backwards.
func TestTheMostObjects(t *testing.T) {
	p := plan{half: 200, objects: chain(66, -1), tenants: []impl.HeapTenant{{Quota: 198, Hash: 66, Slots: []impl.HeapSlot{{Gen: 1, At: 66}}}}}
	want := impl.Machine{Quota: 198, Hash: 66, Slots: []impl.Slot{{Gen: 1, Node: 1}}}
	for i := range p.objects {
		p.objects[i].Head.Owner = 0
		to := int64(i+2) % 67
		want.Nodes = append(want.Nodes, vertex(int64(i+1), 1, int64(65-i), to))
	}
	wantAbstracts(t, "a long chain", p.heap(), want)
}

func TestAbstractOfTenantsThatThereAreNot(t *testing.T) {
	for _, p := range []plan{roomyWork(0), roomyWork(1).with(func(p *plan) { p.tenants = p.tenants[:1] })} {
		h := p.heap()
		for _, n := range append([]int64{4, 5, 256, 257, 1 << 32, 1<<32 + 1}, strange...) {
			if isFrom(n, 0, int64(len(h.Tenants))-1) {
				wantMachine(t, fmt.Sprint("the tenant ", n), impl.AbstractOf(h, n), workMachines(12, 10, 8)[n])
			} else {
				wantNoMachine(t, fmt.Sprint("the tenant ", n), impl.AbstractOf(h, n), impl.ErrNone)
			}
		}
	}
}

// TestAnOpTurnsTheOwnMachineAlone has ops of each kind, and such as are refused, by force and
// without, with room and without.
func TestAnOpTurnsTheOwnMachineAlone(t *testing.T) {
	var ops []impl.Op
	for _, c := range heapCases() {
		ops = append(ops, c.op)
	}
	for _, r := range heapRefusals() {
		ops = append(ops, r.op)
	}
	for _, p := range []plan{roomyWork(0), workPlan(24, 1, 11, 8, 5), workPlan(26, 0, 12, 8, 6)} {
		for _, o := range ops {
			checkAbstractStep(t, "without force", p.heap(), o)
			o.Force = true
			checkAbstractStep(t, "by force", p.heap(), o)
		}
	}
}

func TestACollectionTurnsNoMachine(t *testing.T) {
	for seed := range uint64(400) {
		r := rand.New(rand.NewPCG(13, seed))
		h := manyHeld(r, 14+r.Int64N(187))
		want := modelAbstracts(h)
		wantAbstracts(t, fmt.Sprint("the seed ", seed), h, want...)
		wantAbstracts(t, fmt.Sprint("the seed ", seed, ", collected"), impl.CollectHeap(h).Heap, want...)
	}
}

// TestManyOpsTurnTheOwnMachineAlone does ops of heaps with garbage, one behind the other.
func TestManyOpsTurnTheOwnMachineAlone(t *testing.T) {
	collected := 0
	for seed := range uint64(500) {
		r := rand.New(rand.NewPCG(14, seed))
		h := manyHeld(r, 14+r.Int64N(1+r.Int64N(1+r.Int64N(187))))
		for range 15 {
			o := anyHeapOp(r, h, r.IntN(5) == 0)
			step := checkAbstractStep(t, fmt.Sprint("the seed ", seed), h, o)
			if h = step.Heap; !o.Force {
				collected += len(step.Collected)
			}
		}
	}
	if collected < 20 {
		t.Errorf("there were %d collections for room", collected)
	}
}

// TestRunsEndWithTheMachinesOfTheTenants holds all tenants' ops against their machines.
func TestRunsEndWithTheMachinesOfTheTenants(t *testing.T) {
	for seed := range uint64(60) {
		r := rand.New(rand.NewPCG(15, seed))
		c := anyConfig(r)
		var lists [][]impl.Op
		var seen [][]impl.Reply
		var machines []impl.Machine
		for n := range c.Quotas {
			list, replies, m := ownRun(r, c, n, r.IntN(50))
			lists, seen, machines = append(lists, list), append(seen, replies), append(machines, m)
		}
		list := shuffledTogether(r, lists...)
		what := fmt.Sprintf("the seed %d, %+v: %+v", seed, c, list)
		end := impl.RunHeap(c, list)
		wantAbstracts(t, what, end.Heap, machines...)
		for n, replies := range seen {
			wantView(t, what, impl.RepliesFor(list, end.Replies, int64(n)), replies)
			wantBothViews(t, what, c, list, int64(n), replies)
		}
	}
}

// toldView has what any function of this chapter answers.
type toldView struct {
	ops     impl.OpsResult
	view    impl.ViewResult
	machine impl.MachineResult
}

func equalViews(a, b toldView) bool {
	return a.ops.Code == b.ops.Code && slices.Equal(a.ops.Ops, b.ops.Ops) &&
		a.view.Code == b.view.Code && slices.Equal(a.view.Replies, b.view.Replies) &&
		a.machine.Code == b.machine.Code && equalMachines(a.machine.Machine, b.machine.Machine)
}

func copiedView(v toldView) toldView {
	v.ops.Ops, v.view.Replies, v.machine.Machine = slices.Clone(v.ops.Ops), slices.Clone(v.view.Replies), copiedMachine(v.machine.Machine)
	return v
}

// spoilView writes on all that is answered, and behind it.
func spoilView(v toldView) {
	ops := v.ops.Ops[:cap(v.ops.Ops)]
	for i := range ops {
		ops[i] = impl.Op{Tenant: 55, Kind: 55, Handle: 55, To: 55, Index: 55, Value: 55, Force: !ops[i].Force}
	}
	spoilReplies(v.view.Replies)
	spoilMachine(v.machine.Machine)
}

// viewArguments are those of all functions of this chapter.
type viewArguments struct {
	config  impl.Config
	a, b    []impl.Op
	replies []impl.Reply
	turns   []bool
	heap    impl.Heap
}

// roomy has room behind each list, so that an answer that is appended to would be seen there.
func (v viewArguments) roomy() viewArguments {
	v.config.Quotas, v.config.Slots = slices.Grow(v.config.Quotas, 20), slices.Grow(v.config.Slots, 20)
	v.a, v.b = slices.Grow(slices.Clone(v.a), 400), slices.Grow(slices.Clone(v.b), 400)
	v.replies, v.turns = slices.Grow(v.replies, 20), slices.Grow(v.turns, 20)
	v.heap = roomyHeap(v.heap)
	return v
}

// behind has all that stands in the lists and behind them.
func (v viewArguments) behind() viewArguments {
	v.config.Quotas, v.config.Slots = allOf(v.config.Quotas), allOf(v.config.Slots)
	v.a, v.b, v.replies, v.turns = allOf(v.a), allOf(v.b), allOf(v.replies), allOf(v.turns)
	v.heap = behindHeapLists(v.heap)
	return v
}

func allOf[T any](list []T) []T {
	return slices.Clone(list[:cap(list)])
}

func (v viewArguments) equals(w viewArguments) bool {
	return equalConfigs(v.config, w.config) && slices.Equal(v.a, w.a) && slices.Equal(v.b, w.b) &&
		slices.Equal(v.replies, w.replies) && slices.Equal(v.turns, w.turns) && equalHeaps(v.heap, w.heap)
}

// viewCalls are calls of all functions of this chapter.
func viewCalls() map[string]func(v viewArguments) toldView {
	type call = func(v viewArguments) toldView
	calls := map[string]call{
		"CalmOps":             func(v viewArguments) toldView { return toldView{ops: impl.CalmOps(v.a, false)} },
		"CalmOps by force":    func(v viewArguments) toldView { return toldView{ops: impl.CalmOps(v.a, true)} },
		"MergeOps":            func(v viewArguments) toldView { return toldView{ops: impl.MergeOps(v.a, v.b, v.turns)} },
		"MergeOps of itself":  func(v viewArguments) toldView { return toldView{ops: impl.MergeOps(v.a, v.a, v.turns)} },
		"MergeOps and none":   func(v viewArguments) toldView { return toldView{ops: impl.MergeOps(v.a, nil, v.turns)} },
		"MergeOps with none":  func(v viewArguments) toldView { return toldView{ops: impl.MergeOps(v.a[:0], v.b, v.turns)} },
		"MergeOps by no turn": func(v viewArguments) toldView { return toldView{ops: impl.MergeOps(v.a, v.b, v.turns[:0])} },
	}
	for _, n := range []int64{0, 1, 2, 3, 9, -1} {
		of := fmt.Sprint(" of the tenant ", n)
		calls["OpsFor"+of] = func(v viewArguments) toldView { return toldView{ops: impl.OpsFor(v.a, n)} }
		calls["RepliesFor"+of] = func(v viewArguments) toldView { return toldView{view: impl.RepliesFor(v.a, v.replies, n)} }
		calls["ViewOf"+of] = func(v viewArguments) toldView { return toldView{view: impl.ViewOf(v.config, v.a, n)} }
		calls["AloneView"+of] = func(v viewArguments) toldView { return toldView{view: impl.AloneView(v.config, v.a, n)} }
		calls["AbstractOf"+of] = func(v viewArguments) toldView { return toldView{machine: impl.AbstractOf(v.heap, n)} }
	}
	return calls
}

// visitArguments visits such as have faults, and such as have none.
func visitArguments(visit func(v viewArguments)) {
	configs, lists, heaps := awkwardConfigs(), append(awkwardLists(), mixedOps(), numberedOps(2, 300)), awkwardHeaps()
	turns := [][]bool{nil, {false}, {true, false, false, true}, make([]bool, 40), slices.Repeat([]bool{true, false}, 200)}
	for n := range max(len(heaps), len(configs)*len(lists)) {
		a, b := lists[n%len(lists)], lists[n/2%len(lists)]
		replies := numberedReplies(len(a))
		if n%5 == 4 {
			replies = numberedReplies(len(a) + n%3 + 1)
		}
		config := configs[n/len(lists)%len(configs)]
		visit(viewArguments{config, a, b, replies, turns[n%len(turns)], heaps[n%len(heaps)]})
	}
}

func TestViewsAnswerAlikeAndChangeNoArgument(t *testing.T) {
	wantCallsAlike(t, viewCalls(), equalViews, copiedView, spoilView)
}

// TestListsOfAnAbstractMachineShareNoMemory writes on one list of an answer after the other, and
// behind it, and asks that no other list has other words then.
func TestListsOfAnAbstractMachineShareNoMemory(t *testing.T) {
	heaps := []impl.Heap{roomyWork(0).heap(), richPlan(1).heap()}
	for _, c := range machineCases() {
		heaps = append(heaps, heapOf(c.machine()).heap())
	}
	for _, h := range heaps {
		for tenant := range int64(2) {
			got := impl.AbstractOf(h, tenant).Machine
			want := copiedMachine(got)
			check := func(list string) {
				t.Helper()
				if !equalMachines(got, want) {
					t.Fatalf("what was done to %s is seen in another list: %+v", list, got)
				}
			}
			for n := range got.Nodes {
				fill(got.Nodes[n].Fields)
				fill(want.Nodes[n].Fields)
				check(fmt.Sprint("the fields of the node ", n))
			}
			spoilMachine(impl.Machine{Slots: got.Slots})
			spoilMachine(impl.Machine{Slots: want.Slots})
			check("the slots")
		}
	}
}
