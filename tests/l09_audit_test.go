package tests

import (
	"fmt"
	"math/rand/v2"
	"slices"
	"testing"

	"loop.example/g00723/impl"
)

// heldCase is a heap of which it is written by hand what is held and what space there is. A space
// of -1 is ErrQuota.
type heldCase struct {
	name   string
	plan   plan
	held   []int64
	spaces []int64
}

// freed has the slots of some tenants all free.
func freed(p plan, tenants ...int) plan {
	return p.with(func(p *plan) {
		for _, n := range tenants {
			for i := range p.tenants[n].Slots {
				p.tenants[n].Slots[i].At = 0
			}
		}
	})
}

func heldCases() []heldCase {
	var list []heldCase
	for active := range int64(2) {
		work, rich := roomyWork(active), richPlan(active)
		add := func(name string, p plan, held, spaces []int64) {
			list = append(list, heldCase{fmt.Sprint(name, ", the half ", active), p, held, spaces})
		}
		add("some garbage", work, []int64{8, 8, 3}, []int64{2, 0, 3})
		add("all is held", collectedWork(work), []int64{8, 8, 3}, []int64{2, 0, 3})
		add("quotas that are used up", rich, []int64{8, 8, 3}, []int64{-1, -1, 2})
		add("nothing is held", freed(work, 0, 1, 2), []int64{0, 0, 0}, []int64{10, 8, 6})
		add("one tenant holds nothing", freed(work, 1), []int64{8, 0, 3}, []int64{2, 8, 3})
		add("nothing is taken", plan{half: 30, active: active, tenants: freed(work, 0, 1, 2).tenants}, []int64{0, 0, 0}, []int64{10, 8, 6})
		add("one tenant", work.with(func(p *plan) { p.tenants = p.tenants[:1] }), []int64{8}, []int64{2})
		add("four tenants", work.with(func(p *plan) {
			p.half = 50
			p.objects = append(p.objects, made(3, 3, 1, 8, 8), made(3, 0, 2), made(3, 1, 3, 8))
			p.tenants = append(p.tenants, impl.HeapTenant{Quota: 20, Hash: 3, Slots: []impl.HeapSlot{{}, {Gen: 1, At: 10}}})
		}), []int64{8, 8, 3, 7}, []int64{2, 0, 3, 11})
		add("garbage is held by a slot again", work.with(func(p *plan) {
			p.tenants[0].Slots[1].At = 6
		}), []int64{11, 8, 3}, []int64{-1, 0, 3})
		add("a pointer holds what no slot does", work.with(func(p *plan) {
			p.tenants[1].Slots = []impl.HeapSlot{{Gen: 2, At: 4}}
		}), []int64{8, 8, 3}, []int64{2, 0, 3})
		add("all slots lead to one object", work.with(func(p *plan) {
			p.tenants[2].Slots = slices.Repeat([]impl.HeapSlot{{Gen: 3, At: 7}}, 8)
		}), []int64{8, 8, 3}, []int64{2, 0, 3})
	}
	most := plan{half: 200, objects: chain(66, -1), tenants: []impl.HeapTenant{{Quota: 200, Hash: 66, Slots: []impl.HeapSlot{{Gen: 1, At: 66}, {}}}}}
	for i := range most.objects {
		most.objects[i].Head.Owner = 0
	}
	least := plan{half: 8, tenants: []impl.HeapTenant{{Quota: 2, Slots: make([]impl.HeapSlot, 1)}}}
	return append(list,
		heldCase{"the longest chain", most, []int64{198}, []int64{0}},
		heldCase{"the second half of a chain", most.with(func(p *plan) { p.tenants[0].Slots[0].At = 33 }), []int64{99}, []int64{12}},
		heldCase{"the least heap", least, []int64{0}, []int64{0}},
		heldCase{"the least heap, used up", least.with(func(p *plan) {
			p.objects, p.tenants[0].Slots[0] = []impl.Object{made(0, 0, 1)}, impl.HeapSlot{Gen: 1, At: 1}
		}), []int64{2}, []int64{-1}},
	)
}

func TestWhatIsHeldAndWhatSpaceThereIs(t *testing.T) {
	for _, c := range heldCases() {
		h := c.plan.heap()
		wantWords(t, c.name, impl.HeldBy(h), impl.OK, c.held...)
		for n, space := range c.spaces {
			code := int64(impl.OK)
			if space < 0 {
				code, space = impl.ErrQuota, 0
			}
			wantWord(t, fmt.Sprint(c.name, ": SpaceFor ", n), impl.SpaceFor(h, int64(n)), code, space)
		}
		wantAudited(t, c.name, h)
		wantAudited(t, c.name+", collected", impl.CollectHeap(h).Heap)
		checkSpaces(t, c.name, h)
	}
}

// TestSpaceAtItsBounds has, of a tenant that holds 8 words, each quota that is not below.
func TestSpaceAtItsBounds(t *testing.T) {
	for quota := int64(8); quota <= 189; quota++ {
		for active := range int64(2) {
			h := workPlan(200, active, quota, 8, 3).heap()
			what := fmt.Sprint("the Quota ", quota)
			switch got := impl.SpaceFor(h, 0); {
			case quota < 10:
				wantWord(t, what, got, impl.ErrQuota, 0)
			case quota < 22:
				wantWord(t, what, got, impl.OK, quota-10)
			default:
				wantWord(t, what, got, impl.OK, impl.MaxFields)
			}
			if quota > 26 {
				continue
			}
			full := workPlan(max(24, quota+11), active, quota, 8, 3).heap()
			for _, h := range []impl.Heap{h, full} {
				made, refused := checkSpaces(t, what, h)
				isSpace, isBelowMost := quota >= 10, quota >= 10 && quota < 22
				// Each one is asked by force and without.
				if (made == 2) != isSpace || (refused == 2) != isBelowMost {
					t.Errorf("%s: %d were made, and %d of one field more refused", what, made, refused)
				}
			}
		}
	}
	c := impl.Config{Half: 200, Quotas: []int64{200}, Slots: []int64{8}}
	wantWord(t, "the greatest quota", impl.SpaceFor(impl.NewHeap(c).Heap, 0), impl.OK, 12)
}

// TestSpaceIsOfTheQuotaAlone has tenants whose Hash is at its end, or that can be given no slot, and
// halves of which no word is left.
func TestSpaceIsOfTheQuotaAlone(t *testing.T) {
	work := workPlan(30, 0, 12, 10, 8)
	for _, hash := range []int64{0, 5, 99998, 99999} {
		h := work.with(func(p *plan) { p.tenants[0].Hash = hash }).heap()
		wantAudited(t, fmt.Sprint("the Hash ", hash), h)
		wantWord(t, fmt.Sprint("the Hash ", hash), impl.SpaceFor(h, 0), impl.OK, 2)
		checkSpaces(t, fmt.Sprint("the Hash ", hash), h)
	}
	end := work.with(func(p *plan) { p.tenants[0].Hash = 99999 }).heap()
	if got := impl.DoHeap(end, impl.Op{Kind: impl.OpNew}).Replies; !slices.Equal(got, []impl.Reply{{Code: impl.ErrQuota}}) {
		t.Errorf("no Hash is left: %+v", got)
	}
	for _, slot := range []impl.HeapSlot{{Gen: 99}, {Gen: 1, At: 1}, {Gen: 99, At: 2}} {
		p := work.with(func(p *plan) { p.tenants[0].Slots[1] = slot })
		what := fmt.Sprintf("no slot can be given: %+v", slot)
		wantWord(t, what, impl.SpaceFor(p.heap(), 0), impl.OK, 2)
		checkSpaces(t, what, p.heap())
		if got := impl.DoHeap(p.heap(), impl.Op{Kind: impl.OpNew}).Replies; !slices.Equal(got, []impl.Reply{{Code: impl.ErrFull}}) {
			t.Errorf("%s: %+v", what, got)
		}
	}
	for half := int64(24); half < 40; half++ {
		h := workPlan(half, 1, 9, 8, half-17).heap()
		what := fmt.Sprint("the half ", half)
		space := modelSpace(half - 20)
		wantWord(t, what, impl.SpaceFor(h, 2), space.Code, space.Value)
		checkSpaces(t, what, h)
	}
}

// TestTenantsForWhichThereIsNoSpace asks for a tenant that there is not, of heaps that are right and
// of such as have a fault, which comes ahead.
func TestTenantsForWhichThereIsNoSpace(t *testing.T) {
	for n := range 4 {
		c := impl.Config{Half: 40, Quotas: slices.Repeat([]int64{10}, n+1), Slots: slices.Repeat([]int64{2}, n+1)}
		right := impl.NewHeap(c).Heap
		used := copiedHeap(right)
		for tenant := range int64(n + 1) {
			used = impl.DoHeap(used, impl.Op{Tenant: tenant, Kind: impl.OpNew, Index: 8}).Heap
		}
		wrong := copiedHeap(right)
		wrong.Tenants[n].Slots[1].At = 1
		for _, tenant := range append([]int64{4, 5, 256, 257, 1 << 32, 1<<32 + 1}, strange...) {
			what := fmt.Sprint("the tenant ", tenant, " of ", n+1)
			wantWord(t, what+", with a fault", impl.SpaceFor(wrong, tenant), impl.ErrNone, 0)
			wrong.Tenants[n].Slots[1].Gen = -1
			wantWord(t, what+", with two faults", impl.SpaceFor(wrong, tenant), impl.ErrRange, 0)
			wrong.Tenants[n].Slots[1].Gen = 0
			if isFrom(tenant, 0, int64(n)) {
				wantWord(t, what, impl.SpaceFor(right, tenant), impl.OK, 8)
				wantWord(t, what+", used up", impl.SpaceFor(used, tenant), impl.ErrQuota, 0)
				continue
			}
			wantWord(t, what, impl.SpaceFor(right, tenant), impl.ErrNone, 0)
			wantWord(t, what+", used up", impl.SpaceFor(used, tenant), impl.ErrNone, 0)
		}
	}
}

// TestAuditsOfAFault has each fault of a heap, most of which speak of no two tenants' objects.
func TestAuditsOfAFault(t *testing.T) {
	for active := range int64(2) {
		good := richPlan(active).heap()
		wantAudited(t, "no fault", good)
		for _, f := range heapFaults(good) {
			h := copiedHeap(good)
			f.make(&h)
			wantHeapFault(t, f.name, h, f.code)
			if f.rank[0] != rankShape {
				wantZeroed(t, f.name, h, true)
			}
		}
		for _, p := range []plan{richPlan(active), roomyWork(active)} {
			quota := func(n int64) impl.Heap { return p.with(func(p *plan) { p.tenants[1].Quota = n }).heap() }
			wantHeapFault(t, "a Quota below", quota(1), impl.ErrRange)
			wantHeapFault(t, "a Quota above", quota(201), impl.ErrRange)
			wantHeapFault(t, "a Quota that is exceeded", quota(7), impl.ErrQuota)
			wantHeapFault(t, "all quotas above the Half", quota(199), impl.ErrFull)
		}
	}
	wantHeapFault(t, "the zero value", impl.Heap{}, impl.ErrRange)
	wantZeroed(t, "the zero value", impl.Heap{}, false)
}

// TestSlotsThatLeadToAnotherOnes has each slot lead to each object.
func TestSlotsThatLeadToAnotherOnes(t *testing.T) {
	for active := range int64(2) {
		work := workPlan(200, active, 40, 40, 40)
		for n, own := range work.tenants {
			for i := range own.Slots {
				for o, object := range work.objects {
					p := work.with(func(p *plan) { p.tenants[n].Slots[i] = impl.HeapSlot{Gen: 1, At: int64(o) + 1} })
					what := fmt.Sprint("the slot ", i, " of the tenant ", n, " leads to the object ", o)
					if object.Head.Owner == int64(n) {
						wantAudited(t, what, p.heap())
						continue
					}
					wantHeapFault(t, what, p.heap(), impl.ErrHandle)
					wantZeroed(t, what, p.heap(), true)
				}
			}
		}
	}
}

// TestPointersThatLeadToAnotherOnes has each pointer lead to each object, of those that are held and
// of those that nobody holds.
func TestPointersThatLeadToAnotherOnes(t *testing.T) {
	for active := range int64(2) {
		work := workPlan(200, active, 40, 40, 40)
		for from, object := range work.objects {
			for i := range object.Fields {
				if !isPointerField(object.Head, int64(i)) {
					continue
				}
				for to, target := range work.objects {
					p := work.with(func(p *plan) { p.objects[from].Fields[i] = int64(to) + 1 })
					what := fmt.Sprint("the field ", i, " of the object ", from, " leads to the object ", to)
					if target.Head.Owner == object.Head.Owner {
						wantAudited(t, what, p.heap())
						continue
					}
					wantHeapFault(t, what, p.heap(), impl.ErrState)
					wantZeroed(t, what, p.heap(), true)
				}
			}
		}
	}
}

// TestEachWordThatIsNotTaken has one word of an arena that is not 0.
func TestEachWordThatIsNotTaken(t *testing.T) {
	for active := range int64(2) {
		arenas := []impl.Arena{
			mixedArena(28, active), mixedArena(29, active), mixedArena(33, active), mixedArena(200, active),
			laid(8, active), laid(200, active), laid(8, active, made(1, 0, 5, 9)), laid(8, active, made(3, 0, 7, 1, 2, 3, 4, 5, 6)),
		}
		for _, a := range arenas {
			for _, tenants := range [][]impl.HeapTenant{nil, {{Quota: 2, Slots: make([]impl.HeapSlot, 1)}}, {{Quota: -1}}} {
				wantZeroed(t, "as it is", impl.Heap{Arena: a, Tenants: tenants}, true)
			}
			untaken := int64(0)
			for at := range 2 * a.Half {
				if isTaken(a, at) {
					continue
				}
				untaken++
				for _, word := range []int64{1, -1, 2, impl.MaxValue, -impl.MaxValue} {
					wantZeroed(t, fmt.Sprint("the word ", word, " at ", at), impl.Heap{Arena: withWord(a, int(at), word)}, false)
				}
			}
			if untaken != 2*a.Half-a.Bump {
				t.Errorf("%d words of %+v are not taken", untaken, a)
			}
		}
	}
}

// TestWhatIsTakenIsNotAsked has each Hash and each plain field of another value, in a half that is
// full and in one that is not; and pointers astray, which are no matter of what is zero.
func TestWhatIsTakenIsNotAsked(t *testing.T) {
	for active := range int64(2) {
		for _, half := range []int64{28, 33} {
			good := mixedArena(half, active)
			for _, at := range []int64{1, 3, 6, 8, 11, 12, 15} {
				for _, word := range []int64{0, 1, 99999} {
					h := impl.Heap{Arena: withWord(good, int(active*half+at), word)}
					wantZeroed(t, fmt.Sprint("the word ", word, " is ", at, " behind the base"), h, true)
				}
			}
			for _, f := range misledArenas(half, active) {
				isZero := true
				for at, word := range f.arena.Words {
					isZero = isZero && (word == 0 || isTaken(f.arena, int64(at)))
				}
				wantZeroed(t, f.name, impl.Heap{Arena: f.arena}, isZero)
			}
		}
	}
}

// TestArenasWithAFaultAreNotZeroed has arenas that are no arenas, or whose words are no objects,
// many of which have no word at all that is not 0.
func TestArenasWithAFaultAreNotZeroed(t *testing.T) {
	list := faultyArenas()
	for active := range int64(2) {
		list = append(list, formlessArenas(28, active)...)
		list = append(list, formlessArenas(33, active)...)
		for _, n := range strange {
			bump, half, number := laid(8, active), laid(8, active), laid(8, active)
			bump.Bump, half.Half, number.Active = n, n, n
			if n != 0 {
				list = append(list, faultyArena{name: fmt.Sprint("Bump is ", n), arena: bump})
			}
			if n != 8 {
				list = append(list, faultyArena{name: fmt.Sprint("Half is ", n), arena: half})
			}
			if n != 0 && n != 1 {
				list = append(list, faultyArena{name: fmt.Sprint("Active is ", n), arena: number})
			}
		}
		for _, n := range []int{0, 8, 15, 17, 100000} {
			list = append(list, faultyArena{name: fmt.Sprint(n, " words"), arena: withWords(laid(8, active), n)})
		}
		for _, word := range []int64{impl.MaxValue + 1, -impl.MaxValue - 1} {
			good := mixedArena(28, active)
			list = append(list, faultyArena{name: "a field that is no word", arena: withWord(good, int(active*28+3), word)})
		}
	}
	for _, f := range list {
		wantZeroed(t, f.name, impl.Heap{Arena: f.arena}, false)
		wantZeroed(t, f.name+", with tenants", impl.Heap{Arena: f.arena, Tenants: richPlan(0).tenants}, false)
	}
}

func TestIsFaithfulByHand(t *testing.T) {
	c, list, _ := handRun()
	for n := range len(list) + 1 {
		wantFaithful(t, fmt.Sprint(n, " ops"), c, list[:n], true)
		wantFaithful(t, fmt.Sprint(n, " ops by force"), c, forced(list[:n], func(int) bool { return true }), true)
		wantFaithful(t, fmt.Sprint(n, " ops without force"), c, forced(list[:n], func(int) bool { return false }), true)
	}
	wantFaithful(t, "no ops", c, []impl.Op{}, true)
	var all []impl.Op
	for _, h := range heapCases() {
		all = append(all, h.op)
	}
	for _, r := range heapRefusals() {
		all = append(all, r.op)
	}
	for _, c := range awkwardConfigs() {
		isRight := impl.ConfigFault(c) == impl.OK
		for from := 0; from < len(all); from += 300 {
			wantFaithful(t, "ops of all kinds", c, all[from:min(len(all), from+300)], isRight)
		}
	}
}

// TestIsFaithfulAtTheBounds has one and four tenants, slots of which no Gen is left, quotas that are
// used up, and halves that have no room at each op.
func TestIsFaithfulAtTheBounds(t *testing.T) {
	one := impl.Config{Half: 8, Quotas: []int64{2}, Slots: []int64{1}}
	var worn []impl.Op
	for gen := range int64(100) {
		worn = append(worn, impl.Op{Kind: impl.OpNew}, impl.Op{Kind: impl.OpNew}, impl.Op{Kind: impl.OpDrop, Handle: word(0, 0, gen+1)})
	}
	wantFaithful(t, "a slot of which no Gen is left", one, worn, true)
	end := impl.RunHeap(one, worn)
	if s := end.Heap.Tenants[0].Slots[0]; s != (impl.HeapSlot{Gen: 99}) || end.Replies[297].Code != impl.ErrFull {
		t.Errorf("got the slot %+v, and %+v", s, end.Replies[297])
	}
	wantAudited(t, "a slot of which no Gen is left", end.Heap)
	four := impl.Config{Half: 16, Quotas: []int64{4, 4, 4, 4}, Slots: []int64{1, 2, 8, 1}}
	var turns []impl.Op
	for n := range int64(37) {
		for tenant := range int64(4) {
			turns = append(turns, impl.Op{Tenant: tenant, Kind: impl.OpNew, Index: 2, Value: 3}, impl.Op{Tenant: tenant, Kind: impl.OpDrop, Handle: word(tenant, 0, n+1)})
		}
	}
	wantFaithful(t, "four tenants by turns", four, turns, true)
	for n := range turns {
		wantAudited(t, fmt.Sprint("four tenants behind ", n, " ops"), impl.RunHeap(four, turns[:n]).Heap)
	}
	wantFaithful(t, "all by force", four, forced(turns, func(int) bool { return true }), true)
	for _, n := range []int{299, 300} {
		wantFaithful(t, "so many ops", four, make([]impl.Op, n), true)
	}
}

func TestIsFaithfulOfWhatIsRefused(t *testing.T) {
	good := impl.Config{Half: 20, Quotas: []int64{9, 11}, Slots: []int64{2, 3}}
	for _, n := range []int{301, 302, 100000} {
		wantFaithful(t, "too many ops", good, make([]impl.Op, n), false)
	}
	for _, c := range []impl.Config{
		{}, {Half: 7, Quotas: []int64{7}, Slots: []int64{1}}, {Half: 201, Quotas: []int64{7}, Slots: []int64{1}},
		{Half: 20}, {Half: 20, Quotas: []int64{9, 11}, Slots: []int64{2}}, {Half: 20, Quotas: []int64{2, 2, 2, 2, 2}, Slots: []int64{1, 1, 1, 1, 1}},
		{Half: 20, Quotas: []int64{9, 1}, Slots: []int64{2, 3}}, {Half: 20, Quotas: []int64{9, 11}, Slots: []int64{2, 9}},
		{Half: 20, Quotas: []int64{9, 11}, Slots: []int64{0, 3}}, {Half: 19, Quotas: []int64{9, 11}, Slots: []int64{2, 3}},
	} {
		for _, list := range [][]impl.Op{nil, {{Kind: impl.OpUsed}}, make([]impl.Op, 300), make([]impl.Op, 301)} {
			wantFaithful(t, "a config with a fault", c, list, false)
		}
	}
}

// blindBase makes two objects of the tenant 0 with the handles 32 and 36, which have two fields and
// one field.
func blindBase() []impl.Op {
	return []impl.Op{
		{Kind: impl.OpNew, Index: 2}, {Tenant: 1, Kind: impl.OpNew, Index: 3}, {Kind: impl.OpNew, Index: 1},
		{Kind: impl.OpPut, Handle: 32, Index: 1, Value: 5}, {Tenant: 1, Kind: impl.OpDrop, Handle: 33},
	}
}

func blindConfig() impl.Config {
	return impl.Config{Half: 20, Quotas: []int64{12, 8}, Slots: []int64{3, 2}}
}

// TestIsBlindWhereTheOwnOpsDiffer has ops that differ in one field, so that the replies do, too.
func TestIsBlindWhereTheOwnOpsDiffer(t *testing.T) {
	c, base := blindConfig(), blindBase()
	get := impl.Op{Kind: impl.OpGet, Handle: 32, Index: 1}
	cases := []struct {
		name string
		a, b []impl.Op
	}{
		{"Tenant", []impl.Op{{Kind: impl.OpUsed}}, []impl.Op{{Tenant: 1, Kind: impl.OpUsed}}},
		{"Kind", []impl.Op{{Kind: impl.OpHash, Handle: 32}}, []impl.Op{{Kind: impl.OpSize, Handle: 32}}},
		{"Handle", []impl.Op{{Kind: impl.OpSize, Handle: 32}}, []impl.Op{{Kind: impl.OpSize, Handle: 36}}},
		{"To", []impl.Op{{Kind: impl.OpSame, Handle: 32, To: 32}}, []impl.Op{{Kind: impl.OpSame, Handle: 32, To: 36}}},
		{"Index", []impl.Op{{Kind: impl.OpGet, Handle: 32}}, []impl.Op{get}},
		{"Value", []impl.Op{{Kind: impl.OpPut, Handle: 32, Index: 1, Value: 8}, get}, []impl.Op{{Kind: impl.OpPut, Handle: 32, Index: 1, Value: 9}, get}},
		{"one more", []impl.Op{get}, []impl.Op{get, get}},
		{"none", nil, []impl.Op{get}},
		{"another order", []impl.Op{{Kind: impl.OpUsed}, get}, []impl.Op{get, {Kind: impl.OpUsed}}},
	}
	for _, d := range cases {
		a, b := slices.Concat(base, d.a), slices.Concat(base, d.b)
		if impl.SameReplies(impl.ViewOf(c, a, 0).Replies, impl.ViewOf(c, b, 0).Replies) {
			t.Errorf("%s: the replies are the same", d.name)
		}
		wantBlind(t, d.name, c, a, b, 0)
		wantBlind(t, d.name+", seen by the other one", c, a, b, 1)
		wantBlind(t, d.name+", by force", c, a, forced(b, func(int) bool { return true }), 0)
	}
	wantBlind(t, "all other ones", c, base, nil, 0)
	wantBlind(t, "none at all", c, nil, []impl.Op{}, 1)
}

// TestIsBlindWhereTheOwnOpsAreTheSame has lists in which the tenant does the same, by force or not,
// in every order with those of the other one.
func TestIsBlindWhereTheOwnOpsAreTheSame(t *testing.T) {
	c := blindConfig()
	a := append(blindBase(), impl.Op{Kind: impl.OpGet, Handle: 32, Index: 1}, impl.Op{Tenant: 1, Kind: impl.OpNew, Index: 6}, impl.Op{Kind: impl.OpUsed})
	replies := []impl.Reply{{Value: 32}, {Value: 36}, {}, {Value: 5}, {Value: 7}}
	own, other := impl.OpsFor(a, 0).Ops, impl.OpsFor(a, 1).Ops
	visitTurns(len(a), func(turns []bool) {
		b := impl.MergeOps(own, other, turns).Ops
		for _, list := range [][]impl.Op{b, forced(b, func(int) bool { return true }), forced(b, func(n int) bool { return n%2 == 0 })} {
			what := fmt.Sprint("the turns ", turns)
			wantBlind(t, what, c, a, list, 0)
			wantBlind(t, what, c, a, list, 1)
			wantView(t, what, impl.ViewOf(c, list, 0), replies)
			wantView(t, what, impl.ViewOf(c, list, 1), []impl.Reply{{Value: 33}, {}, {Value: 65}})
		}
	})
	for n := range a {
		wantBlind(t, fmt.Sprint("the op ", n, " alone by force"), c, a, forced(a, func(i int) bool { return i == n }), a[n].Tenant)
	}
	for _, b := range [][]impl.Op{own, slices.Concat(other, other, own), slices.Concat(own, []impl.Op{{Tenant: 2, Kind: impl.OpNew}, {Tenant: -1, Force: true}})} {
		wantBlind(t, "others do something else", c, a, b, 0)
		wantView(t, "others do something else", impl.ViewOf(c, b, 0), replies)
	}
}

// TestIsBlindWhereAViewHasACode has no view of one of the lists, or of both.
func TestIsBlindWhereAViewHasACode(t *testing.T) {
	good, base := blindConfig(), blindBase()
	for _, tenant := range append([]int64{0, 1, 2, 4, 9, -1}, strange...) {
		wantBlind(t, "the same lists", good, base, blindBase(), tenant)
		wantBlind(t, "another list", good, base, base[1:], tenant)
		for _, n := range []int{301, 302, 100000} {
			many := slices.Concat(base, slices.Repeat([]impl.Op{{Tenant: 3}}, n-len(base)))
			wantBlind(t, "too many ops", good, base, many, tenant)
			wantBlind(t, "too many ops in both", good, many, slices.Clone(many), tenant)
			wantBlind(t, "too many ops that do nothing", good, nil, make([]impl.Op, n), tenant)
			wantBlind(t, "too many ops of a config with a fault", impl.Config{}, base, many, tenant)
		}
		for _, c := range awkwardConfigs() {
			wantBlind(t, "a config", c, base, base[1:], tenant)
			wantBlind(t, "a config, and the same lists", c, base, blindBase(), tenant)
		}
	}
}

// manyLists are ops of all tenants in several orders, by force now and then, never and always: of each
// tenant that there is the ops are the same in each of them, and so is what it is replied, which
// does not use the program.
func manyLists(r *rand.Rand, c impl.Config) (lists [][]impl.Op, seen [][]impl.Reply, machines []impl.Machine) {
	var own [][]impl.Op
	for n := range c.Quotas {
		list, replies, m := ownRun(r, c, n, r.IntN(60))
		own, seen, machines = append(own, list), append(seen, replies), append(machines, m)
	}
	var strangers []impl.Op
	for _, o := range own[0] {
		if o.Tenant = int64(len(c.Quotas)) + r.Int64N(3); r.IntN(6) == 0 {
			strangers = append(strangers, o)
		}
	}
	for range 2 {
		lists = append(lists, shuffledTogether(r, append(own, strangers)...))
	}
	other := shuffledTogether(r, append(own, strangers)...)
	lists = append(lists, forced(other, func(int) bool { return false }), forced(other, func(int) bool { return true }))
	return lists, seen, machines
}

// checkMany asks all that is promised of these lists, whose tenants do the same in each of them.
func checkMany(t *testing.T, what string, c impl.Config, lists [][]impl.Op, seen [][]impl.Reply, machines []impl.Machine) {
	t.Helper()
	for _, list := range lists {
		wantFaithful(t, what, c, list, true)
		end := impl.RunHeap(c, list)
		wantAudited(t, what, end.Heap)
		wantAbstracts(t, what, end.Heap, machines...)
		for n, replies := range seen {
			wantView(t, what, impl.ViewOf(c, list, int64(n)), replies)
			wantBlind(t, what, c, lists[0], list, int64(n))
		}
		for n := 0; n < len(list); n += 1 + len(list)/4 {
			wantAudited(t, fmt.Sprint(what, ", behind ", n, " ops"), impl.RunHeap(c, list[:n]).Heap)
		}
	}
}

// TestWhateverAllTenantsDo has lists of many kinds of ops, by force and without.
func TestWhateverAllTenantsDo(t *testing.T) {
	collections, made, refused := 0, 0, 0
	for seed := range uint64(70) {
		r := rand.New(rand.NewPCG(16, seed))
		c := anyConfig(r)
		lists, seen, machines := manyLists(r, c)
		what := fmt.Sprintf("the seed %d, %+v: %+v", seed, c, lists[0])
		checkMany(t, what, c, lists, seen, machines)
		end := impl.RunHeap(c, lists[2])
		collections += len(end.Collected)
		m, n := checkSpaces(t, what, end.Heap)
		made, refused = made+m, refused+n
	}
	// Otherwise these seeds show nothing of some kind.
	if collections < 30 || made < 100 || refused < 100 {
		t.Errorf("there were %d collections for room, %d objects made, and %d refused", collections, made, refused)
	}
}

// TestAuditsOfManyHeaps has heaps with garbage that no ops of these tenants made.
func TestAuditsOfManyHeaps(t *testing.T) {
	for seed := range uint64(300) {
		r := rand.New(rand.NewPCG(17, seed))
		h := manyHeld(r, 14+r.Int64N(1+r.Int64N(187)))
		what := fmt.Sprint("the seed ", seed)
		wantAudited(t, what, h)
		collected := impl.CollectHeap(h).Heap
		wantAudited(t, what+", collected", collected)
		wantWords(t, what+", collected", impl.HeldBy(collected), impl.OK, modelHeld(h)...)
		if seed%5 == 0 {
			checkSpaces(t, what, h)
		}
	}
}

// toldAudit has what any function of this chapter answers.
type toldAudit struct {
	parts impl.PartsResult
	space impl.IntResult
	isSo  bool
}

func equalAudits(a, b toldAudit) bool {
	return a.parts.Code == b.parts.Code && slices.Equal(a.parts.Words, b.parts.Words) && a.space == b.space && a.isSo == b.isSo
}

// auditCalls are calls of all functions of this chapter.
func auditCalls() map[string]func(v viewArguments) toldAudit {
	type call = func(v viewArguments) toldAudit
	calls := map[string]call{
		"HeldBy":     func(v viewArguments) toldAudit { return toldAudit{parts: impl.HeldBy(v.heap)} },
		"IsZeroed":   func(v viewArguments) toldAudit { return toldAudit{isSo: impl.IsZeroed(v.heap)} },
		"IsIsolated": func(v viewArguments) toldAudit { return toldAudit{isSo: impl.IsIsolated(v.heap)} },
		"IsFaithful": func(v viewArguments) toldAudit { return toldAudit{isSo: impl.IsFaithful(v.config, v.a)} },
	}
	for _, n := range []int64{0, 1, 2, 3, 9, -1} {
		of := fmt.Sprint(" of the tenant ", n)
		calls["SpaceFor"+of] = func(v viewArguments) toldAudit { return toldAudit{space: impl.SpaceFor(v.heap, n)} }
		calls["IsBlind"+of] = func(v viewArguments) toldAudit { return toldAudit{isSo: impl.IsBlind(v.config, v.a, v.b, n)} }
		calls["IsBlind and itself"+of] = func(v viewArguments) toldAudit { return toldAudit{isSo: impl.IsBlind(v.config, v.a, v.a, n)} }
	}
	return calls
}

func TestAuditsAnswerAlikeAndChangeNoArgument(t *testing.T) {
	copied := func(told toldAudit) toldAudit {
		told.parts.Words = slices.Clone(told.parts.Words)
		return told
	}
	wantCallsAlike(t, auditCalls(), equalAudits, copied, func(told toldAudit) { fill(told.parts.Words) })
}
