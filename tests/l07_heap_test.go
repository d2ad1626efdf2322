package tests

import (
	"fmt"
	"math"
	"math/rand/v2"
	"slices"
	"testing"

	"loop.example/g00723/impl"
)

func TestConfigsWithoutAFault(t *testing.T) {
	list := []impl.Config{
		{Half: 8, Quotas: []int64{2}, Slots: []int64{1}},
		{Half: 8, Quotas: []int64{8}, Slots: []int64{8}},
		{Half: 8, Quotas: []int64{2, 2, 2, 2}, Slots: []int64{1, 8, 8, 1}},
		{Half: 9, Quotas: []int64{2, 2, 2, 2}, Slots: []int64{3, 3, 3, 3}},
		{Half: 200, Quotas: []int64{200}, Slots: []int64{4}},
		{Half: 200, Quotas: []int64{50, 51, 49, 50}, Slots: []int64{1, 2, 3, 4}},
		{Half: 200, Quotas: []int64{2, 198}, Slots: []int64{8, 1}},
		{Half: 30, Quotas: []int64{9, 10, 11}, Slots: []int64{2, 7, 5}},
	}
	for _, c := range list {
		what := fmt.Sprintf("%+v", c)
		wantConfigFault(t, what, c, impl.OK)
		want := impl.Heap{Arena: impl.Arena{Half: c.Half, Words: make([]int64, 2*c.Half)}}
		var machines []impl.Machine
		for n, quota := range c.Quotas {
			want.Tenants = append(want.Tenants, impl.HeapTenant{Quota: quota, Slots: make([]impl.HeapSlot, c.Slots[n])})
			machines = append(machines, impl.Machine{Tenant: int64(n), Quota: quota, Slots: make([]impl.Slot, c.Slots[n])})
		}
		wantHeap(t, "NewHeap of "+what, impl.NewHeap(c), want, nil)
		wantHeapFault(t, "a new heap of "+what, want, impl.OK)
		wantInts(t, "RootsOf a new heap of "+what, impl.RootsOf(want), impl.OK)
		for _, none := range [][]impl.Op{nil, {}} {
			wantHeap(t, "RunHeap of no ops of "+what, impl.RunHeap(c, none), want, nil)
			wantProduct(t, "RunProduct of no ops of "+what, impl.RunProduct(c, none), nil, machines...)
		}
	}
}

func TestNumbersOfConfigs(t *testing.T) {
	good := impl.Config{Half: 40, Quotas: []int64{10, 10, 10}, Slots: []int64{2, 3, 4}}
	for _, n := range append([]int64{30, 31, 38, 39, 40, 41, 198}, strange...) {
		c := good
		c.Half = n
		switch {
		case n < 8 || n > 200:
			wantConfigFault(t, "a Half out of bounds", c, impl.ErrRange)
		case n < 30:
			wantConfigFault(t, "a Half below all quotas", c, impl.ErrFull)
		default:
			wantConfigFault(t, "a Half", c, impl.OK)
		}
		for tenant := range 3 {
			c = good
			c.Quotas = slices.Clone(good.Quotas)
			c.Quotas[tenant] = n
			switch {
			case n < 2 || n > 200:
				wantConfigFault(t, fmt.Sprint("the quota ", tenant, " out of bounds"), c, impl.ErrRange)
			case n > 20:
				wantConfigFault(t, fmt.Sprint("the quota ", tenant, " is too much beside the others"), c, impl.ErrFull)
			default:
				wantConfigFault(t, fmt.Sprint("the quota ", tenant), c, impl.OK)
			}
			c = good
			c.Slots = slices.Clone(good.Slots)
			c.Slots[tenant] = n
			if n < 1 || n > 8 {
				wantConfigFault(t, fmt.Sprint("the slots ", tenant, " out of bounds"), c, impl.ErrRange)
			} else {
				wantConfigFault(t, fmt.Sprint("the slots ", tenant), c, impl.OK)
			}
		}
	}
}

func TestTenantsOfConfigs(t *testing.T) {
	for quotas := range 7 {
		for slots := range 7 {
			c := impl.Config{Half: 20, Quotas: slices.Repeat([]int64{3}, quotas), Slots: slices.Repeat([]int64{2}, slots)}
			code := int64(impl.ErrMany)
			if quotas == slots && quotas >= 1 && quotas <= 4 {
				code = impl.OK
			}
			wantConfigFault(t, "so many tenants", c, code)
		}
	}
	wantConfigFault(t, "very many", impl.Config{Half: 20, Quotas: make([]int64, 100000), Slots: make([]int64, 100000)}, impl.ErrMany)
}

// TestConfigFaultsInOrder has configs of which more than one code would be so.
func TestConfigFaultsInOrder(t *testing.T) {
	wantConfigFault(t, "the zero value", impl.Config{}, impl.ErrRange)
	wantConfigFault(t, "a Half, and no tenants", impl.Config{Half: 7}, impl.ErrRange)
	wantConfigFault(t, "a Half, and more Slots than Quotas", impl.Config{Half: 201, Quotas: []int64{2}, Slots: []int64{1, 1}}, impl.ErrRange)
	wantConfigFault(t, "too few Slots, and a quota", impl.Config{Half: 20, Quotas: []int64{1, 2}, Slots: []int64{1}}, impl.ErrMany)
	wantConfigFault(t, "too few Slots, and slots", impl.Config{Half: 20, Quotas: []int64{2, 2}, Slots: []int64{9}}, impl.ErrMany)
	wantConfigFault(t, "too many Slots, and quotas above the Half", impl.Config{Half: 20, Quotas: []int64{12, 12}, Slots: []int64{1, 1, 1}}, impl.ErrMany)
	wantConfigFault(t, "five of each, and a quota", impl.Config{Half: 20, Quotas: []int64{2, 2, 2, 2, 0}, Slots: []int64{1, 1, 1, 1, 1}}, impl.ErrMany)
	wantConfigFault(t, "a quota and slots", impl.Config{Half: 20, Quotas: []int64{1, 2}, Slots: []int64{0, 9}}, impl.ErrRange)
	wantConfigFault(t, "a quota, and quotas above the Half", impl.Config{Half: 20, Quotas: []int64{30, 1}, Slots: []int64{1, 1}}, impl.ErrRange)
	wantConfigFault(t, "slots, and quotas above the Half", impl.Config{Half: 20, Quotas: []int64{30, 2}, Slots: []int64{1, 0}}, impl.ErrRange)
	wantConfigFault(t, "quotas that overflow together", impl.Config{Half: 20, Quotas: []int64{math.MaxInt64, math.MaxInt64, 4}, Slots: []int64{1, 1, 1}}, impl.ErrRange)
}

// TestQuotasThatFillTheHalf has quotas that are together just the Half, and one above it.
func TestQuotasThatFillTheHalf(t *testing.T) {
	for _, quotas := range [][]int64{{8}, {200}, {6, 6}, {2, 9, 4}, {50, 50, 50, 50}, {2, 2, 2, 194}, {197, 3}} {
		c := impl.Config{Quotas: quotas, Slots: slices.Repeat([]int64{2}, len(quotas))}
		for _, n := range quotas {
			c.Half += n
		}
		wantConfigFault(t, "just the Half", c, impl.OK)
		wantHeapFault(t, "just the Half", impl.NewHeap(c).Heap, impl.OK)
		h := impl.NewHeap(c).Heap
		c.Quotas = slices.Clone(quotas)
		if c.Quotas[0]++; c.Quotas[0] > 200 {
			continue
		}
		wantConfigFault(t, "one above the Half", c, impl.ErrFull)
		h.Tenants[0].Quota++
		wantHeapFault(t, "one above the Half", h, impl.ErrFull)
	}
}

// richPlan holds, of the tenants 0 and 1, just the quotas.
func richPlan(active int64) plan {
	return workPlan(24, active, 8, 8, 7)
}

func TestHeapsWithoutAFault(t *testing.T) {
	for active := range int64(2) {
		rich := richPlan(active)
		right := func(what string, change func(p *plan)) {
			t.Helper()
			wantHeapFault(t, what, rich.with(change).heap(), impl.OK)
		}
		right("a rich one", func(*plan) {})
		right("with room", func(p *plan) { p.half = 200 })
		right("garbage is held", func(p *plan) {
			p.tenants[1].Quota, p.half, p.tenants[1].Slots[2] = 10, 40, impl.HeapSlot{Gen: 1, At: 5}
		})
		right("a slot of a tenant leads to what another one of it leads to", func(p *plan) { p.tenants[1].Slots[2] = impl.HeapSlot{Gen: 1, At: 4} })
		right("a Hash below those of objects", func(p *plan) { p.tenants[2].Hash = 0 })
		right("the greatest Hash", func(p *plan) { p.tenants[0].Hash = 99999 })
		right("one tenant", func(p *plan) { p.tenants = p.tenants[:1] })
		right("an owner that there is not has garbage", func(p *plan) { p.tenants = p.tenants[:2]; p.objects[6].Head.Owner = 3 })
		right("four tenants", func(p *plan) {
			p.half = 26
			p.tenants = append(p.tenants, impl.HeapTenant{Quota: 2, Slots: make([]impl.HeapSlot, 8)})
		})
		right("all slots are free", func(p *plan) {
			for _, tenant := range p.tenants {
				for i := range tenant.Slots {
					tenant.Slots[i].At = 0
				}
			}
		})
	}
	least := impl.Heap{Arena: laid(8, 0), Tenants: []impl.HeapTenant{{Quota: 2, Slots: make([]impl.HeapSlot, 1)}}}
	wantHeapFault(t, "the least one", least, impl.OK)
	greatest := plan{half: 200, objects: chain(66, 1), tenants: []impl.HeapTenant{{Quota: 2, Slots: make([]impl.HeapSlot, 1)}, {Quota: 0, Slots: slices.Repeat([]impl.HeapSlot{{Gen: 99, At: 1}}, 8)}}}
	for i := range greatest.objects {
		greatest.objects[i].Head.Owner = 1
	}
	for quota := int64(190); quota <= 201; quota++ {
		greatest.tenants[1].Quota = quota
		code := int64(impl.OK)
		switch {
		case quota > 200:
			code = impl.ErrRange
		case quota < 198:
			code = impl.ErrQuota
		case quota > 198:
			code = impl.ErrFull
		}
		wantHeapFault(t, fmt.Sprint("a long chain and the quota ", quota), greatest.heap(), code)
	}
}

// heapFault makes one fault in a heap that was right. Of two of them the one of the less rank is
// the answer: ranks are told as the document orders codes. What has the same key cannot be made
// together.
type heapFault struct {
	name string
	rank []int
	key  string
	code int64
	make func(h *impl.Heap)
}

// Ranks of what comes ahead of, and behind, the tenants that are asked one by one.
const (
	rankShape = iota
	rankTenants
	rankTenant
	rankHeld
	rankQuotas
)

func shapeFaults() []heapFault {
	var list []heapFault
	for _, f := range faultyShapes() {
		list = append(list, heapFault{f.name, []int{rankShape}, "arena", f.code, func(h *impl.Heap) { h.Arena = copied(f.arena) }})
	}
	return list
}

func tenantCountFaults() []heapFault {
	rank := []int{rankTenants}
	return []heapFault{
		{"no tenants", rank, "tenants", impl.ErrMany, func(h *impl.Heap) { h.Tenants = nil }},
		{"very many tenants", rank, "tenants", impl.ErrMany, func(h *impl.Heap) { h.Tenants = append(h.Tenants, make([]impl.HeapTenant, 5000)...) }},
		{"five tenants", rank, "tenants", impl.ErrMany, func(h *impl.Heap) {
			h.Tenants = append(h.Tenants, slices.Repeat(h.Tenants[:1], 5-len(h.Tenants))...)
		}},
	}
}

func tenantFaults(tenant int) []heapFault {
	var list []heapFault
	of := fmt.Sprint(" of the tenant ", tenant)
	for _, n := range strange {
		if n < 2 || n > 200 {
			list = append(list, heapFault{fmt.Sprint("the Quota ", n, of), []int{rankTenant, tenant, 0}, "quota" + of, impl.ErrRange, func(h *impl.Heap) { h.Tenants[tenant].Quota = n }})
		}
		if n < 0 || n > 99999 {
			list = append(list, heapFault{fmt.Sprint("the Hash ", n, of), []int{rankTenant, tenant, 0}, "hash" + of, impl.ErrRange, func(h *impl.Heap) { h.Tenants[tenant].Hash = n }})
		}
	}
	list = append(list, heapFault{"the Hash 100000" + of, []int{rankTenant, tenant, 0}, "hash" + of, impl.ErrRange, func(h *impl.Heap) { h.Tenants[tenant].Hash = 100000 }})
	for _, n := range []int{9, 3000} {
		list = append(list, heapFault{fmt.Sprint(n, " slots", of), []int{rankTenant, tenant, 1}, "slots" + of, impl.ErrMany, func(h *impl.Heap) {
			slots := &h.Tenants[tenant].Slots
			*slots = append(*slots, make([]impl.HeapSlot, n-len(*slots))...)
		}})
	}
	return append(list, heapFault{"no slots" + of, []int{rankTenant, tenant, 1}, "slots" + of, impl.ErrMany, func(h *impl.Heap) { h.Tenants[tenant].Slots = nil }})
}

func heapSlotFaults(good impl.Heap, tenant, slot int) []heapFault {
	of := fmt.Sprint(" of the slot ", slot, " of the tenant ", tenant)
	change := func(n int, change func(s *impl.HeapSlot)) ([]int, func(h *impl.Heap)) {
		return []int{rankTenant, tenant, 2, slot, n}, func(h *impl.Heap) { change(&h.Tenants[tenant].Slots[slot]) }
	}
	var list []heapFault
	for _, n := range append([]int64{100}, strange...) {
		if n < 0 || n > 99 {
			rank, fault := change(0, func(s *impl.HeapSlot) { s.Gen = n })
			list = append(list, heapFault{fmt.Sprint("the Gen ", n, of), rank, "gen" + of, impl.ErrRange, fault})
		}
	}
	owners := map[int64]int64{}
	for _, o := range modelObjects(good.Arena) {
		owners[o.At+1] = o.Head.Owner
	}
	for _, n := range append(numbersUpTo(2*good.Arena.Half+3), strange...) {
		owner, isThere := owners[n]
		code, number := int64(impl.ErrNone), 1
		if isThere {
			code, number = impl.ErrHandle, 2
		}
		if n == 0 || isThere && owner == int64(tenant) {
			continue
		}
		rank, fault := change(number, func(s *impl.HeapSlot) { s.At = n })
		list = append(list, heapFault{fmt.Sprint("the At ", n, of), rank, "at" + of, code, fault})
	}
	if good.Tenants[tenant].Slots[slot].At != 0 {
		rank, fault := change(3, func(s *impl.HeapSlot) { s.Gen = 0 })
		list = append(list, heapFault{"a Gen of 0" + of, rank, "gen" + of, impl.ErrState, fault})
	}
	return list
}

func numbersUpTo(n int64) []int64 {
	var list []int64
	for i := range n + 1 {
		list = append(list, i)
	}
	return list
}

// sumFaults are of richPlan: its half is one above all its quotas.
func sumFaults() []heapFault {
	quota := func(tenant int, n int64) (string, func(h *impl.Heap)) {
		return fmt.Sprint("quota of the tenant ", tenant), func(h *impl.Heap) { h.Tenants[tenant].Quota = n }
	}
	var list []heapFault
	for tenant, held := range []int64{8, 8, 3} {
		for _, n := range []int64{2, held - 1} {
			key, fault := quota(tenant, n)
			list = append(list, heapFault{fmt.Sprint("the tenant ", tenant, " has the Quota ", n), []int{rankHeld}, key, impl.ErrQuota, fault})
		}
	}
	for tenant, most := range []int64{9, 9, 8} {
		// Quotas that others have less of are so many words more at most.
		for _, n := range []int64{most + 1, 199, 200} {
			key, fault := quota(tenant, n)
			list = append(list, heapFault{fmt.Sprint("the tenant ", tenant, " has the Quota ", n), []int{rankQuotas}, key, impl.ErrFull, fault})
		}
	}
	return list
}

func heapFaults(good impl.Heap) []heapFault {
	list := tenantCountFaults()
	for tenant, h := range good.Tenants {
		list = append(list, tenantFaults(tenant)...)
		for slot := range h.Slots {
			list = append(list, heapSlotFaults(good, tenant, slot)...)
		}
	}
	list = append(list, sumFaults()...)
	return append(list, shapeFaults()...)
}

func TestHeapFaultsAlone(t *testing.T) {
	for active := range int64(2) {
		good := richPlan(active).heap()
		for _, f := range heapFaults(good) {
			h := copiedHeap(good)
			f.make(&h)
			wantHeapFault(t, f.name, h, f.code)
		}
	}
	wantHeapFault(t, "the zero value", impl.Heap{}, impl.ErrRange)
}

// fewHeapFaults are the last fault of each kind, place and key.
func fewHeapFaults(good impl.Heap) []heapFault {
	last := map[string]heapFault{}
	for _, f := range heapFaults(good) {
		last[fmt.Sprint(f.rank, f.key)] = f
	}
	var list []heapFault
	for _, f := range last {
		list = append(list, f)
	}
	slices.SortFunc(list, func(a, b heapFault) int { return slices.Compare(a.rank, b.rank) })
	return list
}

func TestHeapFaultsInOrder(t *testing.T) {
	for active := range int64(2) {
		good := richPlan(active).heap()
		few := fewHeapFaults(good)
		for n, first := range few {
			for _, second := range few[n+1:] {
				if first.key == second.key {
					continue
				}
				// What removes a list comes ahead in rank, and is made behind what is in the list.
				h := copiedHeap(good)
				second.make(&h)
				first.make(&h)
				if got := impl.HeapFault(h); got != first.code {
					t.Errorf("%s, and %s: HeapFault is %d, want %d, of %+v", first.name, second.name, got, first.code, h)
				}
			}
		}
	}
}

// TestSomeHeapFaultsInOrder has faults written by hand.
func TestSomeHeapFaultsInOrder(t *testing.T) {
	refuse := func(what string, code int64, change func(p *plan)) {
		t.Helper()
		wantHeapFault(t, what, richPlan(1).with(change).heap(), code)
	}
	refuse("a later tenant's slot of another owner, and an earlier tenant's Quota is exceeded", impl.ErrHandle, func(p *plan) {
		p.tenants[0].Quota = 7
		p.tenants[2].Slots[1] = impl.HeapSlot{Gen: 1, At: 1}
	})
	refuse("a later tenant's slot was never given, and an earlier tenant's Quota is exceeded", impl.ErrState, func(p *plan) {
		p.tenants[0].Quota = 7
		p.tenants[2].Slots[0].Gen = 0
	})
	refuse("an earlier tenant's slot of another owner, and a later tenant's Quota is none", impl.ErrHandle, func(p *plan) {
		p.tenants[0].Slots[2].At = 7
		p.tenants[1].Quota = 1
	})
	refuse("an earlier slot was never given, and a later slot's Gen is none", impl.ErrState, func(p *plan) {
		p.tenants[1].Slots[1].Gen = 0
		p.tenants[1].Slots[3].Gen = 100
	})
	refuse("a slot of another owner was never given", impl.ErrHandle, func(p *plan) {
		p.tenants[1].Slots[2] = impl.HeapSlot{At: 1}
	})
	refuse("a Quota is exceeded, and all quotas are above the Half", impl.ErrQuota, func(p *plan) {
		p.tenants[0].Quota = 200
		p.tenants[1].Quota = 7
	})
	refuse("a pointer of an object that nobody holds is astray, and there are no tenants", impl.ErrState, func(p *plan) {
		p.objects[5].Fields[0] = 5
		p.tenants = nil
	})
}

func TestRootsOf(t *testing.T) {
	for active := range int64(2) {
		base := 30 * active
		wantInts(t, "by slots", impl.RootsOf(roomyWork(active).heap()), impl.OK, base, base+8, base+8, base+12, base+21)
		turned := roomyWork(active).with(func(p *plan) {
			p.tenants[0].Slots[2] = impl.HeapSlot{Gen: 9, At: 2}
			p.tenants[1].Slots[0].At = 0
			p.tenants[1].Slots[2] = impl.HeapSlot{Gen: 1, At: 4}
			p.tenants[2].Slots[0].At = 0
		})
		wantInts(t, "by other slots", impl.RootsOf(turned.heap()), impl.OK, base, base+5, base+8, base+12, base+12)
	}
	most := plan{half: 200, objects: []impl.Object{made(0, 0, 1), made(1, 0, 2), made(2, 0, 3), made(3, 0, 4)}}
	var roots []int64
	for n := range int64(4) {
		most.tenants = append(most.tenants, impl.HeapTenant{Quota: 50, Slots: slices.Repeat([]impl.HeapSlot{{Gen: 5, At: n + 1}}, 8)})
		roots = append(roots, slices.Repeat([]int64{2 * n}, 8)...)
	}
	wantInts(t, "the most slots", impl.RootsOf(most.heap()), impl.OK, roots...)
	wantCollection(t, "the most slots", most.heap())
}

func TestCollectHeap(t *testing.T) {
	for active := range int64(2) {
		for _, half := range []int64{30, 31, 200} {
			work := workPlan(half, active, 12, 10, 8)
			once := collectedWork(work)
			wantHeap(t, "with garbage", impl.CollectHeap(work.heap()), once.heap(), nil, workMoved)
			wantHeap(t, "without garbage", impl.CollectHeap(once.heap()), once.collected(0, 1, 2, 3, 4).heap(), nil, workMoved)
			wantCollection(t, "with garbage", work.heap())
			wantCollection(t, "without garbage", once.heap())
		}
		full := richPlan(active)
		wantHeap(t, "a half that is just full", impl.CollectHeap(full.heap()), collectedWork(full).heap(), nil, workMoved)
		free := full.with(func(p *plan) {
			for _, tenant := range p.tenants {
				for i := range tenant.Slots {
					tenant.Slots[i].At = 0
				}
			}
		})
		wantHeap(t, "nobody holds anything", impl.CollectHeap(free.heap()), free.collected().heap(), nil, 0)
		empty := impl.Heap{Arena: laid(8, active), Tenants: []impl.HeapTenant{{Quota: 3, Hash: 7, Slots: []impl.HeapSlot{{Gen: 99}, {}}}}}
		after := copiedHeap(empty)
		after.Arena.Active = 1 - active
		wantHeap(t, "nothing is taken", impl.CollectHeap(empty), after, nil, 0)
	}
}

// TestOneHolder collects heaps in which one tenant alone has slots that lead to something.
func TestOneHolder(t *testing.T) {
	for tenant := range 3 {
		p := roomyWork(0).with(func(p *plan) {
			for n, other := range p.tenants {
				for i := range other.Slots {
					if n != tenant {
						other.Slots[i].At = 0
					}
				}
			}
		})
		held := [][]int{{0, 1}, {2, 3}, {6}}[tenant]
		got := impl.CollectHeap(p.heap())
		wantHeap(t, fmt.Sprint("the tenant ", tenant), got, p.collected(held...).heap(), nil, []int64{8, 8, 3}[tenant])
		wantCollection(t, fmt.Sprint("the tenant ", tenant), p.heap())
	}
}

func TestManyHeapsCollected(t *testing.T) {
	for seed := range uint64(600) {
		r := rand.New(rand.NewPCG(7, seed))
		h := manyHeld(r, 14+r.Int64N(187))
		what := fmt.Sprint("the seed ", seed)
		wantHeapFault(t, what, h, impl.OK)
		wantCollection(t, what, h)
		wantInts(t, what, impl.RootsOf(h), impl.OK, modelRoots(h, numbersTo(len(h.Tenants))...)...)
		once := impl.CollectHeap(h)
		twice := impl.CollectHeap(once.Heap)
		if twice.Code != impl.OK || !slices.Equal(twice.Collected, once.Collected) || len(modelObjects(twice.Heap.Arena)) != len(modelObjects(once.Heap.Arena)) {
			t.Errorf("%s: a second collection moves %v, and the first one %v", what, twice.Collected, once.Collected)
		}
	}
}

// TestWhatEachKindDoesInAHeap has each op as it is, and ahead of it a collection by force.
func TestWhatEachKindDoesInAHeap(t *testing.T) {
	for active := range int64(2) {
		for _, half := range []int64{30, 200} {
			work := workPlan(half, active, 12, 10, 8)
			for _, c := range heapCases() {
				what, replies := fmt.Sprintf("%+v", c.op), []impl.Reply{{Value: c.reply}}
				wantHeap(t, what, impl.DoHeap(work.heap(), c.op), work.with(c.change).heap(), replies)
				checkHeapStep(t, what, work.heap(), c.op)
				o := c.op
				o.Force = true
				wantHeap(t, what+" by force", impl.DoHeap(work.heap(), o), collectedWork(work).with(c.change).heap(), replies, workMoved)
				checkHeapStep(t, what+" by force", work.heap(), o)
				wantHeap(t, what+" behind a collection", impl.DoHeap(collectedWork(work).heap(), c.op), collectedWork(work).with(c.change).heap(), replies)
			}
		}
	}
}

// TestWhatEachKindRefusesInAHeap asks that nothing is turned then, but by force.
func TestWhatEachKindRefusesInAHeap(t *testing.T) {
	plans := []plan{roomyWork(0), roomyWork(1), workPlan(200, 0, 12, 10, 8), richPlan(0), workPlan(25, 1, 9, 8, 7)}
	for _, work := range plans {
		for _, r := range heapRefusals() {
			replies := []impl.Reply{{Code: r.code}}
			wantHeap(t, r.name, impl.DoHeap(work.heap(), r.op), work.heap(), replies)
			o := r.op
			o.Force = true
			wantHeap(t, r.name+" by force", impl.DoHeap(work.heap(), o), collectedWork(work).heap(), replies, workMoved)
		}
	}
	for _, r := range heapRefusals() {
		checkHeapStep(t, r.name, roomyWork(0).heap(), r.op)
	}
}

// TestRoomInTheHalf has halves with as many words left as are needed, less and more. Where there is
// room, nothing is collected; where there is none, what all tenants have is collected once.
func TestRoomInTheHalf(t *testing.T) {
	for active := range int64(2) {
		for half := int64(24); half <= 40; half++ {
			for size := range int64(5) {
				p := workPlan(half, active, 8, 8, 3)
				// One tenant has all that the others leave of the half.
				for tenant, used := range []int64{8, 8, 3} {
					p := p.with(func(p *plan) { p.tenants[tenant].Quota += half - 19 })
					h := p.heap()
					o := impl.Op{Tenant: int64(tenant), Kind: impl.OpNew, Index: size, Value: 1<<size - 1}
					what := fmt.Sprintf("the half %d: %+v", half, o)
					slot := []int{1, 2, 1}[tenant]
					gen := []int64{2, 1, 1}[tenant]
					made := func(p *plan) {
						hash := p.tenants[tenant].Hash + 1
						p.objects = append(p.objects, made(int64(tenant), 1<<size-1, hash, make([]int64, size)...))
						p.tenants[tenant].Hash = hash
						p.tenants[tenant].Slots[slot] = impl.HeapSlot{Gen: gen, At: int64(len(p.objects))}
					}
					given := []impl.Reply{{Value: word(int64(tenant), int64(slot), gen)}}
					isRefused := used+2+size > p.tenants[tenant].Quota
					refused := []impl.Reply{{Code: impl.ErrQuota}}
					checkHeapStep(t, what, h, o)
					switch got := impl.DoHeap(h, o); {
					case isRefused:
						wantHeap(t, what, got, h, refused)
					case 24+2+size <= half:
						wantHeap(t, what, got, p.with(made).heap(), given)
					default:
						wantHeap(t, what, got, collectedWork(p).with(made).heap(), given, workMoved)
					}
					o.Force = true
					checkHeapStep(t, what, h, o)
					if got := impl.DoHeap(h, o); isRefused {
						wantHeap(t, what, got, collectedWork(p).heap(), refused, workMoved)
					} else {
						wantHeap(t, what, got, collectedWork(p).with(made).heap(), given, workMoved)
					}
				}
			}
		}
	}
}

// TestAHalfThatIsFullOfWhatIsHeld has all quotas used: nothing is garbage, and no word is left.
func TestAHalfThatIsFullOfWhatIsHeld(t *testing.T) {
	c := impl.Config{Half: 20, Quotas: []int64{9, 4, 7}, Slots: []int64{3, 2, 2}}
	fill := []impl.Op{
		{Kind: impl.OpNew, Index: 3, Value: 1}, {Tenant: 1, Kind: impl.OpNew, Index: 2}, {Tenant: 2, Kind: impl.OpNew, Index: 5, Value: 16},
		{Kind: impl.OpNew, Index: 2},
	}
	full := impl.RunHeap(c, fill)
	wantHeap(t, "all quotas are used", full, plan{20, 0, []impl.Object{
		made(0, 1, 1, 0, 0, 0), made(1, 0, 1, 0, 0), made(2, 16, 1, 0, 0, 0, 0, 0), made(0, 0, 2, 0, 0),
	}, []impl.HeapTenant{
		{Quota: 9, Hash: 2, Slots: []impl.HeapSlot{{Gen: 1, At: 1}, {Gen: 1, At: 4}, {}}},
		{Quota: 4, Hash: 1, Slots: []impl.HeapSlot{{Gen: 1, At: 2}, {}}},
		{Quota: 7, Hash: 1, Slots: []impl.HeapSlot{{Gen: 1, At: 3}, {}}},
	}}.heap(), []impl.Reply{{Value: 32}, {Value: 33}, {Value: 34}, {Value: 36}})
	wantHeapFault(t, "all quotas are used", full.Heap, impl.OK)
	for tenant := range int64(3) {
		o := impl.Op{Tenant: tenant, Kind: impl.OpNew}
		wantHeap(t, "one more", impl.DoHeap(full.Heap, o), full.Heap, []impl.Reply{{Code: impl.ErrQuota}})
	}
	wantHeap(t, "a collection", impl.CollectHeap(full.Heap), modelCollected(full.Heap), nil, 20)
	// Each tenant drops what it has and makes as much anew, by turns.
	for tenant := range int64(3) {
		dropped := checkHeapStep(t, "a drop", full.Heap, impl.Op{Tenant: tenant, Kind: impl.OpDrop, Handle: 32 + tenant})
		size := []int64{3, 2, 5}[tenant]
		again := checkHeapStep(t, "as much anew", dropped.Heap, impl.Op{Tenant: tenant, Kind: impl.OpNew, Index: size})
		if again.Heap.Arena.Bump != 20 || !slices.Equal(again.Collected, []int64{18 - size}) {
			t.Errorf("the tenant %d: %+v", tenant, again)
		}
		checkHeapStep(t, "one word more", dropped.Heap, impl.Op{Tenant: tenant, Kind: impl.OpNew, Index: size + 1})
	}
}

// TestOneWordLeft has a half in which there is one word less than the least object has.
func TestOneWordLeft(t *testing.T) {
	c := impl.Config{Half: 9, Quotas: []int64{5, 4}, Slots: []int64{1, 1}}
	list := []impl.Op{{Kind: impl.OpNew, Index: 3}, {Tenant: 1, Kind: impl.OpNew, Index: 1}, {Tenant: 1, Kind: impl.OpDrop, Handle: 33}, {Tenant: 1, Kind: impl.OpNew}}
	got := impl.RunHeap(c, list)
	wantHeap(t, "one word is left", got, plan{9, 1, []impl.Object{made(0, 0, 1, 0, 0, 0), made(1, 0, 2)}, []impl.HeapTenant{
		{Quota: 5, Hash: 1, Slots: []impl.HeapSlot{{Gen: 1, At: 1}}},
		{Quota: 4, Hash: 2, Slots: []impl.HeapSlot{{Gen: 2, At: 2}}},
	}}.heap(), []impl.Reply{{Value: 32}, {Value: 33}, {}, {Value: 65}}, 5)
	// What the other tenant does not hold any more makes room, too, and what it holds stays.
	list[2], list[3] = impl.Op{Kind: impl.OpDrop, Handle: 32}, impl.Op{Kind: impl.OpNew}
	got = impl.RunHeap(c, list)
	wantHeap(t, "one word is left, and the other one is gone", got, plan{9, 1, []impl.Object{made(1, 0, 1, 0), made(0, 0, 2)}, []impl.HeapTenant{
		{Quota: 5, Hash: 2, Slots: []impl.HeapSlot{{Gen: 2, At: 2}}},
		{Quota: 4, Hash: 1, Slots: []impl.HeapSlot{{Gen: 1, At: 1}}},
	}}.heap(), []impl.Reply{{Value: 32}, {Value: 33}, {}, {Value: 64}}, 3)
}

// TestGarbageOfOthersIsCollected has one tenant that fills the half with garbage, and another one
// that wants room.
func TestGarbageOfOthersIsCollected(t *testing.T) {
	c := impl.Config{Half: 12, Quotas: []int64{6, 6}, Slots: []int64{2, 2}}
	list := []impl.Op{
		{Kind: impl.OpNew, Index: 4}, {Kind: impl.OpDrop, Handle: 32}, {Kind: impl.OpNew, Index: 4}, {Kind: impl.OpDrop, Handle: 64},
		{Tenant: 1, Kind: impl.OpUsed}, {Tenant: 1, Kind: impl.OpNew, Index: 4},
	}
	replies := []impl.Reply{{Value: 32}, {}, {Value: 64}, {}, {}, {Value: 33}}
	full := impl.RunHeap(c, list[:5])
	if full.Heap.Arena.Bump != 12 || len(full.Collected) != 0 {
		t.Errorf("what nobody holds any more is gone ahead of a collection: %+v", full)
	}
	wantHeap(t, "all is garbage", impl.RunHeap(c, list), plan{12, 1, []impl.Object{made(1, 0, 1, 0, 0, 0, 0)}, []impl.HeapTenant{
		{Quota: 6, Hash: 2, Slots: []impl.HeapSlot{{Gen: 2}, {}}},
		{Quota: 6, Hash: 1, Slots: []impl.HeapSlot{{Gen: 1, At: 1}, {}}},
	}}.heap(), replies, 0)
}

// TestGarbageStaysUntilItIsCollected drops a ring, and unlinks from an object what it alone led to.
func TestGarbageStaysUntilItIsCollected(t *testing.T) {
	ring := plan{40, 0, []impl.Object{made(0, 1, 1, 2), made(0, 1, 2, 1, 5), made(0, 1, 3, 1), made(1, 3, 1, 4, 4)}, []impl.HeapTenant{
		{Quota: 20, Hash: 3, Slots: []impl.HeapSlot{{Gen: 1, At: 3}, {Gen: 1, At: 2}}},
		{Quota: 20, Hash: 1, Slots: []impl.HeapSlot{{Gen: 1, At: 4}}},
	}}
	steps := []struct {
		op        impl.Op
		reply     int64
		change    func(p *plan)
		collected []int
		moved     int64
	}{
		{impl.Op{Kind: impl.OpUsed}, 10, func(*plan) {}, []int{2, 1, 3, 0}, 14},
		{impl.Op{Kind: impl.OpDrop, Handle: 36}, 0, func(p *plan) { p.tenants[0].Slots[1].At = 0 }, []int{2, 3, 0, 1}, 14},
		{impl.Op{Kind: impl.OpUsed}, 10, func(*plan) {}, []int{2, 3, 0, 1}, 14},
		{impl.Op{Kind: impl.OpLink, Handle: 32}, 0, func(p *plan) { p.objects[2].Fields[0] = 0 }, []int{2, 3}, 7},
		{impl.Op{Kind: impl.OpUsed}, 3, func(*plan) {}, []int{2, 3}, 7},
		{impl.Op{Tenant: 1, Kind: impl.OpLink, Handle: 33, Index: 1}, 0, func(p *plan) { p.objects[3].Fields[1] = 0 }, []int{2, 3}, 7},
		{impl.Op{Kind: impl.OpDrop, Handle: 32}, 0, func(p *plan) { p.tenants[0].Slots[0].At = 0 }, []int{3}, 4},
		{impl.Op{Kind: impl.OpUsed}, 0, func(*plan) {}, []int{3}, 4},
		{impl.Op{Tenant: 1, Kind: impl.OpUsed}, 4, func(*plan) {}, []int{3}, 4},
	}
	p := ring
	for _, s := range steps {
		what := fmt.Sprintf("%+v", s.op)
		got := impl.DoHeap(p.heap(), s.op)
		p = p.with(s.change)
		wantHeap(t, what, got, p.heap(), []impl.Reply{{Value: s.reply}})
		wantHeap(t, what+", collected", impl.CollectHeap(p.heap()), p.collected(s.collected...).heap(), nil, s.moved)
	}
}

// TestSlotsThatCannotBeGiven has slots that are free, but whose Gen is at its end. The half is just
// full, so that a new object would need a collection.
func TestSlotsThatCannotBeGiven(t *testing.T) {
	p := workPlan(24, 1, 10, 8, 5).with(func(p *plan) {
		p.tenants[0].Slots[1].Gen = 99
		p.tenants[2].Slots[1].Gen = 98
	})
	full := []impl.Reply{{Code: impl.ErrFull}}
	ops := []impl.Op{
		{Kind: impl.OpNew}, {Kind: impl.OpNew, Index: 12}, {Kind: impl.OpDup, Handle: ownOf0}, {Kind: impl.OpLoad, Handle: ownOf0}, {Kind: impl.OpLoad, Handle: ownOf0, Index: 2},
	}
	for _, o := range ops {
		wantHeap(t, "no slot", impl.DoHeap(p.heap(), o), p.heap(), full)
		checkHeapStep(t, "no slot", p.heap(), o)
		o.Force = true
		wantHeap(t, "no slot by force", impl.DoHeap(p.heap(), o), collectedWork(p).heap(), full, workMoved)
	}
	last := collectedWork(p).with(func(p *plan) {
		p.objects = append(p.objects, made(2, 0, 10))
		p.tenants[2].Hash = 10
		p.tenants[2].Slots[1] = impl.HeapSlot{Gen: 99, At: int64(len(p.objects))}
	})
	o := impl.Op{Tenant: 2, Kind: impl.OpNew}
	wantHeap(t, "the last Gen", impl.DoHeap(p.heap(), o), last.heap(), []impl.Reply{{Value: word(2, 1, 99)}}, workMoved)
	dropped := checkHeapStep(t, "a drop", last.heap(), impl.Op{Tenant: 2, Kind: impl.OpDrop, Handle: word(2, 1, 99)})
	if got := checkHeapStep(t, "no Gen is left", dropped.Heap, o); got.Replies[0].Code != impl.ErrFull {
		t.Errorf("no Gen is left: %+v", got)
	}
	other := last.with(func(p *plan) { p.tenants[0].Slots[1].Gen = 98 })
	checkHeapStep(t, "another tenant's slot", other.heap(), impl.Op{Kind: impl.OpNew})
}

// TestHashAtItsEndInAHeap has a tenant that has no Hash left, in a half that is just full.
func TestHashAtItsEndInAHeap(t *testing.T) {
	p := workPlan(24, 0, 11, 8, 5).with(func(p *plan) { p.tenants[0].Hash = 99998 })
	o := impl.Op{Kind: impl.OpNew, Index: 1, Value: 1}
	last := collectedWork(p).with(func(p *plan) {
		p.objects = append(p.objects, made(0, 1, 99999, 0))
		p.tenants[0].Hash = 99999
		p.tenants[0].Slots[1] = impl.HeapSlot{Gen: 2, At: int64(len(p.objects))}
	})
	wantHeap(t, "the last Hash", impl.DoHeap(p.heap(), o), last.heap(), []impl.Reply{{Value: word(0, 1, 2)}}, workMoved)
	hash := impl.Op{Kind: impl.OpHash, Handle: word(0, 1, 2)}
	wantHeap(t, "the last Hash is told", impl.DoHeap(last.heap(), hash), last.heap(), []impl.Reply{{Value: 99999}})
	end := p.with(func(p *plan) { p.tenants[0].Hash = 99999 })
	for _, size := range []int64{0, 1} {
		o.Index, o.Value = size, 0
		o.Force = false
		wantHeap(t, "no Hash is left", impl.DoHeap(end.heap(), o), end.heap(), []impl.Reply{{Code: impl.ErrQuota}})
		o.Force = true
		wantHeap(t, "no Hash is left, by force", impl.DoHeap(end.heap(), o), collectedWork(end).heap(), []impl.Reply{{Code: impl.ErrQuota}}, workMoved)
	}
	// The Hash of one tenant is not another one's.
	if got := checkHeapStep(t, "another tenant", end.heap(), impl.Op{Tenant: 2, Kind: impl.OpNew}); got.Replies[0].Value != word(2, 1, 1) {
		t.Errorf("another tenant: %+v", got)
	}
}

// TestJustTheQuota has a tenant that holds just its Quota, one word less, and garbage beside it.
func TestJustTheQuota(t *testing.T) {
	for quota := int64(8); quota <= 24; quota++ {
		for size := range int64(13) {
			p := workPlan(60, 0, quota, 8, 3)
			got := checkHeapStep(t, "a new object", p.heap(), impl.Op{Kind: impl.OpNew, Index: size})
			isRefused := 8+2+size > quota
			if isRefused != (got.Replies[0].Code == impl.ErrQuota) {
				t.Errorf("the quota %d and the Size %d: %+v", quota, size, got.Replies)
			}
		}
	}
}

func TestARunByHand(t *testing.T) {
	c := impl.Config{Half: 20, Quotas: []int64{9, 8}, Slots: []int64{3, 2}}
	steps := []struct {
		op        impl.Op
		reply     impl.Reply
		collected []int64
	}{
		{impl.Op{Kind: impl.OpNew, Index: 2, Value: 1}, impl.Reply{Value: 32}, nil},
		{impl.Op{Tenant: 1, Kind: impl.OpNew, Index: 1, Value: 1}, impl.Reply{Value: 33}, nil},
		{impl.Op{Kind: impl.OpNew, Index: 1}, impl.Reply{Value: 36}, nil},
		{impl.Op{Kind: impl.OpLink, Handle: 32, To: 36}, impl.Reply{}, nil},
		{impl.Op{Kind: impl.OpPut, Handle: 36, Value: 77}, impl.Reply{}, nil},
		{impl.Op{Tenant: 1, Kind: impl.OpLink, Handle: 33, To: 33}, impl.Reply{}, nil},
		{impl.Op{Kind: impl.OpDrop, Handle: 36}, impl.Reply{}, nil},
		{impl.Op{Tenant: 2, Kind: impl.OpNew}, impl.Reply{Code: impl.ErrNone}, nil},
		{impl.Op{Tenant: 1, Kind: impl.OpNew, Index: 3}, impl.Reply{Value: 37}, nil},
		{impl.Op{Tenant: 1, Kind: impl.OpUsed}, impl.Reply{Value: 8}, nil},
		{impl.Op{Tenant: 1, Kind: impl.OpDrop, Handle: 37}, impl.Reply{}, nil},
		// 15 words are taken, and 10 of them held.
		{impl.Op{Tenant: 1, Kind: impl.OpNew, Index: 3}, impl.Reply{Value: 69}, nil},
		{impl.Op{Tenant: 1, Kind: impl.OpDrop, Handle: 37}, impl.Reply{Code: impl.ErrHandle}, nil},
		{impl.Op{Kind: impl.OpNew}, impl.Reply{Value: 68}, []int64{15}},
		{impl.Op{Kind: impl.OpLoad, Handle: 32}, impl.Reply{Value: 40}, nil},
		{impl.Op{Kind: impl.OpGet, Handle: 40}, impl.Reply{Value: 77}, nil},
		{impl.Op{Tenant: 9, Kind: impl.OpUsed, Force: true}, impl.Reply{Code: impl.ErrNone}, []int64{17}},
		{impl.Op{Tenant: 1, Kind: impl.OpSame, Handle: 33, To: 69}, impl.Reply{}, nil},
		{impl.Op{Tenant: 1, Kind: impl.OpHash, Handle: 69, Force: true}, impl.Reply{Value: 3}, []int64{17}},
		{impl.Op{Kind: impl.OpNew, Index: 12, Force: true}, impl.Reply{Code: impl.ErrFull}, []int64{17}},
		{impl.Op{Kind: impl.OpDup, Handle: 32}, impl.Reply{Code: impl.ErrFull}, nil},
		{impl.Op{Kind: impl.OpSize, Handle: 40}, impl.Reply{Value: 1}, nil},
	}
	// Behind four collections the first half is in use, and what is there has the order of the roots.
	end := plan{20, 0, []impl.Object{made(0, 1, 1, 3, 0), made(0, 0, 3), made(0, 0, 2, 77), made(1, 1, 1, 4), made(1, 0, 3, 0, 0, 0)}, []impl.HeapTenant{
		{Quota: 9, Hash: 3, Slots: []impl.HeapSlot{{Gen: 1, At: 1}, {Gen: 2, At: 2}, {Gen: 1, At: 3}}},
		{Quota: 8, Hash: 3, Slots: []impl.HeapSlot{{Gen: 1, At: 4}, {Gen: 2, At: 5}}},
	}}
	var list []impl.Op
	var replies []impl.Reply
	var collected []int64
	for _, s := range steps {
		list, replies, collected = append(list, s.op), append(replies, s.reply), append(collected, s.collected...)
		if got := impl.RunHeap(c, list); got.Code != impl.OK || !slices.Equal(got.Replies, replies) || !slices.Equal(got.Collected, collected) {
			t.Errorf("up to %+v: got %+v and %v, want %+v and %v", s.op, got.Replies, got.Collected, replies, collected)
		}
	}
	wantHeap(t, "at the end", impl.RunHeap(c, list), end.heap(), replies, collected...)
	wantProduct(t, "of the machines", impl.RunProduct(c, list), replies,
		impl.Machine{
			Quota: 9, Hash: 3, Slots: []impl.Slot{{Gen: 1, Node: 1}, {Gen: 2, Node: 2}, {Gen: 1, Node: 3}},
			Nodes: []impl.GraphNode{vertex(1, 1, 1, 3, 0), vertex(2, 0, 3), vertex(3, 0, 2, 77)},
		},
		impl.Machine{
			Tenant: 1, Quota: 8, Hash: 3, Slots: []impl.Slot{{Gen: 1, Node: 1}, {Gen: 2, Node: 2}},
			Nodes: []impl.GraphNode{vertex(1, 1, 1, 1), vertex(2, 0, 3, 0, 0, 0)},
		},
	)
}

func TestRunsOfTheMostOps(t *testing.T) {
	c := impl.Config{Half: 20, Quotas: []int64{9, 11}, Slots: []int64{2, 3}}
	empty := impl.NewHeap(c).Heap
	most := slices.Repeat([]impl.Op{{Kind: impl.OpUsed}, {Tenant: 1, Kind: impl.OpUsed, Force: true}, {Tenant: 2}}, 100)
	replies := slices.Repeat([]impl.Reply{{}, {}, {Code: impl.ErrNone}}, 100)
	wantHeap(t, "300 ops", impl.RunHeap(c, most), empty, replies, make([]int64, 100)...)
	machines := []impl.Machine{impl.NewMachine(0, 9, 2).Machine, impl.NewMachine(1, 11, 3).Machine}
	wantProduct(t, "300 ops", impl.RunProduct(c, most), replies, machines...)
	wantHeap(t, "299 ops", impl.RunHeap(c, most[1:]), empty, replies[1:], make([]int64, 100)...)
	wantProduct(t, "299 ops", impl.RunProduct(c, most[1:]), replies[1:], machines...)
	for _, n := range []int{301, 302, 100000} {
		list := make([]impl.Op, n)
		what := fmt.Sprint(n, " ops")
		wantNoHeap(t, what, impl.RunHeap(c, list), impl.ErrMany)
		wantNoProduct(t, what, impl.RunProduct(c, list), impl.ErrMany)
		over := impl.Config{Half: 19, Quotas: c.Quotas, Slots: c.Slots}
		wantNoHeap(t, what+" of a config that is refused", impl.RunHeap(over, list), impl.ErrFull)
		wantNoProduct(t, what+" of a config that is refused", impl.RunProduct(over, list), impl.ErrFull)
	}
}

// anyConfig is mostly so small that there is no room now and then. Some have quotas that are
// together just the Half.
func anyConfig(r *rand.Rand) impl.Config {
	var c impl.Config
	for range 1 + r.IntN(4) {
		quota := 2 + r.Int64N(20)
		if r.IntN(4) == 0 {
			quota += 25
		}
		c.Quotas, c.Slots = append(c.Quotas, quota), append(c.Slots, 1+r.Int64N(8))
		c.Half += quota
	}
	c.Half = max(8, c.Half+r.Int64N(3)*r.Int64N(6))
	return c
}

// forced has all ops, by force as is told.
func forced(list []impl.Op, force func(n int) bool) []impl.Op {
	list = slices.Clone(list)
	for n := range list {
		list[n].Force = force(n)
	}
	return list
}

// TestManyOpsOfSeveralTenants does ops of all tenants one behind the other, and then all of them at
// once, by force and without.
func TestManyOpsOfSeveralTenants(t *testing.T) {
	counts := map[impl.Reply]int{}
	collections := 0
	for seed := range uint64(400) {
		r := rand.New(rand.NewPCG(8, seed))
		c := anyConfig(r)
		what := fmt.Sprintf("the seed %d, %+v", seed, c)
		wantConfigFault(t, what, c, impl.OK)
		end := impl.HeapResult{Heap: impl.NewHeap(c).Heap}
		machines := impl.RunProduct(c, nil).Machines
		often := r.IntN(2) * 8
		var list []impl.Op
		for range 1 + r.IntN(200) {
			o := anyHeapOp(r, end.Heap, r.IntN(8) < often/4)
			step := checkHeapStep(t, what, end.Heap, o)
			list = append(list, o)
			end.Heap, end.Replies, end.Collected = step.Heap, append(end.Replies, step.Replies...), append(end.Collected, step.Collected...)
			if isFrom(o.Tenant, 0, int64(len(machines))-1) {
				_, machines[o.Tenant] = modelDo(machines[o.Tenant], o)
				counts[impl.Reply{Code: step.Replies[0].Code, Value: o.Kind}]++
			}
			if !o.Force {
				collections += len(step.Collected)
			}
		}
		wantHeap(t, what, impl.RunHeap(c, list), end.Heap, end.Replies, end.Collected...)
		wantProduct(t, what, impl.RunProduct(c, list), end.Replies, machines...)
		for _, force := range []func(n int) bool{func(int) bool { return false }, func(int) bool { return true }, func(n int) bool { return n%2 == 0 }} {
			other := forced(list, force)
			got := impl.RunHeap(c, other)
			if got.Code != impl.OK || !slices.Equal(got.Replies, end.Replies) {
				t.Errorf("%s: what is replied hangs on when it is collected", what)
			}
			for n, m := range machines {
				if !holdsTheSame(modelOwn(got.Heap, n), m) {
					t.Errorf("%s: what the tenant %d holds hangs on when it is collected", what, n)
				}
			}
			wantProduct(t, what, impl.RunProduct(c, other), end.Replies, machines...)
		}
	}
	// Otherwise these seeds show nothing of some kind.
	if collections < 200 {
		t.Errorf("there were %d collections for room", collections)
	}
	for kind := int64(1); kind <= 11; kind++ {
		if counts[impl.Reply{Value: kind}] < 30 {
			t.Errorf("the kind %d was done %d times", kind, counts[impl.Reply{Value: kind}])
		}
	}
	for _, want := range []impl.Reply{{Code: impl.ErrFull, Value: 1}, {Code: impl.ErrQuota, Value: 1}, {Code: impl.ErrFull, Value: 2}, {Code: impl.ErrFull, Value: 6}} {
		if counts[want] < 5 {
			t.Errorf("the kind %d had the code %d %d times", want.Value, want.Code, counts[want])
		}
	}
}

// TestOpsOfManyHeaps has heaps with garbage that no ops of these tenants made.
func TestOpsOfManyHeaps(t *testing.T) {
	for seed := range uint64(400) {
		r := rand.New(rand.NewPCG(9, seed))
		h := manyHeld(r, 14+r.Int64N(1+r.Int64N(187)))
		for range 12 {
			h = checkHeapStep(t, fmt.Sprint("the seed ", seed), h, anyHeapOp(r, h, r.IntN(5) == 0)).Heap
		}
	}
}

// TestEachOpOfAHeap has all kinds with all handles of a tenant, and of the other ones.
func TestEachOpOfAHeap(t *testing.T) {
	for _, p := range []plan{roomyWork(0), workPlan(24, 1, 11, 8, 5), workPlan(26, 0, 12, 8, 6)} {
		h := p.heap()
		for n := range p.tenants {
			opsOf(modelOwn(h, n), []int64{0, 1, 2}, []int64{0, 1}, func(o impl.Op) {
				o.Force = o.Handle%2 == 1
				checkHeapStep(t, "an op", h, o)
				o.Tenant = int64(n+1) % 3
				checkHeapStep(t, "another tenant's op", h, o)
			})
		}
	}
}

func TestOpsOfAnyNumbersOfAHeap(t *testing.T) {
	h := roomyWork(1).heap()
	for _, kind := range []int64{math.MinInt64, -1, 0, 1, 3, 4, 5, 6, 7, 8, 11, 12, math.MaxInt64} {
		for _, x := range strange {
			checkHeapStep(t, "any tenant", h, impl.Op{Tenant: x, Kind: kind, Force: x > 3})
			checkHeapStep(t, "any handle", h, impl.Op{Tenant: 1, Kind: kind, Handle: x})
			checkHeapStep(t, "any other handle", h, impl.Op{Tenant: 1, Kind: kind, Handle: firstOf1, To: x})
			checkHeapStep(t, "any Index", h, impl.Op{Tenant: 1, Kind: kind, Handle: firstOf1, Index: x})
			checkHeapStep(t, "any Value", h, impl.Op{Tenant: 1, Kind: kind, Handle: firstOf1, Index: 1, Value: x})
			checkHeapStep(t, "any new object", h, impl.Op{Tenant: 1, Kind: kind, Index: x, Value: x})
		}
	}
}

// turnedHeaps are all other than richPlan, each one in one thing.
func turnedHeaps() []impl.Heap {
	var list []impl.Heap
	turn := func(change func(h *impl.Heap)) {
		h := richPlan(0).heap()
		change(&h)
		list = append(list, h)
	}
	turn(func(h *impl.Heap) { h.Arena.Half++ })
	turn(func(h *impl.Heap) { h.Arena.Active++ })
	turn(func(h *impl.Heap) { h.Arena.Bump-- })
	turn(func(h *impl.Heap) { h.Arena.Words = nil })
	turn(func(h *impl.Heap) { h.Arena.Words = append(h.Arena.Words, 0) })
	turn(func(h *impl.Heap) { h.Tenants = nil })
	turn(func(h *impl.Heap) { h.Tenants = h.Tenants[:2] })
	turn(func(h *impl.Heap) { h.Tenants = append(h.Tenants, impl.HeapTenant{}) })
	turn(func(h *impl.Heap) { h.Tenants[0], h.Tenants[1] = h.Tenants[1], h.Tenants[0] })
	for i := range richPlan(0).heap().Arena.Words {
		turn(func(h *impl.Heap) { h.Arena.Words[i]++ })
	}
	for n, tenant := range richPlan(0).tenants {
		turn(func(h *impl.Heap) { h.Tenants[n].Quota++ })
		turn(func(h *impl.Heap) { h.Tenants[n].Hash-- })
		turn(func(h *impl.Heap) { h.Tenants[n].Slots = nil })
		turn(func(h *impl.Heap) { h.Tenants[n].Slots = append(h.Tenants[n].Slots, impl.HeapSlot{}) })
		for i := range tenant.Slots {
			turn(func(h *impl.Heap) { h.Tenants[n].Slots[i].Gen++ })
			turn(func(h *impl.Heap) { h.Tenants[n].Slots[i].At-- })
			turn(func(h *impl.Heap) { h.Tenants[n].Slots = h.Tenants[n].Slots[:len(h.Tenants[n].Slots)-1-i] })
		}
	}
	return append(list, impl.Heap{}, impl.Heap{Tenants: make([]impl.HeapTenant, 1)}, impl.Heap{Arena: laid(8, 0)})
}

func TestSameHeaps(t *testing.T) {
	good := richPlan(0).heap()
	for _, h := range turnedHeaps() {
		if impl.SameHeaps(good, h) || impl.SameHeaps(h, good) {
			t.Errorf("%+v is the same as the rich one", h)
		}
		if !impl.SameHeaps(h, copiedHeap(h)) {
			t.Errorf("%+v is not the same as itself", h)
		}
	}
	if !impl.SameHeaps(good, copiedHeap(good)) || !impl.SameHeaps(impl.Heap{}, impl.Heap{}) {
		t.Error("two heaps of the same fields are not the same")
	}
	none := impl.Heap{Arena: impl.Arena{Words: []int64{}}, Tenants: []impl.HeapTenant{}}
	if !impl.SameHeaps(none, impl.Heap{}) || !impl.SameHeaps(impl.Heap{}, none) {
		t.Error("an empty list and nil are not the same")
	}
	one, two := impl.Heap{Tenants: []impl.HeapTenant{{Slots: []impl.HeapSlot{}}}}, impl.Heap{Tenants: []impl.HeapTenant{{}}}
	if !impl.SameHeaps(one, two) || !impl.SameHeaps(two, one) {
		t.Error("no slots and nil are not the same")
	}
}

// toldHeap has what any function of this chapter answers.
type toldHeap struct {
	code    int64
	list    []int64
	result  impl.HeapResult
	product impl.AllRepliesResult
	isSame  bool
}

func equalToldHeaps(a, b toldHeap) bool {
	return a.code == b.code && slices.Equal(a.list, b.list) && equalHeapResults(a.result, b.result) &&
		equalProducts(a.product, b.product) && a.isSame == b.isSame
}

func copiedTold(a toldHeap) toldHeap {
	a.list = slices.Clone(a.list)
	a.result.Heap = copiedHeap(a.result.Heap)
	a.result.Replies, a.result.Collected = slices.Clone(a.result.Replies), slices.Clone(a.result.Collected)
	a.product.Replies, a.product.Machines = slices.Clone(a.product.Replies), slices.Clone(a.product.Machines)
	for i, m := range a.product.Machines {
		a.product.Machines[i] = copiedMachine(m)
	}
	return a
}

// heapCalls are calls of every function that has a heap as its argument.
func heapCalls(other impl.Heap) map[string]func(h impl.Heap) toldHeap {
	calls := map[string]func(h impl.Heap) toldHeap{
		"HeapFault":   func(h impl.Heap) toldHeap { return toldHeap{code: impl.HeapFault(h)} },
		"RootsOf":     func(h impl.Heap) toldHeap { r := impl.RootsOf(h); return toldHeap{code: r.Code, list: r.List} },
		"CollectHeap": func(h impl.Heap) toldHeap { return toldHeap{result: impl.CollectHeap(h)} },
		"SameHeaps":   func(h impl.Heap) toldHeap { return toldHeap{isSame: impl.SameHeaps(h, other)} },
		"SameHeaps, the other way round": func(h impl.Heap) toldHeap {
			return toldHeap{isSame: impl.SameHeaps(other, h)}
		},
	}
	var ops []impl.Op
	for _, c := range heapCases() {
		ops = append(ops, c.op)
	}
	for _, r := range heapRefusals()[:60] {
		ops = append(ops, r.op)
	}
	for _, o := range ops {
		byForce := o
		byForce.Force = true
		for _, o := range []impl.Op{o, byForce} {
			calls[fmt.Sprintf("DoHeap of %+v", o)] = func(h impl.Heap) toldHeap { return toldHeap{result: impl.DoHeap(h, o)} }
		}
	}
	return calls
}

// configCalls are calls of every function that has a config as its argument.
func configCalls(list []impl.Op) map[string]func(c impl.Config) toldHeap {
	return map[string]func(c impl.Config) toldHeap{
		"ConfigFault": func(c impl.Config) toldHeap { return toldHeap{code: impl.ConfigFault(c)} },
		"NewHeap":     func(c impl.Config) toldHeap { return toldHeap{result: impl.NewHeap(c)} },
		"RunHeap":     func(c impl.Config) toldHeap { return toldHeap{result: impl.RunHeap(c, list)} },
		"RunProduct":  func(c impl.Config) toldHeap { return toldHeap{product: impl.RunProduct(c, list)} },
	}
}

// awkwardHeaps are such as have faults, and such as have none.
func awkwardHeaps() []impl.Heap {
	list := []impl.Heap{richPlan(0).heap(), richPlan(1).heap(), roomyWork(0).heap(), workPlan(26, 1, 12, 8, 6).heap(), collectedWork(roomyWork(1)).heap()}
	list = append(list, impl.NewHeap(impl.Config{Half: 8, Quotas: []int64{4, 4}, Slots: []int64{2, 1}}).Heap, impl.Heap{})
	for _, f := range fewHeapFaults(richPlan(0).heap()) {
		h := richPlan(0).heap()
		f.make(&h)
		list = append(list, h)
	}
	return list
}

func awkwardConfigs() []impl.Config {
	return []impl.Config{
		{Half: 20, Quotas: []int64{9, 8}, Slots: []int64{3, 2}},
		{Half: 30, Quotas: []int64{12, 10, 8}, Slots: []int64{3, 4, 2}},
		{Half: 200, Quotas: []int64{50, 50, 50, 50}, Slots: []int64{8, 8, 8, 8}},
		{},
		{Half: 20, Quotas: []int64{9, 12}, Slots: []int64{3, 2}},
		{Half: 20, Quotas: []int64{9, 1}, Slots: []int64{3, 2}},
		{Half: 20, Quotas: []int64{9, 2}, Slots: []int64{3, 9}},
		{Half: 20, Quotas: []int64{9, 2}, Slots: []int64{3}},
	}
}

// awkwardLists are ops that are done and such as are refused, and too many of them.
func awkwardLists() [][]impl.Op {
	var long []impl.Op
	r := rand.New(rand.NewPCG(7, 7))
	h := impl.NewHeap(awkwardConfigs()[0]).Heap
	for range 120 {
		o := anyHeapOp(r, h, r.IntN(6) == 0)
		h = impl.DoHeap(h, o).Heap
		long = append(long, o)
	}
	return [][]impl.Op{nil, {{Kind: impl.OpNew, Index: 2, Value: 1}, {Tenant: 1, Kind: impl.OpNew, Force: true}, {Tenant: 5}}, long, make([]impl.Op, 301)}
}

func equalConfigs(a, b impl.Config) bool {
	return a.Half == b.Half && slices.Equal(a.Quotas, b.Quotas) && slices.Equal(a.Slots, b.Slots)
}

// roomyHeap has room behind each list, so that an answer that is appended to would be seen there.
func roomyHeap(h impl.Heap) impl.Heap {
	h = copiedHeap(h)
	h.Arena.Words, h.Tenants = slices.Grow(h.Arena.Words, 20), slices.Grow(h.Tenants, 20)
	for i := range h.Tenants {
		h.Tenants[i].Slots = slices.Grow(h.Tenants[i].Slots, 20)
	}
	return h
}

// behindHeapLists has all that stands in the lists of a heap and behind them.
func behindHeapLists(h impl.Heap) impl.Heap {
	h.Arena.Words, h.Tenants = h.Arena.Words[:cap(h.Arena.Words)], slices.Clone(h.Tenants[:cap(h.Tenants)])
	for i, t := range h.Tenants {
		h.Tenants[i].Slots = t.Slots[:cap(t.Slots)]
	}
	return copiedHeap(h)
}

func spoilReplies(replies []impl.Reply) {
	replies = replies[:cap(replies)]
	for i := range replies {
		replies[i] = impl.Reply{Code: 55, Value: 55}
	}
}

func spoilSlots(slots []impl.HeapSlot) {
	slots = slots[:cap(slots)]
	for i := range slots {
		slots[i] = impl.HeapSlot{Gen: 55, At: 55}
	}
}

// spoilTold writes on all that is answered, and behind it.
func spoilTold(a toldHeap) {
	fill(a.list)
	fill(a.result.Heap.Arena.Words)
	fill(a.result.Collected)
	spoilReplies(a.result.Replies)
	spoilReplies(a.product.Replies)
	tenants := a.result.Heap.Tenants[:cap(a.result.Heap.Tenants)]
	for i := range tenants {
		spoilSlots(tenants[i].Slots)
		tenants[i] = impl.HeapTenant{Quota: 55, Hash: 55}
	}
	for _, m := range a.product.Machines {
		spoilMachine(m)
	}
}

// wantOwnMemory asks that two answers are alike, and that what is done to the one is not seen in
// the other.
func wantOwnMemory(t *testing.T, what string, call func() toldHeap) {
	t.Helper()
	first, second := call(), call()
	if !equalToldHeaps(first, second) {
		t.Errorf("%s answers %+v and then %+v", what, first, second)
	}
	want := copiedTold(second)
	spoilTold(first)
	if !equalToldHeaps(second, want) || !equalToldHeaps(call(), want) {
		t.Errorf("%s: what was done to an answer is seen in another one", what)
	}
}

func TestHeapFunctionsAnswerAlikeAndChangeNoArgument(t *testing.T) {
	calls := heapCalls(roomyHeap(roomyWork(0).heap()))
	for _, h := range awkwardHeaps() {
		h = roomyHeap(h)
		before := behindHeapLists(h)
		for name, call := range calls {
			wantOwnMemory(t, name, func() toldHeap { return call(h) })
			if !equalHeaps(behindHeapLists(h), before) {
				t.Fatalf("%s turned %+v into %+v", name, before, h)
			}
		}
	}
}

func TestRunsAnswerAlikeAndChangeNoArgument(t *testing.T) {
	for _, c := range awkwardConfigs() {
		c.Quotas, c.Slots = slices.Grow(c.Quotas, 20), slices.Grow(c.Slots, 20)
		behind := func() impl.Config {
			return impl.Config{Half: c.Half, Quotas: slices.Clone(c.Quotas[:cap(c.Quotas)]), Slots: slices.Clone(c.Slots[:cap(c.Slots)])}
		}
		before := behind()
		for _, list := range awkwardLists() {
			list = slices.Grow(list, 20)
			kept := slices.Clone(list[:cap(list)])
			for name, call := range configCalls(list) {
				wantOwnMemory(t, name, func() toldHeap { return call(c) })
				if !equalConfigs(behind(), before) || !slices.Equal(list[:cap(list)], kept) {
					t.Fatalf("%s turned its arguments into %+v and %+v", name, c, list)
				}
			}
		}
	}
}

// wantNoListShared writes on one list of an answer after the other, and behind it, and asks that no
// other list has other words then.
func wantNoListShared(t *testing.T, what string, got toldHeap) {
	t.Helper()
	want := copiedTold(got)
	check := func(list string) {
		t.Helper()
		if !equalToldHeaps(got, want) {
			t.Fatalf("%s: what was done to %s is seen in another list", what, list)
		}
	}
	fill(got.result.Heap.Arena.Words)
	fill(want.result.Heap.Arena.Words)
	check("the words")
	fill(got.result.Collected)
	fill(want.result.Collected)
	check("Collected")
	spoilReplies(got.result.Replies)
	spoilReplies(want.result.Replies)
	check("Replies")
	for i := range got.result.Heap.Tenants {
		spoilSlots(got.result.Heap.Tenants[i].Slots)
		spoilSlots(want.result.Heap.Tenants[i].Slots)
		check(fmt.Sprint("the slots of the tenant ", i))
	}
	spoilReplies(got.product.Replies)
	spoilReplies(want.product.Replies)
	check("Replies")
	for i, m := range got.product.Machines {
		for n := range m.Nodes {
			fill(m.Nodes[n].Fields)
			fill(want.product.Machines[i].Nodes[n].Fields)
			check(fmt.Sprint("the fields of the node ", n, " of the machine ", i))
		}
		spoilMachine(impl.Machine{Slots: m.Slots})
		spoilMachine(impl.Machine{Slots: want.product.Machines[i].Slots})
		check(fmt.Sprint("the slots of the machine ", i))
		for n := range m.Nodes {
			m.Nodes[n].Id, want.product.Machines[i].Nodes[n].Id = 55, 55
		}
		check(fmt.Sprint("the nodes of the machine ", i))
	}
}

func TestListsOfHeapsShareNoMemory(t *testing.T) {
	for name, call := range heapCalls(impl.Heap{}) {
		for _, p := range []plan{roomyWork(0), workPlan(24, 1, 11, 8, 5)} {
			wantNoListShared(t, name, call(p.heap()))
		}
	}
	for _, c := range awkwardConfigs() {
		for _, list := range awkwardLists() {
			for name, call := range configCalls(list) {
				wantNoListShared(t, name, call(c))
			}
		}
	}
}
