package tests

import (
	"fmt"
	"math"
	"math/rand/v2"
	"slices"
	"testing"

	"loop.example/g00723/impl"
)

func everyHandle(visit func(h impl.Handle)) {
	for tenant := range int64(4) {
		for slot := range int64(8) {
			for gen := int64(1); gen <= 99; gen++ {
				visit(impl.Handle{Tenant: tenant, Slot: slot, Gen: gen})
			}
		}
	}
}

func TestHandlesAreToldBackByTheirWords(t *testing.T) {
	wantWord(t, "the handle of the examples", impl.HandleWord(impl.Handle{Tenant: 1, Gen: 1}), impl.OK, 33)
	wantWord(t, "the least handle", impl.HandleWord(impl.Handle{Gen: 1}), impl.OK, 32)
	wantWord(t, "the greatest handle", impl.HandleWord(impl.Handle{Tenant: 3, Slot: 7, Gen: 99}), impl.OK, 3199)
	seen := map[int64]impl.Handle{}
	everyHandle(func(h impl.Handle) {
		got := impl.HandleWord(h)
		wantWord(t, fmt.Sprintf("%+v", h), got, impl.OK, word(h.Tenant, h.Slot, h.Gen))
		if other, isThere := seen[got.Value]; isThere {
			t.Errorf("%+v and %+v have the same word", h, other)
		}
		seen[got.Value] = h
		wantHandle(t, fmt.Sprint("the word ", got.Value), impl.ReadHandle(got.Value), impl.OK, h)
	})
	for w := int64(-5000); w < 9000; w++ {
		h, isHandle := seen[w]
		code := int64(impl.OK)
		if !isHandle {
			code = impl.ErrHandle
		}
		wantHandle(t, fmt.Sprint("the word ", w), impl.ReadHandle(w), code, h)
	}
}

func TestNumbersThatAreNoHandle(t *testing.T) {
	isHandle := func(h impl.Handle) bool {
		return h.Tenant >= 0 && h.Tenant <= 3 && h.Slot >= 0 && h.Slot <= 7 && h.Gen >= 1 && h.Gen <= 99
	}
	// The sums of the last ones would be words of handles, if they overflowed, or were not asked of their bounds.
	numbers := append([]int64{4, 5, -4, 98, 99, 100, 101}, strange...)
	numbers = append(numbers, 1<<59, 1<<59+1, -1<<59+1, 1<<61, 1<<61+1, 1<<62, math.MinInt64+32, math.MinInt64+33)
	for _, x := range numbers {
		for _, y := range numbers {
			for _, z := range numbers {
				h := impl.Handle{Tenant: x, Slot: y, Gen: z}
				if !isHandle(h) {
					wantWord(t, fmt.Sprintf("%+v", h), impl.HandleWord(h), impl.ErrRange, 0)
				}
			}
		}
	}
	wantWord(t, "the zero value", impl.HandleWord(impl.Handle{}), impl.ErrRange, 0)
}

func TestWordsThatAreNoHandle(t *testing.T) {
	words := []int64{0, 1, 3, 4, 31, -1, -4, -31, -32, -33, -64, -3199, 3200, 3201, 3231, 3232, word(0, 0, 100), word(3, 7, 0), word(0, 0, -1)}
	for _, high := range []int64{1 << 12, 1 << 16, 1 << 31, 1 << 32, 1 << 33, 1 << 61, 1 << 62, math.MinInt64, math.MinInt64 + 1<<62} {
		words = append(words, high, high+32, high+33, high+3199, high-1, high+word(1, 1, 3))
	}
	for _, w := range append(words, strange...) {
		if w < 32 || w > 3199 {
			wantHandle(t, fmt.Sprint("the word ", w), impl.ReadHandle(w), impl.ErrHandle, impl.Handle{})
		}
	}
	// What a Tenant of 4 would have is the word of another tenant's handle, and of no other one.
	wantHandle(t, "a Tenant of 4", impl.ReadHandle(word(4, 0, 1)), impl.OK, impl.Handle{Slot: 1, Gen: 1})
	wantHandle(t, "a Slot of 8", impl.ReadHandle(word(0, 8, 1)), impl.OK, impl.Handle{Gen: 2})
}

func TestNewMachine(t *testing.T) {
	numbers := append([]int64{4, 5, 6, 10, 100, 198}, strange...)
	made := 0
	for _, tenant := range numbers {
		for _, quota := range numbers {
			for _, slots := range numbers {
				what := fmt.Sprint("NewMachine ", tenant, " ", quota, " ", slots)
				got := impl.NewMachine(tenant, quota, slots)
				switch {
				case tenant < 0 || tenant > 3 || quota < 2 || quota > 200:
					wantNoMachine(t, what, got, impl.ErrRange)
				case slots < 1 || slots > 8:
					wantNoMachine(t, what, got, impl.ErrMany)
				default:
					made++
					wantMachine(t, what, got, impl.Machine{Tenant: tenant, Quota: quota, Slots: make([]impl.Slot, slots)})
				}
			}
		}
	}
	if made == 0 {
		t.Error("none was made")
	}
}

func TestANewMachineHoldsNothing(t *testing.T) {
	for tenant := range int64(4) {
		for slots := int64(1); slots <= 8; slots++ {
			m := impl.NewMachine(tenant, 2+slots, slots).Machine
			wantFault(t, "a new machine", m, impl.OK)
			wantInts(t, "ReachOf a new machine", impl.ReachOf(m), impl.OK)
			wantWord(t, "UsedBy a new machine", impl.UsedBy(m), impl.OK, 0)
			wantMachine(t, "TidyMachine of a new machine", impl.TidyMachine(m), m)
			everyHandle(func(h impl.Handle) {
				w := word(h.Tenant, h.Slot, h.Gen)
				wantWord(t, fmt.Sprintf("SlotOf a new machine, %+v", h), impl.SlotOf(m, w), impl.ErrHandle, 0)
			})
			wantWord(t, "SlotOf a new machine, its Gen", impl.SlotOf(m, word(tenant, 0, 0)), impl.ErrHandle, 0)
		}
	}
}

func TestMachinesWithoutAFault(t *testing.T) {
	wantFault(t, "a rich one", richMachine(), impl.OK)
	for _, c := range machineCases() {
		wantFault(t, c.name, c.machine(), impl.OK)
	}
	least := impl.Machine{Quota: 2, Slots: []impl.Slot{{}}}
	wantFault(t, "the least one", least, impl.OK)
	twelve := slices.Repeat([]int64{-impl.MaxValue}, 12)
	greatest := impl.Machine{Tenant: 3, Quota: 200, Hash: 99999, Slots: slices.Repeat([]impl.Slot{{Gen: 99, Node: 9999}}, 8)}
	for id := int64(9850); id <= 9999; id++ {
		greatest.Nodes = append(greatest.Nodes, vertex(id, 0, 99999, twelve...))
	}
	wantFault(t, "the greatest one", greatest, impl.OK)
	for i := range greatest.Nodes {
		greatest.Nodes[i].Mask, greatest.Nodes[i].Fields = 4095, slices.Repeat([]int64{int64(9999 - i)}, 12)
	}
	wantFault(t, "the greatest one with pointers alone", greatest, impl.OK)
	// More is held than the Quota: no code tells that.
	wantFault(t, "more than the Quota", impl.Machine{Quota: 2, Slots: leadingTo(1), Nodes: []impl.GraphNode{vertex(1, 0, 0, 5)}}, impl.OK)
	// A node may have a Hash above the last one that was given, and two may have the same.
	wantFault(t, "hashes", impl.Machine{Quota: 2, Slots: leadingTo(1, 2), Nodes: []impl.GraphNode{vertex(1, 0, 50), vertex(2, 0, 50)}}, impl.OK)
}

func TestMachineFaultsAlone(t *testing.T) {
	for _, f := range machineFaults() {
		m := richMachine()
		f.make(&m)
		wantFault(t, f.name, m, f.code)
	}
	for n := range 6 {
		m := richMachine()
		m.Nodes[n], m.Nodes[n+1] = m.Nodes[n+1], m.Nodes[n]
		wantFault(t, fmt.Sprint("the nodes ", n, " and ", n+1, " changed with each other"), m, impl.ErrForm)
	}
	good := richMachine()
	wantFault(t, "the zero value", impl.Machine{}, impl.ErrRange)
	for _, n := range []int{0, 9, 10, 5000} {
		m := impl.Machine{Quota: 2, Slots: make([]impl.Slot, n)}
		wantFault(t, fmt.Sprint(n, " slots"), m, impl.ErrMany)
	}
	for n, node := range good.Nodes {
		for size := range int64(13) {
			m := richMachine()
			m.Nodes[n].Fields = make([]int64, size)
			if size != node.Size {
				wantFault(t, fmt.Sprint(size, " fields of the node ", n), m, impl.ErrMany)
			}
		}
		m := richMachine()
		m.Nodes[n].Fields = make([]int64, 5000)
		wantFault(t, fmt.Sprint("very many fields of the node ", n), m, impl.ErrMany)
	}
}

// TestMachineFaultsInOrder makes two faults at a time, also such as are far from each other.
func TestMachineFaultsInOrder(t *testing.T) {
	few := fewFaults()
	for _, f := range few {
		for _, g := range machineFaults() {
			first, second := f, g
			if slices.Compare(g.rank, f.rank) < 0 {
				first, second = g, f
			}
			m := richMachine()
			second.make(&m)
			first.make(&m)
			if got := impl.MachineFault(m); got != first.code {
				t.Errorf("%s, and %s: MachineFault is %d, want %d, of %+v", first.name, second.name, got, first.code, m)
			}
		}
	}
	m := richMachine()
	slices.Reverse(few)
	for _, f := range few {
		f.make(&m)
		wantFault(t, "all faults up to "+f.name, m, f.code)
	}
}

// TestNodesAreAskedOneByOne has faults of which the document asks the later code at the earlier node.
func TestNodesAreAskedOneByOne(t *testing.T) {
	m := richMachine()
	m.Nodes[1].Fields = nil
	m.Nodes[2].Id = 0
	wantFault(t, "fields of one, and the Id of the next one", m, impl.ErrMany)
	m.Nodes[0].Fields[0] = impl.MaxValue + 1
	wantFault(t, "a field of one, and the fields of the next one", m, impl.ErrRange)
	m = richMachine()
	m.Nodes[6].Fields = append(m.Nodes[6].Fields, impl.MaxValue+1)
	wantFault(t, "a field too many is no word", m, impl.ErrMany)
	m.Nodes[6].Size = 13
	wantFault(t, "as many fields as a Size that is none", m, impl.ErrRange)
	m = richMachine()
	m.Nodes[0].Size, m.Nodes[0].Fields = 0, nil
	wantFault(t, "a Mask above a Size of 0", m, impl.ErrRange)
	m = richMachine()
	m.Nodes[0].Id, m.Nodes[6].Fields[1] = 9, math.MinInt64
	wantFault(t, "Ids that do not rise, and the last field of all", m, impl.ErrRange)
}

func TestTargetsOfMachines(t *testing.T) {
	for id := int64(-2); id < 12; id++ {
		isThere := id == 0 || id == 3 || id == 7 || id == 8
		code := int64(impl.OK)
		if !isThere {
			code = impl.ErrNone
		}
		of := func(slot, pointer, plain int64) impl.Machine {
			return impl.Machine{Quota: 2, Slots: leadingTo(slot), Nodes: []impl.GraphNode{vertex(3, 0, 0), vertex(7, 2, 0, plain, pointer), vertex(8, 0, 0)}}
		}
		wantFault(t, fmt.Sprint("a pointer of ", id), of(3, id, 0), code)
		wantFault(t, fmt.Sprint("a plain field of ", id), of(7, 0, id), impl.OK)
		if id >= 0 {
			wantFault(t, fmt.Sprint("a slot of ", id), of(id, 0, 0), code)
		}
	}
	none := impl.Machine{Quota: 2, Slots: leadingTo(1)}
	wantFault(t, "a slot where no node is", none, impl.ErrNone)
	none.Slots[0].Gen = 0
	wantFault(t, "a slot of the Gen 0 where no node is", none, impl.ErrNone)
	none.Nodes = []impl.GraphNode{vertex(1, 0, 0)}
	wantFault(t, "a slot of the Gen 0", none, impl.ErrState)
	none.Slots[0].Node = 0
	wantFault(t, "a free slot of the Gen 0", none, impl.OK)
}

// checkMachine holds all answers about what is held against what is told.
func checkMachine(t *testing.T, what string, m impl.Machine, list []int64, tidy impl.Machine) {
	t.Helper()
	wantInts(t, what+": ReachOf", impl.ReachOf(m), impl.OK, list...)
	used := int64(0)
	for _, id := range list {
		used += 2 + int64(len(nodeOf(m.Nodes, id).Fields))
	}
	wantWord(t, what+": UsedBy", impl.UsedBy(m), impl.OK, used)
	got := impl.TidyMachine(m)
	wantMachine(t, what+": TidyMachine", got, tidy)
	if !holdsTheSame(m, got.Machine) {
		t.Errorf("%s: %+v does not hold what %+v held", what, got.Machine, m)
	}
	wantFault(t, what+", tidy", got.Machine, impl.OK)
	var numbers []int64
	for n := range list {
		numbers = append(numbers, int64(n+1))
	}
	wantInts(t, what+": ReachOf, tidy", impl.ReachOf(got.Machine), impl.OK, numbers...)
	wantWord(t, what+": UsedBy, tidy", impl.UsedBy(got.Machine), impl.OK, used)
	wantMachine(t, what+": TidyMachine, tidy", impl.TidyMachine(got.Machine), tidy)
}

func TestWhatIsHeld(t *testing.T) {
	for _, c := range machineCases() {
		checkMachine(t, c.name, c.machine(), c.reached, c.tidyMachine())
		checkHandles(t, c.name, c.machine())
		checkHandles(t, c.name+", tidy", impl.TidyMachine(c.machine()).Machine)
	}
	m := richMachine()
	tidy := richMachine()
	tidy.Slots = []impl.Slot{{Gen: 5}, {Gen: 3, Node: 1}, {Gen: 0}, {Gen: 99, Node: 2}, {Gen: 1, Node: 1}, {Gen: 99}}
	tidy.Nodes = []impl.GraphNode{vertex(1, 13, 99999, 3, 12, 0, 3), vertex(2, 2, 0, -impl.MaxValue, 1), vertex(3, 0, 5)}
	checkMachine(t, "a rich one", m, []int64{40, 12, 41}, tidy)
}

func TestUsedBy(t *testing.T) {
	one := func(size int64) impl.Machine {
		return impl.Machine{Quota: 2, Slots: leadingTo(3, 0, 3), Nodes: []impl.GraphNode{vertex(3, 0, 0, make([]int64, size)...), vertex(4, 0, 0, 1, 2)}}
	}
	for size := range int64(13) {
		wantWord(t, fmt.Sprint("the size ", size), impl.UsedBy(one(size)), impl.OK, size+2)
	}
	wantWord(t, "a rich one", impl.UsedBy(richMachine()), impl.OK, 6+4+2)
	m := impl.Machine{Quota: 2, Slots: leadingTo(150)}
	for id := int64(1); id <= 150; id++ {
		n := vertex(id, 4095, 0, slices.Repeat([]int64{id - 1}, 12)...)
		m.Nodes = append(m.Nodes, n)
	}
	wantWord(t, "the most of all", impl.UsedBy(m), impl.OK, 150*14)
	m.Slots[0].Node = 1
	wantWord(t, "the end of it", impl.UsedBy(m), impl.OK, 14)
}

func TestLongChains(t *testing.T) {
	m := impl.Machine{Quota: 2, Slots: leadingTo(0, 150), Nodes: chained(150, -1)}
	var list []int64
	for id := int64(150); id > 0; id-- {
		list = append(list, id)
	}
	tidy := impl.Machine{Quota: 2, Slots: leadingTo(0, 1), Nodes: chained(150, 1)}
	for i := range tidy.Nodes {
		tidy.Nodes[i].Hash = int64(250 - i)
	}
	checkMachine(t, "from the last one to the first one", m, list, tidy)
	m.Slots[1].Node = 1
	one := impl.Machine{Quota: 2, Slots: leadingTo(0, 1), Nodes: chained(1, 1)}
	checkMachine(t, "the end of it", m, []int64{1}, one)
	straight := impl.Machine{Quota: 2, Slots: leadingTo(1, 150), Nodes: chained(150, 1)}
	got := impl.ReachOf(straight).List
	if len(got) != 150 || got[0] != 1 || got[1] != 150 || got[2] != 2 || got[149] != 149 {
		t.Error("the last one as a slot's:", got)
	}
}

// checkHandles asks SlotOf of every word of a handle and of many others.
func checkHandles(t *testing.T, what string, m impl.Machine) {
	t.Helper()
	given := map[int64]int64{}
	for i, s := range m.Slots {
		if s.Node != 0 {
			given[word(m.Tenant, int64(i), s.Gen)] = int64(i)
		}
	}
	ask := func(w int64) {
		slot, isGiven := given[w]
		code := int64(impl.OK)
		if !isGiven {
			code = impl.ErrHandle
		}
		wantWord(t, fmt.Sprint(what, ": SlotOf ", w), impl.SlotOf(m, w), code, slot)
	}
	for w := int64(-300); w < 3500; w++ {
		ask(w)
	}
	for _, w := range strange {
		ask(w)
	}
	for w := range given {
		for _, high := range []int64{1 << 12, 1 << 32, 1 << 62, math.MinInt64} {
			ask(w + high)
		}
		ask(-w)
	}
}

func TestSlotOf(t *testing.T) {
	for tenant := range int64(4) {
		m := richMachine()
		m.Tenant = tenant
		checkHandles(t, fmt.Sprint("the tenant ", tenant), m)
		for i := range m.Slots {
			m.Slots[i] = impl.Slot{Gen: 1, Node: 40}
		}
		checkHandles(t, fmt.Sprint("slots that lead to the same node, of the tenant ", tenant), m)
	}
	m := richMachine() // of the tenant 2
	wantWord(t, "a handle", impl.SlotOf(m, word(2, 1, 3)), impl.OK, 1)
	wantWord(t, "another one of the same node", impl.SlotOf(m, word(2, 4, 1)), impl.OK, 4)
	for _, other := range []int64{0, 1, 3} {
		wantWord(t, "another tenant", impl.SlotOf(m, word(other, 1, 3)), impl.ErrHandle, 0)
	}
	wantWord(t, "a Gen that was", impl.SlotOf(m, word(2, 1, 2)), impl.ErrHandle, 0)
	wantWord(t, "a Gen that comes", impl.SlotOf(m, word(2, 1, 4)), impl.ErrHandle, 0)
	wantWord(t, "the Gen of another slot", impl.SlotOf(m, word(2, 1, 1)), impl.ErrHandle, 0)
	wantWord(t, "a free slot", impl.SlotOf(m, word(2, 0, 5)), impl.ErrHandle, 0)
	wantWord(t, "a free slot that was never given", impl.SlotOf(m, word(2, 2, 0)), impl.ErrHandle, 0)
	wantWord(t, "no such slot", impl.SlotOf(m, word(2, 6, 3)), impl.ErrHandle, 0)
	wantWord(t, "no such slot, the last one", impl.SlotOf(m, word(2, 7, 99)), impl.ErrHandle, 0)
}

func TestAGenThatIsAtItsEnd(t *testing.T) {
	m := richMachine() // of the tenant 2; the slots 3 and 5 have the Gen 99
	wantWord(t, "that Gen", impl.SlotOf(m, word(2, 3, 99)), impl.OK, 3)
	wantWord(t, "the Gen below", impl.SlotOf(m, word(2, 3, 98)), impl.ErrHandle, 0)
	wantWord(t, "a Gen above", impl.SlotOf(m, word(2, 3, 100)), impl.ErrHandle, 0)
	wantWord(t, "that Gen of another tenant", impl.SlotOf(m, word(1, 3, 99)), impl.ErrHandle, 0)
	wantWord(t, "that Gen of a free slot", impl.SlotOf(m, word(2, 5, 99)), impl.ErrHandle, 0)
	for slot := range int64(8) {
		last := impl.Machine{Quota: 2, Slots: make([]impl.Slot, 8), Nodes: []impl.GraphNode{vertex(1, 0, 0)}}
		last.Slots[slot] = impl.Slot{Gen: impl.MaxGen, Node: 1}
		for gen := int64(0); gen < 130; gen++ {
			code, value := int64(impl.ErrHandle), int64(0)
			if gen == 99 {
				code, value = impl.OK, slot
			}
			wantWord(t, fmt.Sprint("the slot ", slot, " and the Gen ", gen), impl.SlotOf(last, word(0, slot, gen)), code, value)
		}
	}
}

// smallMachines visits all machines of three nodes of 2, 1 and 1 pointers and two slots.
func smallMachines(visit func(m impl.Machine)) {
	ids := []int64{0, 2, 3, 9}
	for number := range 4 * 4 * 4 * 4 * 4 * 4 {
		next := func() int64 {
			id := ids[number%4]
			number /= 4
			return id
		}
		visit(impl.Machine{
			Tenant: 1, Quota: 2, Slots: leadingTo(next(), next()),
			Nodes: []impl.GraphNode{vertex(2, 3, 5, next(), next()), vertex(3, 1, 5, next()), vertex(9, 2, 5, 3, next())},
		})
	}
}

func TestSmallMachines(t *testing.T) {
	smallMachines(func(m impl.Machine) {
		list := modelReachOf(m)
		checkMachine(t, fmt.Sprintf("%+v", m), m, list, modelTidy(m, list))
	})
}

// manyNodes is a machine of any nodes; plain fields have what would be Ids.
func manyNodes(r *rand.Rand) impl.Machine {
	m := impl.Machine{Tenant: r.Int64N(4), Quota: 2 + r.Int64N(199), Hash: r.Int64N(100000)}
	ids := []int64{0}
	for range r.IntN(151) {
		ids = append(ids, 1+r.Int64N(9999))
	}
	slices.Sort(ids)
	ids = slices.Compact(ids)
	pick := func() int64 { return ids[r.IntN(len(ids))] }
	for _, id := range ids[1:] {
		size := r.Int64N(1 + r.Int64N(13))
		n := vertex(id, r.Int64N(1<<size), r.Int64N(100000), make([]int64, size)...)
		for i := range n.Fields {
			if r.IntN(4) > 0 {
				n.Fields[i] = pick()
			}
		}
		m.Nodes = append(m.Nodes, n)
	}
	for range 1 + r.IntN(8) {
		m.Slots = append(m.Slots, impl.Slot{Gen: 1 + r.Int64N(99), Node: pick()})
	}
	return m
}

func TestManyMachines(t *testing.T) {
	for seed := range uint64(400) {
		m := manyNodes(rand.New(rand.NewPCG(5, seed)))
		what := fmt.Sprint("the seed ", seed)
		wantFault(t, what, m, impl.OK)
		list := modelReachOf(m)
		checkMachine(t, what, m, list, modelTidy(m, list))
		if seed%20 == 0 {
			checkHandles(t, what, m)
			checkHandles(t, what+", tidy", impl.TidyMachine(m).Machine)
		}
	}
}

// turnedMachines differ from the rich one each in just one thing; some of them have a fault.
func turnedMachines() []impl.Machine {
	var list []impl.Machine
	turn := func(change func(m *impl.Machine)) {
		m := richMachine()
		change(&m)
		list = append(list, m)
	}
	turn(func(m *impl.Machine) { m.Tenant++ })
	turn(func(m *impl.Machine) { m.Quota-- })
	turn(func(m *impl.Machine) { m.Hash++ })
	turn(func(m *impl.Machine) { m.Slots = append(m.Slots, impl.Slot{}) })
	turn(func(m *impl.Machine) { m.Slots = m.Slots[:5] })
	turn(func(m *impl.Machine) { m.Slots = nil })
	turn(func(m *impl.Machine) { m.Slots[0], m.Slots[1] = m.Slots[1], m.Slots[0] })
	turn(func(m *impl.Machine) { m.Nodes = append(m.Nodes, impl.GraphNode{}) })
	turn(func(m *impl.Machine) { m.Nodes = m.Nodes[:6] })
	turn(func(m *impl.Machine) { m.Nodes = nil })
	turn(func(m *impl.Machine) { m.Nodes[5], m.Nodes[6] = m.Nodes[6], m.Nodes[5] })
	for i := range richMachine().Slots {
		turn(func(m *impl.Machine) { m.Slots[i].Gen++ })
		turn(func(m *impl.Machine) { m.Slots[i].Node++ })
	}
	for n, node := range richMachine().Nodes {
		turn(func(m *impl.Machine) { m.Nodes[n].Id++ })
		turn(func(m *impl.Machine) { m.Nodes[n].Size++ })
		turn(func(m *impl.Machine) { m.Nodes[n].Mask ^= 1 })
		turn(func(m *impl.Machine) { m.Nodes[n].Hash-- })
		turn(func(m *impl.Machine) { m.Nodes[n].Fields = append(m.Nodes[n].Fields, 0) })
		for i := range node.Fields {
			turn(func(m *impl.Machine) { m.Nodes[n].Fields[i]++ })
			turn(func(m *impl.Machine) { m.Nodes[n].Fields = m.Nodes[n].Fields[:i] })
		}
	}
	return append(list, impl.Machine{}, impl.Machine{Slots: []impl.Slot{{}}}, impl.Machine{Nodes: []impl.GraphNode{{}}}, impl.Machine{Nodes: []impl.GraphNode{{Fields: []int64{0}}}})
}

func TestSameMachines(t *testing.T) {
	good, turned := richMachine(), turnedMachines()
	for n, m := range turned {
		if impl.SameMachines(good, m) || impl.SameMachines(m, good) {
			t.Errorf("%+v is the same as the rich one", m)
		}
		if !impl.SameMachines(m, copiedMachine(m)) {
			t.Errorf("%+v is not the same as itself", m)
		}
		for _, other := range turned[n+1:] {
			if impl.SameMachines(m, other) || impl.SameMachines(other, m) {
				t.Errorf("%+v is the same as %+v", m, other)
			}
		}
	}
	nothing := impl.Machine{Slots: []impl.Slot{}, Nodes: []impl.GraphNode{}}
	one := impl.Machine{Nodes: []impl.GraphNode{{Fields: []int64{}}}}
	if !impl.SameMachines(nothing, impl.Machine{}) || !impl.SameMachines(impl.Machine{}, nothing) || !impl.SameMachines(one, impl.Machine{Nodes: []impl.GraphNode{{}}}) {
		t.Error("an empty list and nil are not the same")
	}
	strangeOne := impl.Machine{Tenant: math.MinInt64, Quota: -1, Hash: math.MaxInt64, Slots: make([]impl.Slot, 100), Nodes: []impl.GraphNode{{Size: math.MaxInt64, Mask: -1}, {Size: 64}}}
	if !impl.SameMachines(strangeOne, copiedMachine(strangeOne)) || impl.SameMachines(strangeOne, good) {
		t.Error("a strange one")
	}
}

// toldMachine is all that an answer of a function of this chapter can have.
type toldMachine struct {
	code    int64
	list    []int64
	numbers [3]int64
	machine impl.Machine
}

func equalToldMachines(a, b toldMachine) bool {
	return a.code == b.code && a.numbers == b.numbers && slices.Equal(a.list, b.list) && equalMachines(a.machine, b.machine)
}

// machineCalls are calls of every function of this chapter that is asked of a machine, and of
// NewMachine with what it has.
func machineCalls(w int64, other impl.Machine) map[string]func(m impl.Machine) toldMachine {
	isSame := func(a, b impl.Machine) int64 {
		if impl.SameMachines(a, b) {
			return 1
		}
		return 0
	}
	return map[string]func(m impl.Machine) toldMachine{
		"MachineFault": func(m impl.Machine) toldMachine { return toldMachine{code: impl.MachineFault(m)} },
		"NewMachine": func(m impl.Machine) toldMachine {
			r := impl.NewMachine(m.Tenant, m.Quota, int64(len(m.Slots)))
			return toldMachine{code: r.Code, machine: r.Machine}
		},
		"ReachOf": func(m impl.Machine) toldMachine {
			r := impl.ReachOf(m)
			return toldMachine{code: r.Code, list: r.List}
		},
		"UsedBy": func(m impl.Machine) toldMachine {
			r := impl.UsedBy(m)
			return toldMachine{code: r.Code, numbers: [3]int64{r.Value}}
		},
		"TidyMachine": func(m impl.Machine) toldMachine {
			r := impl.TidyMachine(m)
			return toldMachine{code: r.Code, machine: r.Machine}
		},
		"SlotOf": func(m impl.Machine) toldMachine {
			r := impl.SlotOf(m, w)
			return toldMachine{code: r.Code, numbers: [3]int64{r.Value}}
		},
		"SameMachines": func(m impl.Machine) toldMachine {
			return toldMachine{numbers: [3]int64{isSame(m, other), isSame(other, m), isSame(m, m)}}
		},
	}
}

func TestMachineFunctionsAnswerAlikeAndChangeNoArgument(t *testing.T) {
	machines := append(turnedMachines(), richMachine())
	for _, c := range machineCases() {
		machines = append(machines, c.machine())
	}
	for _, f := range machineFaults() {
		m := richMachine()
		f.make(&m)
		machines = append(machines, m)
	}
	for _, m := range machines {
		before, other := copiedMachine(m), richMachine()
		for _, w := range []int64{math.MinInt64, -1, 0, word(2, 1, 3), word(2, 3, 99), word(1, 0, 10), math.MaxInt64} {
			for name, call := range machineCalls(w, other) {
				first, second := call(m), call(m)
				if !equalToldMachines(first, second) {
					t.Errorf("%s %d of %+v answers %+v and then %+v", name, w, m, first, second)
				}
				if !equalMachines(m, before) || !equalMachines(other, richMachine()) {
					t.Fatalf("%s %d turned %+v into %+v", name, w, before, m)
				}
			}
		}
	}
	for _, w := range strange {
		if impl.ReadHandle(w) != impl.ReadHandle(w) || impl.HandleWord(impl.Handle{Gen: w}) != impl.HandleWord(impl.Handle{Gen: w}) {
			t.Error("a handle is not told alike:", w)
		}
	}
}

// roomy has room behind each list, so that an answer that is appended to would be seen there.
func roomy(m impl.Machine) impl.Machine {
	m = copiedMachine(m)
	m.Slots, m.Nodes = slices.Grow(m.Slots, 20), slices.Grow(m.Nodes, 200)
	for i := range m.Nodes {
		m.Nodes[i].Fields = slices.Grow(m.Nodes[i].Fields, 20)
	}
	return m
}

// behindLists has all that stands in the lists of a machine and behind them.
func behindLists(m impl.Machine) impl.Machine {
	m.Slots, m.Nodes = m.Slots[:cap(m.Slots)], slices.Clone(m.Nodes[:cap(m.Nodes)])
	for i, n := range m.Nodes {
		m.Nodes[i].Fields = n.Fields[:cap(n.Fields)]
	}
	return copiedMachine(m)
}

func fill(list []int64) {
	list = list[:cap(list)]
	for i := range list {
		list[i] = 55
	}
}

// spoilMachine writes on all lists of a machine and behind them.
func spoilMachine(m impl.Machine) {
	slots, nodes := m.Slots[:cap(m.Slots)], m.Nodes[:cap(m.Nodes)]
	for i := range slots {
		slots[i] = impl.Slot{Gen: 55, Node: 55}
	}
	for i := range nodes {
		fill(nodes[i].Fields)
		nodes[i] = vertex(55, 0, 55)
	}
}

func TestAnswersOfMachineFunctionsShareNoMemory(t *testing.T) {
	machines := []impl.Machine{richMachine(), impl.TidyMachine(richMachine()).Machine, impl.NewMachine(1, 20, 3).Machine}
	for _, c := range machineCases() {
		machines = append(machines, c.machine(), c.tidyMachine())
	}
	for _, m := range machines {
		m = roomy(m)
		before := behindLists(m)
		for name, call := range machineCalls(word(2, 1, 3), m) {
			first, second := call(m), call(m)
			want := toldMachine{second.code, slices.Clone(second.list), second.numbers, copiedMachine(second.machine)}
			fill(first.list)
			spoilMachine(first.machine)
			if !equalToldMachines(second, want) || !equalMachines(behindLists(m), before) {
				t.Errorf("%s: what was done to an answer is seen in another or in the argument %+v", name, m)
			}
		}
	}
}

// TestListsOfATidyMachineShareNoMemory writes on one list after the other, and behind it.
func TestListsOfATidyMachineShareNoMemory(t *testing.T) {
	for _, c := range machineCases() {
		got, want := impl.TidyMachine(c.machine()).Machine, c.tidyMachine()
		for n := range got.Nodes {
			fill(got.Nodes[n].Fields)
			for i := range want.Nodes[n].Fields {
				want.Nodes[n].Fields[i] = 55
			}
			if !equalMachines(got, want) {
				t.Fatalf("%s: what was done to the fields of the node %d is seen in others: %+v", c.name, n, got)
			}
		}
		for i := range got.Slots {
			got.Slots[i] = impl.Slot{Gen: 55}
		}
		if !slices.EqualFunc(got.Nodes, want.Nodes, equalNodes) {
			t.Errorf("%s: what was done to the slots is seen in the nodes: %+v", c.name, got)
		}
	}
}
