package tests

import (
	"fmt"
	"math"
	"slices"
	"testing"

	"loop.example/g00723/impl"
)

// vertex is a node with as many fields as are told.
func vertex(id, mask, hash int64, fields ...int64) impl.GraphNode {
	return impl.GraphNode{Id: id, Size: int64(len(fields)), Mask: mask, Hash: hash, Fields: fields}
}

// word is told in another way than by HandleWord; it is asked of any numbers that do not overflow.
func word(tenant, slot, gen int64) int64 {
	return gen*32 + slot*4 + tenant
}

// copiedMachine does not use the program, so that a test can hold an argument against what it was.
func copiedMachine(m impl.Machine) impl.Machine {
	m.Slots, m.Nodes = slices.Clone(m.Slots), slices.Clone(m.Nodes)
	for i := range m.Nodes {
		m.Nodes[i].Fields = slices.Clone(m.Nodes[i].Fields)
	}
	return m
}

func equalNodes(a, b impl.GraphNode) bool {
	return a.Id == b.Id && a.Size == b.Size && a.Mask == b.Mask && a.Hash == b.Hash && slices.Equal(a.Fields, b.Fields)
}

func equalMachines(a, b impl.Machine) bool {
	return a.Tenant == b.Tenant && a.Quota == b.Quota && a.Hash == b.Hash &&
		slices.Equal(a.Slots, b.Slots) && slices.EqualFunc(a.Nodes, b.Nodes, equalNodes)
}

func wantMachine(t *testing.T, what string, got impl.MachineResult, want impl.Machine) {
	t.Helper()
	if got.Code != impl.OK || !equalMachines(got.Machine, want) {
		t.Errorf("%s: got %+v, want %+v", what, got, want)
	}
}

// wantNoMachine asks that all beside the code is zero.
func wantNoMachine(t *testing.T, what string, got impl.MachineResult, code int64) {
	t.Helper()
	if got.Code != code || !equalMachines(got.Machine, impl.Machine{}) {
		t.Errorf("%s: got %+v, want the code %d and nothing beside it", what, got, code)
	}
}

func wantHandle(t *testing.T, what string, got impl.HandleResult, code int64, h impl.Handle) {
	t.Helper()
	if got.Code != code || got.Handle != h {
		t.Errorf("%s: got %+v, want the code %d and %+v", what, got, code, h)
	}
}

// wantFault asks that MachineFault and each function that asks it has this code, and nothing beside it.
func wantFault(t *testing.T, what string, m impl.Machine, code int64) {
	t.Helper()
	if got := impl.MachineFault(m); got != code {
		t.Errorf("%s: MachineFault is %d, want %d, of %+v", what, got, code, m)
		return
	}
	if code == impl.OK {
		return
	}
	wantInts(t, what+": ReachOf", impl.ReachOf(m), code)
	wantWord(t, what+": UsedBy", impl.UsedBy(m), code, 0)
	wantNoMachine(t, what+": TidyMachine", impl.TidyMachine(m), code)
	for _, w := range []int64{0, -1, word(2, 1, 3), word(1, 1, 3), math.MaxInt64} {
		wantWord(t, fmt.Sprint(what, ": SlotOf ", w), impl.SlotOf(m, w), code, 0)
	}
}

// richMachine has nodes that lead to themselves, a ring, slots that lead to the same node, free
// slots, garbage, and plain fields that have what would be Ids.
func richMachine() impl.Machine {
	return impl.Machine{
		Tenant: 2, Quota: 77, Hash: 4321,
		Slots: []impl.Slot{{Gen: 5}, {Gen: 3, Node: 40}, {Gen: 0}, {Gen: 99, Node: 12}, {Gen: 1, Node: 40}, {Gen: 99}},
		Nodes: []impl.GraphNode{
			vertex(3, 1, 7, 9),
			vertex(9, 5, 8, 9, 40, 12),
			vertex(12, 2, 0, -impl.MaxValue, 40),
			vertex(40, 13, 99999, 41, 12, 0, 41),
			vertex(41, 0, 5),
			vertex(9998, 4095, 6, 41, 0, 3, 9998, 0, 0, 9999, 40, 12, 9, 9, 41),
			vertex(9999, 1, 9, 9998, impl.MaxValue),
		},
	}
}

// machineFault makes one fault in a machine that was right. Of two of them the one of the less
// rank is the answer: ranks are told as the document orders codes.
type machineFault struct {
	name string
	rank []int
	code int64
	make func(m *impl.Machine)
}

// Ranks of what comes ahead of, and behind, the nodes that are asked one by one.
const (
	rankHead = iota
	rankCount
	rankSlot
	rankNode
	rankIds
	rankTargets
	rankGens
)

// numberFaults are numbers outside these bounds, just so and far from them.
func numberFaults(name string, rank []int, least, greatest int64, field func(m *impl.Machine) *int64) []machineFault {
	var list []machineFault
	for _, n := range append([]int64{least - 1, greatest + 1}, strange...) {
		if n >= least && n <= greatest {
			continue
		}
		list = append(list, machineFault{fmt.Sprint(name, " of ", n), rank, impl.ErrRange, func(m *impl.Machine) { *field(m) = n }})
	}
	return list
}

func headNumberFaults() []machineFault {
	rank := []int{rankHead}
	list := numberFaults("a Tenant", rank, 0, 3, func(m *impl.Machine) *int64 { return &m.Tenant })
	list = append(list, numberFaults("a Quota", rank, 2, 200, func(m *impl.Machine) *int64 { return &m.Quota })...)
	return append(list, numberFaults("a Hash", rank, 0, 99999, func(m *impl.Machine) *int64 { return &m.Hash })...)
}

func countFaults() []machineFault {
	rank := []int{rankCount}
	return []machineFault{
		{"9 slots", rank, impl.ErrMany, func(m *impl.Machine) { m.Slots = append(m.Slots, make([]impl.Slot, 9-len(m.Slots))...) }},
		{"151 nodes", rank, impl.ErrMany, func(m *impl.Machine) { m.Nodes = withNodes(m.Nodes, 151) }},
		{"very many nodes", rank, impl.ErrMany, func(m *impl.Machine) { m.Nodes = withNodes(m.Nodes, 3000) }},
	}
}

// withNodes has so many nodes, of which the last ones have Ids that rise from 200 on.
func withNodes(nodes []impl.GraphNode, n int) []impl.GraphNode {
	list := slices.DeleteFunc(slices.Clone(nodes), func(n impl.GraphNode) bool { return n.Id > 150 })
	for id := int64(200); len(list) < n; id++ {
		list = append(list, vertex(id, 0, 0))
	}
	return list
}

func slotFaults(slot int) []machineFault {
	rank, of := []int{rankSlot, slot}, fmt.Sprint(" in the slot ", slot)
	list := numberFaults("a Gen"+of, rank, 0, 99, func(m *impl.Machine) *int64 { return &m.Slots[slot].Gen })
	return append(list, numberFaults("a Node"+of, rank, 0, 9999, func(m *impl.Machine) *int64 { return &m.Slots[slot].Node })...)
}

func nodeFaults(node int) []machineFault {
	ofHead, ofCount, ofFields := []int{rankNode, node, 0}, []int{rankNode, node, 1}, []int{rankNode, node, 2}
	of := fmt.Sprint(" in the node ", node)
	at := richMachine().Nodes[node]
	list := numberFaults("an Id"+of, ofHead, 1, 9999, func(m *impl.Machine) *int64 { return &m.Nodes[node].Id })
	list = append(list, numberFaults("a Size"+of, ofHead, 0, 12, func(m *impl.Machine) *int64 { return &m.Nodes[node].Size })...)
	list = append(list, numberFaults("a Mask"+of, ofHead, 0, 1<<at.Size-1, func(m *impl.Machine) *int64 { return &m.Nodes[node].Mask })...)
	list = append(list, numberFaults("a Hash"+of, ofHead, 0, 99999, func(m *impl.Machine) *int64 { return &m.Nodes[node].Hash })...)
	for i := range at.Size {
		what := fmt.Sprint("the field ", i, of)
		list = append(list, numberFaults(what, ofFields, -impl.MaxValue, impl.MaxValue, func(m *impl.Machine) *int64 {
			return &m.Nodes[node].Fields[i]
		})...)
	}
	return append(list, machineFault{"one field more" + of, ofCount, impl.ErrMany, func(m *impl.Machine) {
		m.Nodes[node].Fields = append(m.Nodes[node].Fields, 0)
	}})
}

func idFaults() []machineFault {
	rank := []int{rankIds}
	return []machineFault{
		{"an Id twice", rank, impl.ErrForm, func(m *impl.Machine) { m.Nodes[4].Id = m.Nodes[3].Id }},
		{"an Id twice at the end", rank, impl.ErrForm, func(m *impl.Machine) { m.Nodes[5].Id = 9999 }},
		{"a lower Id", rank, impl.ErrForm, func(m *impl.Machine) { m.Nodes[2].Id = 8 }},
		{"a lower Id than all others", rank, impl.ErrForm, func(m *impl.Machine) { m.Nodes[6].Id = 1 }},
		{"the first Id is above others", rank, impl.ErrForm, func(m *impl.Machine) { m.Nodes[0].Id = 10 }},
	}
}

// targetFaults lead to no node, from each slot and from each pointer, whether it is reached or not.
func targetFaults() []machineFault {
	rank, good := []int{rankTargets}, richMachine()
	var list []machineFault
	for s := range good.Slots {
		for _, id := range []int64{1, 4, 42, 9997} {
			list = append(list, machineFault{fmt.Sprint("the slot ", s, " leads to ", id), rank, impl.ErrNone, func(m *impl.Machine) { m.Slots[s].Node = id }})
		}
	}
	for n, node := range good.Nodes {
		for i := range node.Size {
			if !isPointerField(impl.Head{Mask: node.Mask}, i) {
				continue
			}
			for _, id := range []int64{1, 4, 9997, 10000, -1, -40, impl.MaxValue, -impl.MaxValue} {
				what := fmt.Sprint("the pointer ", i, " of the node ", n, " is ", id)
				list = append(list, machineFault{what, rank, impl.ErrNone, func(m *impl.Machine) { m.Nodes[n].Fields[i] = id }})
			}
		}
	}
	return list
}

func genFaults() []machineFault {
	rank := []int{rankGens}
	return []machineFault{
		{"a Gen of 0", rank, impl.ErrState, func(m *impl.Machine) { m.Slots[1].Gen = 0 }},
		{"the last Gen is 0", rank, impl.ErrState, func(m *impl.Machine) { m.Slots[4].Gen = 0 }},
		{"a free slot that was never given leads to a node", rank, impl.ErrState, func(m *impl.Machine) { m.Slots[2].Node = 9 }},
	}
}

// machineFaults have no two that undo each other, if the one of the less rank is made behind the other.
func machineFaults() []machineFault {
	list := append(headNumberFaults(), countFaults()...)
	for slot := range richMachine().Slots {
		list = append(list, slotFaults(slot)...)
	}
	for node := range richMachine().Nodes {
		list = append(list, nodeFaults(node)...)
	}
	list = append(list, idFaults()...)
	list = append(list, targetFaults()...)
	return append(list, genFaults()...)
}

// fewFaults are the last fault of each kind and place.
func fewFaults() []machineFault {
	last := map[string]machineFault{}
	for _, f := range machineFaults() {
		last[fmt.Sprint(f.rank)] = f
	}
	var list []machineFault
	for _, f := range last {
		list = append(list, f)
	}
	slices.SortFunc(list, func(a, b machineFault) int { return slices.Compare(a.rank, b.rank) })
	return list
}

// machineCase has what is reached, and what is tidy, written by hand.
type machineCase struct {
	name    string
	slots   []impl.Slot
	nodes   []impl.GraphNode
	reached []int64
	tidy    []impl.GraphNode
	ids     []int64 // to which the slots of the tidy one lead
}

func (c machineCase) machine() impl.Machine {
	return copiedMachine(impl.Machine{Tenant: 1, Quota: 9, Hash: 77, Slots: c.slots, Nodes: c.nodes})
}

func (c machineCase) tidyMachine() impl.Machine {
	m := impl.Machine{Tenant: 1, Quota: 9, Hash: 77, Slots: slices.Clone(c.slots), Nodes: c.tidy}
	for i, id := range c.ids {
		m.Slots[i].Node = id
	}
	return m
}

// leadingTo has a slot for each of these nodes; no two have the same Gen.
func leadingTo(ids ...int64) []impl.Slot {
	var list []impl.Slot
	for i, id := range ids {
		list = append(list, impl.Slot{Gen: int64(10 + i), Node: id})
	}
	return list
}

// machineCases begin with those in which nothing is reached.
func machineCases() []machineCase {
	type nodes = []impl.GraphNode
	type ids = []int64
	ring := nodes{vertex(4, 1, 1, 9), vertex(7, 1, 2, 4), vertex(9, 1, 3, 7)}
	// The node 40 is reached by two ways, and the node 50 by none.
	ways := nodes{vertex(10, 3, 0, 20, 30), vertex(20, 1, 1, 40), vertex(30, 1, 2, 40, 8), vertex(40, 0, 3, 5), vertex(50, 7, 4, 40, 10, 50)}
	far := nodes{vertex(1, 5, 0, 6, 0, 2), vertex(2, 1, 1, 4), vertex(3, 0, 2), vertex(4, 0, 3), vertex(5, 1, 4, 3), vertex(6, 6, 5, -1, 0, 5)}
	twelve := nodes{vertex(5, 0, 1), vertex(6, 4095, 2, 9, 0, 6, 8, 5, 0, 0, 9, 9, 7, 5, 6), vertex(7, 0, 3, 6), vertex(8, 1, 4, 5), vertex(9, 1, 5, 0)}
	return []machineCase{
		{"no node", leadingTo(0), nil, nil, nil, nil},
		{"no node, and the most slots", leadingTo(0, 0, 0, 0, 0, 0, 0, 0), nodes{}, nil, nil, nil},
		{"slots that were never given", make([]impl.Slot, 3), nil, nil, nil, nil},
		{"all slots are free", leadingTo(0, 0), ring, nil, nil, nil},
		{"all slots are free, and one node leads to itself", leadingTo(0), nodes{vertex(1, 1, 1, 1)}, nil, nil, nil},

		{"one node", leadingTo(5), nodes{vertex(5, 0, 6)}, ids{5}, nodes{vertex(1, 0, 6)}, ids{1}},
		{"the last Id", leadingTo(9999), nodes{vertex(9999, 1, 99999, 9999)}, ids{9999}, nodes{vertex(1, 1, 99999, 1)}, ids{1}},
		{"it is tidy", leadingTo(1, 2), nodes{vertex(1, 1, 6, 3), vertex(2, 2, 6, 3, 0), vertex(3, 1, 6, 1)}, ids{1, 2, 3}, nodes{vertex(1, 1, 6, 3), vertex(2, 2, 6, 3, 0), vertex(3, 1, 6, 1)}, ids{1, 2}},
		{"one that leads to itself", leadingTo(0, 8), nodes{vertex(7, 0, 1), vertex(8, 2, 5, 8, 8)}, ids{8}, nodes{vertex(1, 2, 5, 8, 1)}, ids{0, 1}},
		{"garbage that leads to itself", leadingTo(7), nodes{vertex(7, 0, 1), vertex(8, 2, 5, 8, 8)}, ids{7}, nodes{vertex(1, 0, 1)}, ids{1}},
		{"slots that lead to the same node", leadingTo(8, 0, 8, 8), nodes{vertex(8, 0, 5, 8)}, ids{8}, nodes{vertex(1, 0, 5, 8)}, ids{1, 0, 1, 1}},
		{"slots that lead to the same nodes by turns", leadingTo(8, 7, 8, 7), nodes{vertex(7, 0, 6), vertex(8, 0, 5)}, ids{8, 7}, nodes{vertex(1, 0, 5), vertex(2, 0, 6)}, ids{1, 2, 1, 2}},
		{"the most slots, backwards", leadingTo(8, 7, 6, 5, 4, 3, 2, 1), chained(8, 0), ids{8, 7, 6, 5, 4, 3, 2, 1}, backwardsChained(8), ids{1, 2, 3, 4, 5, 6, 7, 8}},
		{"a ring", leadingTo(7), ring, ids{7, 4, 9}, nodes{vertex(1, 1, 2, 2), vertex(2, 1, 1, 3), vertex(3, 1, 3, 1)}, ids{1}},
		{"a ring that is entered twice", leadingTo(0, 9, 4), ring, ids{9, 4, 7}, nodes{vertex(1, 1, 3, 3), vertex(2, 1, 1, 1), vertex(3, 1, 2, 2)}, ids{0, 1, 2}},
		{"two that lead to each other", leadingTo(6), nodes{vertex(5, 1, 1, 6, 20), vertex(6, 2, 2, 30, 5)}, ids{6, 5}, nodes{vertex(1, 2, 2, 30, 2), vertex(2, 1, 1, 1, 20)}, ids{1}},
		{"a ring that is garbage", leadingTo(9), nodes{vertex(4, 1, 1, 6), vertex(6, 3, 2, 4, 9), vertex(9, 0, 3)}, ids{9}, nodes{vertex(1, 0, 3)}, ids{1}},
		{"by two ways", leadingTo(10), ways, ids{10, 20, 30, 40}, nodes{vertex(1, 3, 0, 2, 3), vertex(2, 1, 1, 4), vertex(3, 1, 2, 4, 8), vertex(4, 0, 3, 5)}, ids{1}},
		{"by two ways from two slots", leadingTo(30, 0, 20), ways, ids{30, 20, 40}, nodes{vertex(1, 1, 2, 3, 8), vertex(2, 1, 1, 3), vertex(3, 0, 3, 5)}, ids{1, 0, 2}},
		{"slots ahead of all others", leadingTo(10, 40), ways, ids{10, 40, 20, 30}, nodes{vertex(1, 3, 0, 3, 4), vertex(2, 0, 3, 5), vertex(3, 1, 1, 2), vertex(4, 1, 2, 2, 8)}, ids{1, 2}},
		{"near ones ahead of far ones", leadingTo(1), far, ids{1, 6, 2, 5, 4, 3}, nodes{vertex(1, 5, 0, 2, 0, 3), vertex(2, 6, 5, -1, 0, 4), vertex(3, 1, 1, 5), vertex(4, 1, 4, 6), vertex(5, 0, 3), vertex(6, 0, 2)}, ids{1}},
		{"twelve pointers", leadingTo(6), twelve, ids{6, 9, 8, 5, 7}, nodes{vertex(1, 4095, 2, 2, 0, 1, 3, 4, 0, 0, 2, 2, 5, 4, 1), vertex(2, 1, 5, 0), vertex(3, 1, 4, 4), vertex(4, 0, 1), vertex(5, 0, 3, 6)}, ids{1}},
		{"pointers of 0", leadingTo(3), nodes{vertex(2, 0, 0), vertex(3, 7, 1, 0, 0, 0)}, ids{3}, nodes{vertex(1, 7, 1, 0, 0, 0)}, ids{1}},
		{"plain fields that would lead there", leadingTo(3), nodes{vertex(2, 0, 0), vertex(3, 2, 1, 2, 3, 2)}, ids{3}, nodes{vertex(1, 2, 1, 2, 1, 2)}, ids{1}},
		{"plain fields that lead nowhere", leadingTo(3), nodes{vertex(3, 0, 1, -impl.MaxValue, 4, impl.MaxValue)}, ids{3}, nodes{vertex(1, 0, 1, -impl.MaxValue, 4, impl.MaxValue)}, ids{1}},
		{"Ids that are numbers of others", leadingTo(3), nodes{vertex(1, 1, 11, 2), vertex(2, 1, 12, 3), vertex(3, 1, 13, 1)}, ids{3, 1, 2}, nodes{vertex(1, 1, 13, 2), vertex(2, 1, 11, 3), vertex(3, 1, 12, 1)}, ids{1}},
	}
}

// chained has n nodes, of the Ids 1 to n and hashes above these, each of which leads to the one of
// the Id that is step behind, if there is such a one.
func chained(n, step int64) []impl.GraphNode {
	var list []impl.GraphNode
	for id := int64(1); id <= n; id++ {
		to := id + step
		if step == 0 || to < 1 || to > n {
			to = 0
		}
		list = append(list, vertex(id, 1, 100+id, to))
	}
	return list
}

// backwardsChained are those of chained that lead nowhere, with the last one ahead.
func backwardsChained(n int64) []impl.GraphNode {
	list := chained(n, 0)
	slices.Reverse(list)
	for i := range list {
		list[i].Id = int64(i + 1)
	}
	return list
}

func nodeOf(nodes []impl.GraphNode, id int64) impl.GraphNode {
	return nodes[slices.IndexFunc(nodes, func(n impl.GraphNode) bool { return n.Id == id })]
}

// modelReachOf goes round by round: all that the nodes of one round lead to is the next round.
func modelReachOf(m impl.Machine) []int64 {
	var round, all []int64
	for _, s := range m.Slots {
		round = append(round, s.Node)
	}
	for len(round) > 0 {
		var next []int64
		for _, id := range round {
			if id == 0 || slices.Contains(all, id) {
				continue
			}
			all = append(all, id)
			n := nodeOf(m.Nodes, id)
			for i, to := range n.Fields {
				if isPointerField(impl.Head{Mask: n.Mask}, int64(i)) {
					next = append(next, to)
				}
			}
		}
		round = next
	}
	return all
}

// modelTidy has 0 at the number -1 of an Index, as 0 is in no list.
func modelTidy(m impl.Machine, list []int64) impl.Machine {
	tidy := copiedMachine(m)
	for i, s := range m.Slots {
		tidy.Slots[i].Node = int64(slices.Index(list, s.Node) + 1)
	}
	tidy.Nodes = nil
	for number, id := range list {
		n := nodeOf(m.Nodes, id)
		n.Id, n.Fields = int64(number+1), slices.Clone(n.Fields)
		for i, to := range n.Fields {
			if isPointerField(impl.Head{Mask: n.Mask}, int64(i)) {
				n.Fields[i] = int64(slices.Index(list, to) + 1)
			}
		}
		tidy.Nodes = append(tidy.Nodes, n)
	}
	return tidy
}

// machinePairing holds what stands for what, when two machines are gone through side by side. It
// goes into the depth, since what is held does not hang on the order in which one goes.
type machinePairing struct {
	a, b   impl.Machine
	ab, ba map[int64]int64
}

func (p machinePairing) fits(x, y int64) bool {
	if x == 0 || y == 0 {
		return x == y
	}
	px, isX := p.ab[x]
	py, isY := p.ba[y]
	if isX || isY {
		return isX && isY && px == y && py == x
	}
	p.ab[x], p.ba[y] = y, x
	n, o := nodeOf(p.a.Nodes, x), nodeOf(p.b.Nodes, y)
	if n.Size != o.Size || n.Mask != o.Mask || n.Hash != o.Hash || len(n.Fields) != len(o.Fields) {
		return false
	}
	for i := range n.Fields {
		if isPointerField(impl.Head{Mask: n.Mask}, int64(i)) {
			if !p.fits(n.Fields[i], o.Fields[i]) {
				return false
			}
		} else if n.Fields[i] != o.Fields[i] {
			return false
		}
	}
	return true
}

// holdsTheSame tells whether all that the handles of both lead to is the same.
func holdsTheSame(a, b impl.Machine) bool {
	if a.Tenant != b.Tenant || a.Quota != b.Quota || a.Hash != b.Hash || len(a.Slots) != len(b.Slots) {
		return false
	}
	p := machinePairing{a, b, map[int64]int64{}, map[int64]int64{}}
	for i := range a.Slots {
		if a.Slots[i].Gen != b.Slots[i].Gen || !p.fits(a.Slots[i].Node, b.Slots[i].Node) {
			return false
		}
	}
	return true
}
