package tests

import (
	"fmt"
	"math"
	"math/rand/v2"
	"slices"
	"testing"

	"loop.example/g00723/impl"
)

func TestNumbersOfKinds(t *testing.T) {
	kinds := []int64{impl.OpNew, impl.OpDup, impl.OpDrop, impl.OpGet, impl.OpPut, impl.OpLoad, impl.OpLink, impl.OpSame, impl.OpHash, impl.OpSize, impl.OpUsed}
	for i, kind := range kinds {
		if kind != int64(i+1) {
			t.Errorf("the kind %d has the number %d", i+1, kind)
		}
	}
}

func wantOpFault(t *testing.T, what string, o impl.Op, code int64) {
	t.Helper()
	if got := impl.OpFault(o); got != code {
		t.Errorf("%s: OpFault of %+v is %d, want %d", what, o, got, code)
	}
}

func TestKindsThatThereAreNot(t *testing.T) {
	for _, kind := range append([]int64{12, 13, 22, 255, 256, 257}, strange...) {
		if kind >= 1 && kind <= 11 {
			wantOpFault(t, "a kind", impl.Op{Kind: kind}, impl.OK)
			continue
		}
		wantOpFault(t, "no kind", impl.Op{Kind: kind}, impl.ErrForm)
		wantOpFault(t, "no kind, and numbers that are in no bounds", impl.Op{Kind: kind, Index: 99, Value: math.MaxInt64}, impl.ErrForm)
	}
	wantOpFault(t, "the zero value", impl.Op{}, impl.ErrForm)
}

// TestWhatAKindDoesNotNeed has each number of an op that is not needed, alone and beside one that
// is out of its bounds.
func TestWhatAKindDoesNotNeed(t *testing.T) {
	for kind := int64(1); kind <= 11; kind++ {
		for _, letter := range "HTIV" {
			for _, n := range []int64{1, -1, 2, 32, math.MaxInt64, math.MinInt64} {
				o := impl.Op{Kind: kind}
				*numberOf(&o, letter) = n
				what := fmt.Sprint("the kind ", kind, " with ", n, " as ", string(letter))
				if !isNeeded(kind, letter) {
					wantOpFault(t, what, o, impl.ErrForm)
				}
				if letter == 'H' && isNeeded(kind, letter) || letter == 'T' && isNeeded(kind, letter) {
					wantOpFault(t, what, o, impl.OK)
				}
				if isNeeded(kind, 'I') && !isNeeded(kind, letter) {
					o.Index = 13
					wantOpFault(t, what+" and an Index of 13", o, impl.ErrForm)
				}
				if isNeeded(kind, 'V') && !isNeeded(kind, letter) {
					o.Index, o.Value = 0, math.MinInt64
					wantOpFault(t, what+" and a Value that is none", o, impl.ErrForm)
				}
			}
		}
	}
}

func TestSizesAndMasksOfNewObjects(t *testing.T) {
	power := int64(1)
	for size := range int64(13) {
		for _, mask := range []int64{0, power / 2, power - 1} {
			wantOpFault(t, "a new object", impl.Op{Kind: impl.OpNew, Index: size, Value: mask}, impl.OK)
		}
		for _, mask := range []int64{-1, power, power + 1, 2 * power, 4096, math.MaxInt64, math.MinInt64} {
			wantOpFault(t, "a Mask that is none", impl.Op{Kind: impl.OpNew, Index: size, Value: mask}, impl.ErrRange)
		}
		power *= 2
	}
	for _, size := range []int64{-1, 13, 14, 62, 63, 64, 65, 128, math.MaxInt64, math.MinInt64} {
		for _, mask := range []int64{0, 1, -1, math.MaxInt64} {
			wantOpFault(t, "a Size that is none", impl.Op{Kind: impl.OpNew, Index: size, Value: mask}, impl.ErrRange)
		}
	}
}

func TestBoundsOfIndexAndValue(t *testing.T) {
	for _, kind := range []int64{impl.OpGet, impl.OpPut, impl.OpLoad, impl.OpLink} {
		for _, i := range append([]int64{10, 11, 12, 13}, strange...) {
			code := int64(impl.OK)
			if i < 0 || i > 11 {
				code = impl.ErrRange
			}
			wantOpFault(t, "an Index", impl.Op{Kind: kind, Handle: 32, Index: i}, code)
			wantOpFault(t, "an Index without a Handle", impl.Op{Kind: kind, Index: i}, code)
		}
	}
	for _, v := range strange {
		code := int64(impl.OK)
		if v < -1000000000 || v > 1000000000 {
			code = impl.ErrRange
		}
		wantOpFault(t, "a Value", impl.Op{Kind: impl.OpPut, Handle: 32, Index: 11, Value: v}, code)
		wantOpFault(t, "a Value and an Index of 12", impl.Op{Kind: impl.OpPut, Handle: 32, Index: 12, Value: v}, impl.ErrRange)
	}
}

func TestOpFaultsOfAnyOps(t *testing.T) {
	kinds := append([]int64{4, 5, 6, 10, 11, 12, 13}, strange...)
	few := []int64{0, 1, -9, math.MaxInt64}
	numbers := append([]int64{4, 11, 12, 13, 63, 64, 4095, 4096}, strange...)
	for _, kind := range kinds {
		for _, h := range few {
			for _, to := range few {
				for _, i := range numbers {
					for _, v := range numbers {
						o := impl.Op{Tenant: v, Kind: kind, Handle: h, To: to, Index: i, Value: v, Force: h == 1}
						wantOpFault(t, "any op", o, modelOpFault(o))
					}
				}
			}
		}
	}
}

func TestOpFaultWhateverTenantAndForceAre(t *testing.T) {
	ops := []impl.Op{{}, {Kind: impl.OpUsed}, {Kind: impl.OpUsed, Value: 1}, {Kind: impl.OpNew, Index: 13}, {Kind: impl.OpGet, Handle: -9}}
	for _, o := range ops {
		code := modelOpFault(o)
		for _, tenant := range strange {
			for _, force := range []bool{false, true} {
				o.Tenant, o.Force = tenant, force
				wantOpFault(t, "any tenant", o, code)
			}
		}
	}
}

func TestWhatEachKindDoes(t *testing.T) {
	for _, c := range workCases() {
		for _, force := range []bool{false, true} {
			c.op.Force = force
			wantStep(t, c.name, workMachine(), c.op, c.reply, c.after)
			wantStep(t, c.name+", tidy", tidyWork(), c.op, c.reply, c.after)
			checkStep(t, c.name, workMachine(), c.op)
		}
	}
}

// TestWhatEachKindRefuses has a machine that is not tidy: it is behind a code, too.
func TestWhatEachKindRefuses(t *testing.T) {
	for _, r := range workRefusals() {
		wantStep(t, r.name, workMachine(), r.op, impl.Reply{Code: r.code}, tidyWork())
		wantStep(t, r.name+", tidy", tidyWork(), r.op, impl.Reply{Code: r.code}, tidyWork())
		checkStep(t, r.name, workMachine(), r.op)
	}
}

func TestAnObjectOfTheSizeZero(t *testing.T) {
	m := impl.Machine{Quota: 9, Slots: leadingTo(1, 0), Nodes: []impl.GraphNode{vertex(1, 0, 3)}}
	h := word(0, 0, 10)
	for _, kind := range []int64{impl.OpGet, impl.OpPut, impl.OpLoad, impl.OpLink} {
		for i := range int64(12) {
			wantStep(t, "an Index", m, impl.Op{Kind: kind, Handle: h, Index: i}, impl.Reply{Code: impl.ErrRange}, m)
		}
	}
	wantStep(t, "a link to itself", m, impl.Op{Kind: impl.OpLink, Handle: h, To: h}, impl.Reply{Code: impl.ErrRange}, m)
	wantStep(t, "its Size", m, impl.Op{Kind: impl.OpSize, Handle: h}, impl.Reply{}, m)
	wantStep(t, "its words", m, impl.Op{Kind: impl.OpUsed}, impl.Reply{Value: 2}, m)
}

func TestEachFieldOfAnObject(t *testing.T) {
	for _, mask := range []int64{0, 1, 2048, 1365, 2730, 4095} {
		m := impl.Machine{Tenant: 3, Quota: 40, Slots: leadingTo(1, 2, 0), Nodes: []impl.GraphNode{vertex(1, mask, 8, make([]int64, 12)...), vertex(2, 0, 9)}}
		for i := range int64(12) {
			if !isPointerField(impl.Head{Mask: mask}, i) {
				m.Nodes[0].Fields[i] = 100 + i
			}
		}
		for i := range int64(12) {
			for _, kind := range []int64{impl.OpGet, impl.OpPut, impl.OpLoad, impl.OpLink} {
				o := impl.Op{Tenant: 3, Kind: kind, Handle: word(3, 0, 10), Index: i}
				if checkStep(t, "an op", m, o); kind == impl.OpPut {
					o.Value = -impl.MaxValue
				}
				if kind == impl.OpLink {
					o.To = word(3, 1, 11)
				}
				_, after := checkStep(t, "an op", m, o)
				o.Kind, o.To, o.Value = impl.OpLoad, 0, 0
				checkStep(t, "a load behind it", after, o)
				o.Kind = impl.OpGet
				checkStep(t, "a get behind it", after, o)
			}
		}
	}
}

// taken has so many slots; those of free are free with these Gens, all others lead to the node 1.
func taken(quota int64, slots int, free map[int]int64) impl.Machine {
	m := impl.Machine{Tenant: 2, Quota: quota, Hash: 5, Nodes: []impl.GraphNode{vertex(1, 3, 4, 1, 0)}}
	for i := range slots {
		s := impl.Slot{Gen: 20, Node: 1}
		if gen, isFree := free[i]; isFree {
			s = impl.Slot{Gen: gen}
		}
		m.Slots = append(m.Slots, s)
	}
	return m
}

func TestWhereNoSlotCanBeGiven(t *testing.T) {
	h := word(2, 0, 20)
	full := impl.Reply{Code: impl.ErrFull}
	for slots := 1; slots <= 8; slots++ {
		for _, free := range []map[int]int64{nil, {slots - 1: 99}, {1: 99, slots - 1: 99}} {
			if _, isFree := free[0]; isFree {
				continue // the handle that is asked for is that of the slot 0
			}
			m := taken(200, slots, free)
			wantStep(t, "OpNew", m, impl.Op{Tenant: 2, Kind: impl.OpNew}, full, m)
			wantStep(t, "OpNew of fields", m, impl.Op{Tenant: 2, Kind: impl.OpNew, Index: 3, Value: 5}, full, m)
			wantStep(t, "OpDup", m, impl.Op{Tenant: 2, Kind: impl.OpDup, Handle: h}, full, m)
			wantStep(t, "OpLoad", m, impl.Op{Tenant: 2, Kind: impl.OpLoad, Handle: h}, full, m)
			wantStep(t, "OpLoad of a pointer of 0", m, impl.Op{Tenant: 2, Kind: impl.OpLoad, Handle: h, Index: 1}, impl.Reply{}, m)
			wantStep(t, "OpDup by no handle", m, impl.Op{Tenant: 2, Kind: impl.OpDup, Handle: 1}, impl.Reply{Code: impl.ErrHandle}, m)
			wantStep(t, "OpLoad of no field", m, impl.Op{Tenant: 2, Kind: impl.OpLoad, Handle: h, Index: 2}, impl.Reply{Code: impl.ErrRange}, m)
			wantStep(t, "OpUsed", m, impl.Op{Tenant: 2, Kind: impl.OpUsed}, impl.Reply{Value: 4}, m)
			small := m
			small.Quota = 4
			wantStep(t, "OpNew, and the quota is too small", small, impl.Op{Tenant: 2, Kind: impl.OpNew}, full, small)
			small.Hash = 99999
			wantStep(t, "OpNew, and Hash is at its end, too", small, impl.Op{Tenant: 2, Kind: impl.OpNew}, full, small)
			small.Quota = 200
			wantStep(t, "OpNew, and Hash is at its end", small, impl.Op{Tenant: 2, Kind: impl.OpNew}, full, small)
			wantStep(t, "OpNew that is none", small, impl.Op{Tenant: 2, Kind: impl.OpNew, Value: 1}, impl.Reply{Code: impl.ErrRange}, small)
		}
	}
	last := impl.Machine{Quota: 5, Slots: []impl.Slot{{Gen: 99}}}
	wantStep(t, "the only slot is free, and its Gen at its end", last, impl.Op{Kind: impl.OpNew}, full, last)
	last.Slots[0].Gen = 98
	wantStep(t, "its Gen is just below", last, impl.Op{Kind: impl.OpNew}, impl.Reply{Value: 3168}, impl.Machine{
		Quota: 5, Hash: 1, Slots: []impl.Slot{{Gen: 99, Node: 1}}, Nodes: []impl.GraphNode{vertex(1, 0, 1)},
	})
}

// TestWhichSlotIsGiven has all machines of four slots that are taken or free, of several Gens.
func TestWhichSlotIsGiven(t *testing.T) {
	kinds := []impl.Slot{{}, {Gen: 1}, {Gen: 98}, {Gen: 99}, {Gen: 7, Node: 1}, {Gen: 99, Node: 1}}
	for number := range 6 * 6 * 6 * 6 {
		m := impl.Machine{Tenant: 1, Quota: 50, Hash: 5, Slots: []impl.Slot{{Gen: 3, Node: 1}}, Nodes: []impl.GraphNode{vertex(1, 1, 4, 1)}}
		for n := number; len(m.Slots) < 5; n /= 6 {
			m.Slots = append(m.Slots, kinds[n%6])
		}
		given := slices.IndexFunc(m.Slots, func(s impl.Slot) bool { return s.Node == 0 && s.Gen < 99 })
		reply := impl.Reply{Code: impl.ErrFull}
		after := copiedMachine(m)
		if given >= 0 {
			after.Slots[given].Gen++
			after.Slots[given].Node = 1
			reply = impl.Reply{Value: 1 + 4*(int64(given)+8*after.Slots[given].Gen)}
		}
		wantStep(t, "OpDup", m, impl.Op{Tenant: 1, Kind: impl.OpDup, Handle: word(1, 0, 3)}, reply, after)
		wantStep(t, "OpLoad", m, impl.Op{Tenant: 1, Kind: impl.OpLoad, Handle: word(1, 0, 3)}, reply, after)
		if given >= 0 {
			after.Hash = 6
			after.Slots[given].Node = 2
			after.Nodes = append(after.Nodes, vertex(2, 2, 6, 0, 0))
		}
		wantStep(t, "OpNew", m, impl.Op{Tenant: 1, Kind: impl.OpNew, Index: 2, Value: 2}, reply, after)
	}
}

func TestHandlesThatAreGivenLeadThere(t *testing.T) {
	for tenant := range int64(4) {
		m := impl.NewMachine(tenant, 100, 8).Machine
		for slot := range int64(8) {
			got := impl.DoMachine(m, impl.Op{Tenant: tenant, Kind: impl.OpNew, Index: slot})
			wantWord(t, "SlotOf a new object's handle", impl.SlotOf(got.Machine, got.Reply.Value), impl.OK, slot)
			size := impl.DoMachine(got.Machine, impl.Op{Tenant: tenant, Kind: impl.OpSize, Handle: got.Reply.Value})
			if size.Reply != (impl.Reply{Value: slot}) {
				t.Errorf("the handle %d does not lead to the new object: %+v", got.Reply.Value, size)
			}
			m = got.Machine
		}
	}
}

// TestQuota has what is held, and is met just so, for all Sizes; garbage is not counted, and what
// is reached twice is counted once.
func TestQuota(t *testing.T) {
	held := []impl.GraphNode{vertex(2, 1, 1, 4, 6), vertex(4, 1, 2, 2), vertex(9, 0, 3, 1, 2, 3, 4, 5, 6, 7)}
	for size := range int64(13) {
		for quota := int64(2); quota <= 30; quota++ {
			m := impl.Machine{Quota: quota, Slots: leadingTo(2, 4, 0, 2), Nodes: held}
			o := impl.Op{Kind: impl.OpNew, Index: size}
			reply, after := checkStep(t, "a new object", m, o)
			isRefused := 7+2+size > quota
			if isRefused != (reply.Code == impl.ErrQuota) || !isRefused && modelUsed(after) != 9+size {
				t.Errorf("the quota %d and the Size %d: %+v", quota, size, reply)
			}
		}
	}
	empty := impl.NewMachine(0, 2, 1).Machine
	wantStep(t, "just the Quota of 2", empty, impl.Op{Kind: impl.OpNew}, impl.Reply{Value: 32}, impl.Machine{
		Quota: 2, Hash: 1, Slots: []impl.Slot{{Gen: 1, Node: 1}}, Nodes: []impl.GraphNode{vertex(1, 0, 1)},
	})
	wantStep(t, "one word more", empty, impl.Op{Kind: impl.OpNew, Index: 1}, impl.Reply{Code: impl.ErrQuota}, empty)
	wantStep(t, "one pointer more", empty, impl.Op{Kind: impl.OpNew, Index: 1, Value: 1}, impl.Reply{Code: impl.ErrQuota}, empty)
}

// TestMoreThanTheQuota has machines that hold more than their quota, which is no fault.
func TestMoreThanTheQuota(t *testing.T) {
	m := impl.Machine{Quota: 2, Hash: 8, Slots: leadingTo(1, 0), Nodes: []impl.GraphNode{vertex(1, 1, 8, 0, 5)}}
	h := word(0, 0, 10)
	wantStep(t, "OpNew", m, impl.Op{Kind: impl.OpNew}, impl.Reply{Code: impl.ErrQuota}, m)
	wantStep(t, "OpUsed", m, impl.Op{Kind: impl.OpUsed}, impl.Reply{Value: 4}, m)
	for _, o := range []impl.Op{{Kind: impl.OpDup, Handle: h}, {Kind: impl.OpLink, Handle: h, To: h}, {Kind: impl.OpPut, Handle: h, Index: 1, Value: 6}, {Kind: impl.OpDrop, Handle: h}} {
		if reply, _ := checkStep(t, "the quota is not asked", m, o); reply.Code != impl.OK {
			t.Errorf("%+v: %+v", o, reply)
		}
	}
}

// TestTheMostNodes has machines of as many nodes as there can be, and Ids up to their end.
func TestTheMostNodes(t *testing.T) {
	m := impl.Machine{Quota: 200, Slots: leadingTo(0, 9999, 0)}
	for id := int64(9850); id <= 9999; id++ {
		m.Nodes = append(m.Nodes, vertex(id, 1, 7, 0, id))
	}
	after := impl.Machine{Quota: 200, Hash: 1, Slots: []impl.Slot{{Gen: 11, Node: 1}, {Gen: 11, Node: 2}, {Gen: 12}}, Nodes: []impl.GraphNode{vertex(1, 0, 1), vertex(2, 1, 7, 0, 9999)}}
	wantStep(t, "all but one are garbage", m, impl.Op{Kind: impl.OpNew}, impl.Reply{Value: word(0, 0, 11)}, after)
	for i := range m.Nodes[1:] {
		m.Nodes[i+1].Fields[0] = m.Nodes[i].Id
	}
	for _, o := range []impl.Op{{Kind: impl.OpNew}, {Kind: impl.OpUsed}, {Kind: impl.OpLoad, Handle: word(0, 1, 11)}, {Kind: impl.OpDrop, Handle: word(0, 1, 11)}, {Kind: impl.OpLink, Handle: word(0, 1, 11)}} {
		checkStep(t, "all are held", m, o)
	}
	// As many objects as there is a quota for, each of which is in the one that is made next.
	chain := impl.NewMachine(0, 200, 3).Machine
	next, made := int64(0), 0
	for range 70 {
		reply, after := checkStep(t, "one more", chain, impl.Op{Kind: impl.OpNew, Index: 1, Value: 1})
		if reply.Code != impl.OK {
			break
		}
		made++
		if next != 0 {
			_, after = checkStep(t, "a link to the last one", after, impl.Op{Kind: impl.OpLink, Handle: reply.Value, To: next})
			_, after = checkStep(t, "the last one's handle", after, impl.Op{Kind: impl.OpDrop, Handle: next})
		}
		chain, next = after, reply.Value
	}
	if made != 66 || len(chain.Nodes) != 66 || impl.UsedBy(chain).Value != 198 {
		t.Errorf("%d were made: %+v", made, chain)
	}
}

func TestHashAtItsEnd(t *testing.T) {
	m := turned(tidyWork(), func(m *impl.Machine) { m.Hash = 99998 })
	o := impl.Op{Tenant: 1, Kind: impl.OpNew}
	got := impl.DoMachine(m, o)
	if got.Reply.Value != 69 || got.Machine.Hash != 99999 || got.Machine.Nodes[1].Hash != 99999 {
		t.Errorf("the last Hash: %+v", got)
	}
	wantStep(t, "no Hash is left", got.Machine, o, impl.Reply{Code: impl.ErrQuota}, got.Machine)
	end := turned(tidyWork(), func(m *impl.Machine) { m.Hash = 99999 })
	for _, size := range []int64{0, 1, 12} {
		o.Index = size
		wantStep(t, "no Hash is left", end, o, impl.Reply{Code: impl.ErrQuota}, end)
	}
	for _, c := range workCases() {
		if c.op.Kind != impl.OpNew {
			c.after.Hash = 99999
			wantStep(t, c.name+", and Hash is at its end", end, c.op, c.reply, c.after)
		}
	}
}

// TestEachNewObjectHasItsOwnHash has objects that are dropped, and ops that are refused, in between.
func TestEachNewObjectHasItsOwnHash(t *testing.T) {
	m := impl.NewMachine(0, 5, 2).Machine
	run := impl.RunMachine(m, []impl.Op{
		{Kind: impl.OpNew}, {Kind: impl.OpHash, Handle: 32}, {Kind: impl.OpNew, Index: 9}, {Kind: impl.OpDrop, Handle: 32},
		{Kind: impl.OpNew, Index: 1, Value: 2}, {Kind: impl.OpNew, Index: 1}, {Kind: impl.OpHash, Handle: 64}, {Kind: impl.OpHash, Handle: 32},
	})
	wantRun(t, "hashes", run, []impl.Reply{
		{Value: 32}, {Value: 1}, {Code: impl.ErrQuota}, {}, {Code: impl.ErrRange}, {Value: 64}, {Value: 2}, {Code: impl.ErrHandle},
	}, impl.Machine{Quota: 5, Hash: 2, Slots: []impl.Slot{{Gen: 2, Node: 1}, {}}, Nodes: []impl.GraphNode{vertex(1, 0, 2, 0)}})
}

// TestWhatIsNoLongerHeldIsGone drops handles, and links away from nodes, that hold others alone.
func TestWhatIsNoLongerHeldIsGone(t *testing.T) {
	ring := []impl.GraphNode{vertex(2, 1, 1, 4), vertex(4, 1, 2, 2), vertex(6, 3, 3, 2, 8), vertex(8, 0, 4, 6)}
	machine := func(ids ...int64) impl.Machine {
		return impl.Machine{Quota: 50, Hash: 9, Slots: leadingTo(ids...), Nodes: ring}
	}
	gone := func(what string, m impl.Machine, o impl.Op, used int64, hashes ...int64) {
		t.Helper()
		got := impl.DoMachine(m, o)
		var left []int64
		for _, n := range got.Machine.Nodes {
			left = append(left, n.Hash)
		}
		if got.Code != impl.OK || got.Reply != (impl.Reply{}) || !slices.Equal(left, hashes) {
			t.Errorf("%s: got %+v, want the nodes of the hashes %v", what, got, hashes)
		}
		wantWord(t, what+": UsedBy", impl.UsedBy(got.Machine), impl.OK, used)
		checkStep(t, what, m, o)
	}
	drop := func(slot int64) impl.Op { return impl.Op{Kind: impl.OpDrop, Handle: word(0, slot, 10+slot)} }
	gone("the only handle of one", machine(8), drop(0), 0)
	gone("the only handle of a ring", machine(2), drop(0), 0)
	gone("one of two handles of one", machine(8, 8), drop(0), 3, 4)
	gone("the other one of two handles of one", machine(8, 8), drop(1), 3, 4)
	gone("one handle of a ring of two", machine(2, 4), drop(0), 6, 2, 1)
	gone("what holds all others", machine(6, 2, 0), drop(0), 6, 1, 2)
	gone("what something else leads to", machine(6, 8), drop(1), 13, 3, 1, 4, 2)
	gone("what nothing else leads to", machine(2, 8), drop(1), 6, 1, 2)
	unlink := func(field int64) impl.Op { return impl.Op{Kind: impl.OpLink, Handle: word(0, 0, 10), Index: field} }
	gone("a pointer is 0 now", machine(6), unlink(1), 10, 3, 1, 2)
	gone("a pointer to a ring is 0 now", machine(6), unlink(0), 7, 3, 4)
	gone("a ring is none now", machine(2), unlink(0), 3, 1)
	to := unlink(1)
	to.To = word(0, 0, 10)
	gone("a pointer leads to its own object now", machine(6), to, 10, 3, 1, 2)
}

// TestDroppedHandlesLeadNowhere gives one slot away as often as it can be.
func TestDroppedHandlesLeadNowhere(t *testing.T) {
	m := impl.NewMachine(3, 4, 1).Machine
	for gen := int64(1); gen <= 99; gen++ {
		reply, after := checkStep(t, "a new one", m, impl.Op{Tenant: 3, Kind: impl.OpNew, Index: 2, Value: 1})
		if reply != (impl.Reply{Value: word(3, 0, gen)}) {
			t.Fatalf("the Gen %d: %+v", gen, reply)
		}
		_, m = checkStep(t, "a drop", after, impl.Op{Tenant: 3, Kind: impl.OpDrop, Handle: reply.Value})
		for _, kind := range []int64{impl.OpDup, impl.OpDrop, impl.OpGet, impl.OpSize} {
			wantStep(t, "a dropped handle", m, impl.Op{Tenant: 3, Kind: kind, Handle: reply.Value}, impl.Reply{Code: impl.ErrHandle}, m)
		}
	}
	end := impl.Machine{Tenant: 3, Quota: 4, Hash: 99, Slots: []impl.Slot{{Gen: 99}}}
	wantStep(t, "no Gen is left", m, impl.Op{Tenant: 3, Kind: impl.OpNew}, impl.Reply{Code: impl.ErrFull}, end)
}

func TestOpsOfOtherTenants(t *testing.T) {
	for _, tenant := range append([]int64{4}, strange...) {
		if tenant == 1 {
			continue
		}
		for _, c := range workCases() {
			o := c.op
			o.Tenant = tenant
			wantNoStep(t, "another tenant", impl.DoMachine(workMachine(), o), impl.ErrState)
			wantNoRun(t, "another tenant", impl.RunMachine(workMachine(), []impl.Op{o}), impl.ErrState)
		}
		for _, r := range workRefusals() {
			o := r.op
			o.Tenant = tenant
			wantNoStep(t, "another tenant, and "+r.name, impl.DoMachine(workMachine(), o), impl.ErrState)
		}
	}
}

func TestFaultyMachinesDoNothing(t *testing.T) {
	ops := []impl.Op{{}, {Tenant: 2, Kind: impl.OpUsed}, {Tenant: 2, Kind: impl.OpNew, Index: 13}, {Tenant: 2, Kind: impl.OpDrop, Handle: word(2, 1, 3)}, {Tenant: 3, Kind: impl.OpUsed}}
	refuse := func(what string, m impl.Machine, code int64) {
		for _, o := range ops {
			wantNoStep(t, what, impl.DoMachine(m, o), code)
			wantNoRun(t, what, impl.RunMachine(m, []impl.Op{o}), code)
		}
		wantNoRun(t, what+", no ops", impl.RunMachine(m, nil), code)
		wantNoRun(t, what+", too many ops", impl.RunMachine(m, make([]impl.Op, 301)), code)
	}
	for _, f := range machineFaults() {
		m := richMachine()
		f.make(&m)
		refuse(f.name, m, f.code)
	}
	refuse("the zero value", impl.Machine{}, impl.ErrRange)
}

func TestRunMachine(t *testing.T) {
	list := []impl.Op{
		{Tenant: 1, Kind: impl.OpNew, Index: 2, Value: 2},
		{Tenant: 1, Kind: impl.OpLink, Handle: 69, Index: 1, To: handleOf3},
		{Tenant: 1, Kind: impl.OpPut, Handle: 69, Value: 44, Force: true},
		{Tenant: 1, Kind: impl.OpDrop, Handle: handleOf3},
		{Tenant: 1, Kind: impl.OpUsed},
		{Tenant: 1, Kind: impl.OpDrop, Handle: handleOf3},
		{Tenant: 1, Kind: impl.OpLoad, Handle: 69, Index: 1},
		{Tenant: 1, Kind: impl.OpGet, Handle: 97, Index: 2},
		{Tenant: 1, Kind: impl.OpSame, Handle: 97, To: 69},
		{Tenant: 1, Kind: impl.OpDrop, Handle: 69},
		{Tenant: 1, Kind: impl.OpDrop, Handle: handleOf5},
		{Tenant: 1, Kind: impl.OpUsed},
	}
	replies := []impl.Reply{{Value: 69}, {}, {}, {}, {Value: 12}, {Code: impl.ErrHandle}, {Value: 97}, {Value: 9}, {}, {}, {}, {Value: 8}}
	after := impl.Machine{
		Tenant: 1, Quota: 30, Hash: 8, Slots: []impl.Slot{{Gen: 3, Node: 1}, {Gen: 2}, {Gen: 4}, {}},
		Nodes: []impl.GraphNode{vertex(1, 3, 4, 2, 0, 9), vertex(2, 0, 2, -8)},
	}
	wantRun(t, "ops", impl.RunMachine(workMachine(), list), replies, after)
	wantRun(t, "ops of a tidy machine", impl.RunMachine(tidyWork(), list), replies, after)
	m := workMachine()
	for n := range list {
		reply, next := checkStep(t, "an op", m, list[n])
		wantRun(t, fmt.Sprint("one op more than ", n), impl.RunMachine(workMachine(), list[:n+1]), replies[:n+1], next)
		if reply != replies[n] {
			t.Errorf("the op %d: got %+v, want %+v", n, reply, replies[n])
		}
		m = next
	}
}

func TestRunMachineOfNoOps(t *testing.T) {
	for _, list := range [][]impl.Op{nil, {}} {
		wantRun(t, "it is tidy", impl.RunMachine(workMachine(), list), nil, tidyWork())
		for _, c := range machineCases() {
			wantRun(t, c.name, impl.RunMachine(c.machine(), list), nil, c.tidyMachine())
		}
	}
}

func TestRunMachineOfTheMostOps(t *testing.T) {
	used := impl.Op{Tenant: 1, Kind: impl.OpUsed}
	most := slices.Repeat([]impl.Op{used}, 300)
	wantRun(t, "300 ops", impl.RunMachine(workMachine(), most), slices.Repeat([]impl.Reply{{Value: 8}}, 300), tidyWork())
	faulty := make([]impl.Op, 300)
	for i := range faulty {
		faulty[i].Tenant = 1
	}
	wantRun(t, "300 ops that are refused", impl.RunMachine(workMachine(), faulty), slices.Repeat([]impl.Reply{{Code: impl.ErrForm}}, 300), tidyWork())
	wantNoRun(t, "301 ops", impl.RunMachine(workMachine(), append(most, used)), impl.ErrMany)
	wantNoRun(t, "301 ops of others", impl.RunMachine(workMachine(), make([]impl.Op, 301)), impl.ErrMany)
	wantNoRun(t, "very many ops", impl.RunMachine(workMachine(), make([]impl.Op, 100000)), impl.ErrMany)
	for _, n := range []int{0, 1, 150, 298, 299} {
		list := slices.Clone(most)
		list[n].Tenant = 0
		wantNoRun(t, fmt.Sprint("the op ", n, " is another tenant's"), impl.RunMachine(workMachine(), list), impl.ErrState)
		list[n] = impl.Op{Tenant: math.MinInt64}
		wantNoRun(t, fmt.Sprint("the op ", n, " has no tenant and no kind"), impl.RunMachine(workMachine(), list), impl.ErrState)
	}
	wantNoRun(t, "one of another tenant, behind one that is refused", impl.RunMachine(workMachine(), []impl.Op{{Tenant: 1}, {Tenant: 2, Kind: impl.OpUsed}}), impl.ErrState)
}

// TestOpsOfSmallMachines has each fifth of them: so all Ids are in each slot and pointer, and any two are beside each other.
func TestOpsOfSmallMachines(t *testing.T) {
	number := 0
	smallMachines(func(m impl.Machine) {
		if number++; number%5 != 0 {
			return
		}
		m.Slots = append(m.Slots, impl.Slot{Gen: 4})
		m.Quota = 8
		opsOf(m, []int64{0, 1}, []int64{0, 1}, func(o impl.Op) {
			reply, after := modelDo(m, o)
			if got := impl.DoMachine(m, o); !equalSteps(got, impl.StepResult{Machine: after, Reply: reply}) {
				t.Errorf("%+v of %+v: got %+v, want %+v and %+v", o, m, got, reply, after)
			}
		})
	})
}

func TestOpsOfAnyNumbers(t *testing.T) {
	m := richMachine() // of the tenant 2
	for _, kind := range []int64{math.MinInt64, -1, 0, 1, 2, 3, 4, 5, 6, 7, 8, 9, 10, 11, 12, math.MaxInt64} {
		for _, x := range strange {
			for _, y := range strange {
				checkStep(t, "any op", m, impl.Op{Tenant: 2, Kind: kind, Handle: x, To: y})
				checkStep(t, "any op", m, impl.Op{Tenant: 2, Kind: kind, Handle: word(2, 1, 3), Index: x, Value: y})
				checkStep(t, "any op", m, impl.Op{Tenant: 2, Kind: kind, Handle: word(2, 1, 3), Index: x, To: y})
				checkStep(t, "any op", m, impl.Op{Tenant: 2, Kind: kind, Index: x, Value: y})
			}
		}
	}
}

// anyOp is mostly one that can be done.
func anyOp(r *rand.Rand, m impl.Machine) impl.Op {
	handles := handlesOf(m)
	pick := func() int64 { return handles[r.IntN(len(handles))] }
	o := impl.Op{Tenant: m.Tenant, Kind: 1 + r.Int64N(11), Force: r.IntN(2) == 0}
	if isNeeded(o.Kind, 'H') {
		o.Handle = pick()
	}
	if isNeeded(o.Kind, 'T') {
		o.To = pick()
	}
	if isNeeded(o.Kind, 'I') {
		o.Index = r.Int64N(1 + r.Int64N(13))
	}
	if isNeeded(o.Kind, 'V') {
		o.Value = r.Int64N(1 << min(o.Index, 12))
	}
	if r.IntN(30) == 0 {
		*numberOf(&o, rune("HTIV"[r.IntN(4)])) = strange[r.IntN(len(strange))]
	}
	return o
}

// TestManyOps does ops one behind the other, and then all of them at once.
func TestManyOps(t *testing.T) {
	counts := map[impl.Reply]int{}
	for seed := range uint64(300) {
		r := rand.New(rand.NewPCG(6, seed))
		first := impl.NewMachine(r.Int64N(4), 2+r.Int64N(1+r.Int64N(199)), 1+r.Int64N(8)).Machine
		if seed%5 == 0 {
			first = manyNodes(r)
			first.Quota = 200
		}
		var list []impl.Op
		var replies []impl.Reply
		m := first
		for range r.IntN(150) {
			o := anyOp(r, m)
			reply, after := checkStep(t, fmt.Sprint("the seed ", seed), m, o)
			counts[impl.Reply{Code: reply.Code, Value: o.Kind}]++
			list, replies, m = append(list, o), append(replies, reply), after
		}
		if len(list) > 0 {
			wantRun(t, fmt.Sprint("the seed ", seed), impl.RunMachine(first, list), replies, m)
		}
	}
	// Otherwise these seeds show nothing of some kind.
	for kind := int64(1); kind <= 11; kind++ {
		if counts[impl.Reply{Value: kind}] < 30 {
			t.Errorf("the kind %d was done %d times", kind, counts[impl.Reply{Value: kind}])
		}
	}
	for _, want := range []impl.Reply{{Code: impl.ErrFull, Value: 1}, {Code: impl.ErrQuota, Value: 1}, {Code: impl.ErrFull, Value: 2}, {Code: impl.ErrFull, Value: 6}} {
		if counts[want] < 5 {
			t.Errorf("the kind %d had the code %d %d times", want.Value, want.Code, counts[want])
		}
	}
}

func TestSameReplies(t *testing.T) {
	lists := [][]impl.Reply{
		nil, {{}}, {{}, {}}, {{Code: 1}}, {{Value: 1}}, {{Code: 1, Value: 1}}, {{Code: 1}, {Value: 1}}, {{Value: 1}, {Code: 1}},
		{{Value: 1}, {Value: 1}}, {{Value: 1}, {}}, {{}, {Value: 1}}, {{Code: math.MinInt64, Value: math.MaxInt64}}, {{Code: math.MaxInt64, Value: math.MinInt64}},
		slices.Repeat([]impl.Reply{{Value: 7}}, 301),
	}
	for i, a := range lists {
		for k, b := range lists {
			if got := impl.SameReplies(a, slices.Clone(b)); got != (i == k) {
				t.Errorf("SameReplies of %v and %v is %v", a, b, got)
			}
		}
	}
	if !impl.SameReplies(nil, []impl.Reply{}) || !impl.SameReplies([]impl.Reply{}, nil) {
		t.Error("an empty list and nil are not the same")
	}
}

// awkwardMachines are such as have faults, and such as have none.
func awkwardMachines() []impl.Machine {
	list := append(turnedMachines(), richMachine(), workMachine(), tidyWork())
	for _, c := range machineCases() {
		list = append(list, c.machine())
	}
	for _, f := range fewFaults() {
		m := richMachine()
		f.make(&m)
		list = append(list, m)
	}
	return list
}

// awkwardOps are of the tenant of m, but for the last one.
func awkwardOps(m impl.Machine) []impl.Op {
	list := []impl.Op{{Tenant: m.Tenant}, {Tenant: m.Tenant, Kind: 12, Index: -5}}
	opsOf(m, []int64{0, 2}, []int64{0, 3}, func(o impl.Op) { list = append(list, o) })
	return append(list, impl.Op{Tenant: m.Tenant ^ 1, Kind: impl.OpUsed})
}

func TestOpsAnswerAlikeAndChangeNoArgument(t *testing.T) {
	for _, m := range awkwardMachines() {
		before, ops := copiedMachine(m), awkwardOps(m)
		for _, o := range ops {
			first, second := impl.DoMachine(m, o), impl.DoMachine(m, o)
			if !equalSteps(first, second) || impl.OpFault(o) != impl.OpFault(o) {
				t.Errorf("%+v of %+v answers %+v and then %+v", o, m, first, second)
			}
			if !equalMachines(m, before) {
				t.Fatalf("%+v turned %+v into %+v", o, before, m)
			}
		}
		for n := range 4 {
			list := ops[n*(len(ops)-1)/4 : len(ops)-1]
			list = slices.Clone(list[:min(len(list), 300)])
			kept := slices.Clone(list)
			first, second := impl.RunMachine(m, list), impl.RunMachine(m, list)
			if !equalRuns(first, second) || !impl.SameReplies(first.Replies, second.Replies) {
				t.Errorf("%+v of %+v answer %+v and then %+v", list, m, first, second)
			}
			if !equalMachines(m, before) || !slices.Equal(list, kept) {
				t.Fatalf("%+v of %+v were turned into %+v and %+v", kept, before, list, m)
			}
		}
	}
}

// spoilRun writes on all that is answered, and behind it.
func spoilRun(r impl.RepliesResult) {
	replies := r.Replies[:cap(r.Replies)]
	for i := range replies {
		replies[i] = impl.Reply{Code: 55, Value: 55}
	}
	spoilMachine(r.Machine)
}

func TestAnswersOfOpsShareNoMemory(t *testing.T) {
	for _, m := range awkwardMachines() {
		m = roomy(m)
		before, ops := behindLists(m), awkwardOps(m)
		for _, o := range ops {
			first, second := impl.DoMachine(m, o), impl.DoMachine(m, o)
			want := impl.StepResult{Code: second.Code, Machine: copiedMachine(second.Machine), Reply: second.Reply}
			spoilMachine(first.Machine)
			if !equalSteps(second, want) || !equalMachines(behindLists(m), before) {
				t.Errorf("what was done to an answer of %+v is seen in another or in the argument %+v", o, m)
			}
		}
		for _, n := range []int{0, 1, min(len(ops)-1, 300)} {
			list := slices.Grow(slices.Clone(ops[:n]), 20)
			first, second := impl.RunMachine(m, list), impl.RunMachine(m, list)
			want := impl.RepliesResult{Code: second.Code, Machine: copiedMachine(second.Machine), Replies: slices.Clone(second.Replies)}
			spoilRun(first)
			if !equalRuns(second, want) || !equalMachines(behindLists(m), before) || !slices.Equal(list, ops[:n]) {
				t.Errorf("what was done to an answer of %d ops is seen in another or in the argument %+v", n, m)
			}
		}
	}
}

// TestListsOfAMachineBehindAnOpShareNoMemory writes on one list of an answer after the other, and behind it.
func TestListsOfAMachineBehindAnOpShareNoMemory(t *testing.T) {
	for _, c := range workCases() {
		got, want := impl.DoMachine(workMachine(), c.op).Machine, copiedMachine(c.after)
		for n := range got.Nodes {
			fill(got.Nodes[n].Fields)
			for i := range want.Nodes[n].Fields {
				want.Nodes[n].Fields[i] = 55
			}
			if !equalMachines(got, want) {
				t.Fatalf("%s: what was done to the fields of the node %d is seen in others: %+v", c.name, n, got)
			}
		}
	}
}
