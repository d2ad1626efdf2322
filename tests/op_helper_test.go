package tests

import (
	"fmt"
	"slices"
	"strings"
	"testing"

	"loop.example/g00723/impl"
)

// workMachine is of the tenant 1 and holds 8 words: the node 3 leads to the node 5, and has a
// pointer that is 0 and a plain field; the node 6 is garbage. The slots 1 and 3 are free.
func workMachine() impl.Machine {
	return impl.Machine{
		Tenant: 1, Quota: 30, Hash: 7,
		Slots: []impl.Slot{{Gen: 2, Node: 3}, {Gen: 1}, {Gen: 4, Node: 5}, {}},
		Nodes: []impl.GraphNode{vertex(3, 3, 4, 5, 0, 9), vertex(5, 0, 2, -8), vertex(6, 1, 5, 3)},
	}
}

// The handles of workMachine, told as numbers: 1 + 4 * (Slot + 8 * Gen).
const (
	handleOf3 = 65
	handleOf5 = 137
)

// tidyWork is what is tidy of workMachine.
func tidyWork() impl.Machine {
	return impl.Machine{
		Tenant: 1, Quota: 30, Hash: 7,
		Slots: []impl.Slot{{Gen: 2, Node: 1}, {Gen: 1}, {Gen: 4, Node: 2}, {}},
		Nodes: []impl.GraphNode{vertex(1, 3, 4, 2, 0, 9), vertex(2, 0, 2, -8)},
	}
}

// turned is a machine in which something was changed.
func turned(m impl.Machine, change func(m *impl.Machine)) impl.Machine {
	m = copiedMachine(m)
	change(&m)
	return m
}

// wantStep asks for the reply and the machine; where the reply has a code, for nothing beside it.
func wantStep(t *testing.T, what string, m impl.Machine, o impl.Op, reply impl.Reply, after impl.Machine) {
	t.Helper()
	got := impl.DoMachine(m, o)
	if got.Code != impl.OK || got.Reply != reply || !equalMachines(got.Machine, after) {
		t.Errorf("%s: %+v of %+v: got %+v, want %+v and %+v", what, o, m, got, reply, after)
	}
}

func wantNoStep(t *testing.T, what string, got impl.StepResult, code int64) {
	t.Helper()
	if got.Code != code || got.Reply != (impl.Reply{}) || !equalMachines(got.Machine, impl.Machine{}) {
		t.Errorf("%s: got %+v, want the code %d and nothing beside it", what, got, code)
	}
}

func wantNoRun(t *testing.T, what string, got impl.RepliesResult, code int64) {
	t.Helper()
	if got.Code != code || len(got.Replies) != 0 || !equalMachines(got.Machine, impl.Machine{}) {
		t.Errorf("%s: got %+v, want the code %d and nothing beside it", what, got, code)
	}
}

func wantRun(t *testing.T, what string, got impl.RepliesResult, replies []impl.Reply, after impl.Machine) {
	t.Helper()
	if got.Code != impl.OK || !slices.Equal(got.Replies, replies) || !equalMachines(got.Machine, after) {
		t.Errorf("%s: got %+v, want %+v and %+v", what, got, replies, after)
	}
}

// needed tells by letters what an op of each kind, from 1 on, needs: its Handle, To, Index, Value.
var needed = []string{1: "IV", 2: "H", 3: "H", 4: "HI", 5: "HIV", 6: "HI", 7: "HTI", 8: "HT", 9: "H", 10: "H", 11: ""}

// numberOf points at the number of an op of which a letter tells.
func numberOf(o *impl.Op, letter rune) *int64 {
	return map[rune]*int64{'H': &o.Handle, 'T': &o.To, 'I': &o.Index, 'V': &o.Value}[letter]
}

func isNeeded(kind int64, letter rune) bool {
	return strings.ContainsRune(needed[kind], letter)
}

func isFrom(n, least, greatest int64) bool {
	return n >= least && n <= greatest
}

func modelOpFault(o impl.Op) int64 {
	if !isFrom(o.Kind, 1, 11) {
		return impl.ErrForm
	}
	if o.Handle != 0 && !isNeeded(o.Kind, 'H') || o.To != 0 && !isNeeded(o.Kind, 'T') ||
		o.Index != 0 && !isNeeded(o.Kind, 'I') || o.Value != 0 && !isNeeded(o.Kind, 'V') {
		return impl.ErrForm
	}
	if o.Kind > 1 {
		if !isFrom(o.Index, 0, 11) || !isFrom(o.Value, -1000000000, 1000000000) {
			return impl.ErrRange
		}
		return 0
	}
	masks := []int64{1, 2, 4, 8, 16, 32, 64, 128, 256, 512, 1024, 2048, 4096}
	if !isFrom(o.Index, 0, 12) || !isFrom(o.Value, 0, masks[o.Index]-1) {
		return impl.ErrRange
	}
	return 0
}

// modelSlot holds the word of each slot's handle against a word; -1 is none.
func modelSlot(m impl.Machine, w int64) int {
	for i, s := range m.Slots {
		if s.Node != 0 && word(m.Tenant, int64(i), s.Gen) == w {
			return i
		}
	}
	return -1
}

// modelRoom is the first slot that can be given; -1 is none.
func modelRoom(m impl.Machine) int {
	for i, s := range m.Slots {
		if s.Node == 0 && s.Gen != 99 {
			return i
		}
	}
	return -1
}

func modelUsed(m impl.Machine) int64 {
	used := int64(0)
	for _, id := range modelReachOf(m) {
		used += 2 + nodeOf(m.Nodes, id).Size
	}
	return used
}

func modelGive(m *impl.Machine, id int64) impl.Reply {
	i := modelRoom(*m)
	if i < 0 {
		return impl.Reply{Code: impl.ErrFull}
	}
	m.Slots[i] = impl.Slot{Gen: m.Slots[i].Gen + 1, Node: id}
	return impl.Reply{Value: word(m.Tenant, int64(i), m.Slots[i].Gen)}
}

// newModelId is the Id of a new node until the model is tidy; no other node has it.
const newModelId = 123456

func modelNew(m *impl.Machine, o impl.Op) impl.Reply {
	if modelRoom(*m) < 0 {
		return impl.Reply{Code: impl.ErrFull}
	}
	if modelUsed(*m)+2+o.Index > m.Quota || m.Hash == 99999 {
		return impl.Reply{Code: impl.ErrQuota}
	}
	m.Hash++
	m.Nodes = append(m.Nodes, vertex(newModelId, o.Value, m.Hash, make([]int64, o.Index)...))
	return modelGive(m, newModelId)
}

func modelField(m *impl.Machine, o impl.Op, n impl.GraphNode) impl.Reply {
	if o.Index >= n.Size {
		return impl.Reply{Code: impl.ErrRange}
	}
	wants := o.Kind == impl.OpLoad || o.Kind == impl.OpLink
	if isPointerField(impl.Head{Mask: n.Mask}, o.Index) != wants {
		return impl.Reply{Code: impl.ErrForm}
	}
	switch field := &n.Fields[o.Index]; o.Kind {
	case impl.OpGet:
		return impl.Reply{Value: *field}
	case impl.OpPut:
		*field = o.Value
	case impl.OpLoad:
		if *field != 0 {
			return modelGive(m, *field)
		}
	case impl.OpLink:
		to := modelSlot(*m, o.To)
		switch {
		case o.To == 0:
			*field = 0
		case to < 0:
			return impl.Reply{Code: impl.ErrHandle}
		default:
			*field = m.Slots[to].Node
		}
	}
	return impl.Reply{}
}

// modelReply may change the machine ahead of a code.
func modelReply(m *impl.Machine, o impl.Op) impl.Reply {
	if code := modelOpFault(o); code != 0 {
		return impl.Reply{Code: code}
	}
	if o.Kind == impl.OpNew {
		return modelNew(m, o)
	}
	if o.Kind == impl.OpUsed {
		return impl.Reply{Value: modelUsed(*m)}
	}
	slot := modelSlot(*m, o.Handle)
	if slot < 0 {
		return impl.Reply{Code: impl.ErrHandle}
	}
	n := nodeOf(m.Nodes, m.Slots[slot].Node)
	switch o.Kind {
	case impl.OpDup:
		return modelGive(m, n.Id)
	case impl.OpDrop:
		m.Slots[slot].Node = 0
		return impl.Reply{}
	case impl.OpSame:
		to := modelSlot(*m, o.To)
		if to < 0 {
			return impl.Reply{Code: impl.ErrHandle}
		}
		if m.Slots[to].Node == n.Id {
			return impl.Reply{Value: 1}
		}
		return impl.Reply{}
	case impl.OpHash:
		return impl.Reply{Value: n.Hash}
	case impl.OpSize:
		return impl.Reply{Value: n.Size}
	}
	return modelField(m, o, n)
}

// modelDo is asked of machines without a fault and of ops of their tenants. It does not use the
// program, and is tidy at the end alone.
func modelDo(m impl.Machine, o impl.Op) (impl.Reply, impl.Machine) {
	after := copiedMachine(m)
	reply := modelReply(&after, o)
	if reply.Code != 0 {
		after = m
	}
	return reply, modelTidy(after, modelReachOf(after))
}

// checkStep holds what an op does against the model, and against what is promised of all ops.
func checkStep(t *testing.T, what string, m impl.Machine, o impl.Op) (impl.Reply, impl.Machine) {
	t.Helper()
	reply, after := modelDo(m, o)
	wantStep(t, what, m, o, reply, after)
	got := impl.DoMachine(m, o)
	if code := impl.MachineFault(got.Machine); code != impl.OK {
		t.Errorf("%s: behind %+v of %+v: MachineFault is %d", what, o, m, code)
	}
	if got.Reply.Code != impl.OK && (got.Reply.Value != 0 || !holdsTheSame(m, got.Machine)) {
		t.Errorf("%s: %+v of %+v was refused, but: %+v", what, o, m, got)
	}
	if o.Force = !o.Force; !equalSteps(impl.DoMachine(m, o), got) {
		t.Errorf("%s: Force turns something of %+v of %+v", what, o, m)
	}
	return reply, after
}

func equalSteps(a, b impl.StepResult) bool {
	return a.Code == b.Code && a.Reply == b.Reply && equalMachines(a.Machine, b.Machine)
}

func equalRuns(a, b impl.RepliesResult) bool {
	return a.Code == b.Code && slices.Equal(a.Replies, b.Replies) && equalMachines(a.Machine, b.Machine)
}

// handlesOf are the words of all handles that lead to something, and of some that do not.
func handlesOf(m impl.Machine) []int64 {
	list := []int64{0, -1, word(m.Tenant, 0, 1), word(m.Tenant, 7, 99)}
	for i, s := range m.Slots {
		list = append(list, word(m.Tenant, int64(i), s.Gen))
	}
	slices.Sort(list)
	return slices.Compact(list)
}

// opsOf visits ops of all kinds with all of these handles, as their kinds need them.
func opsOf(m impl.Machine, indexes, values []int64, visit func(o impl.Op)) {
	numbers := func(kind int64, letter rune, list []int64) []int64 {
		if !isNeeded(kind, letter) {
			return []int64{0}
		}
		return list
	}
	for kind := int64(1); kind <= 11; kind++ {
		for _, h := range numbers(kind, 'H', handlesOf(m)) {
			for _, to := range numbers(kind, 'T', handlesOf(m)) {
				for _, i := range numbers(kind, 'I', indexes) {
					for _, v := range numbers(kind, 'V', values) {
						visit(impl.Op{Tenant: m.Tenant, Kind: kind, Handle: h, To: to, Index: i, Value: v})
					}
				}
			}
		}
	}
}

// stepCase has what an op replies, and what it makes of a machine, written by hand.
type stepCase struct {
	name  string
	op    impl.Op
	reply impl.Reply
	after impl.Machine
}

// workCases are ops of workMachine that have no code, of each kind.
func workCases() []stepCase {
	drop := func(slot int) func(m *impl.Machine) {
		return func(m *impl.Machine) { m.Slots[slot].Node = 0 }
	}
	put := func(node, field int, value int64) func(m *impl.Machine) {
		return func(m *impl.Machine) { m.Nodes[node].Fields[field] = value }
	}
	slot := func(i int, gen, node int64) func(m *impl.Machine) {
		return func(m *impl.Machine) { m.Slots[i] = impl.Slot{Gen: gen, Node: node} }
	}
	made := func(size, mask int64) impl.Machine {
		return turned(tidyWork(), func(m *impl.Machine) {
			m.Hash = 8
			m.Slots[1] = impl.Slot{Gen: 2, Node: 2}
			m.Slots[2].Node = 3
			m.Nodes = []impl.GraphNode{vertex(1, 3, 4, 3, 0, 9), vertex(2, mask, 8, make([]int64, size)...), vertex(3, 0, 2, -8)}
		})
	}
	onlyFive := turned(tidyWork(), func(m *impl.Machine) {
		m.Slots[0].Node, m.Slots[2].Node = 0, 1
		m.Nodes = []impl.GraphNode{vertex(1, 0, 2, -8)}
	})
	var list []stepCase
	add := func(kind, handle, to, index, value, reply int64, after impl.Machine) {
		o := impl.Op{Tenant: 1, Kind: kind, Handle: handle, To: to, Index: index, Value: value}
		list = append(list, stepCase{fmt.Sprintf("%+v", o), o, impl.Reply{Value: reply}, after})
	}
	same := tidyWork()
	add(impl.OpNew, 0, 0, 0, 0, 69, made(0, 0))
	add(impl.OpNew, 0, 0, 2, 2, 69, made(2, 2))
	add(impl.OpNew, 0, 0, 12, 4095, 69, made(12, 4095))
	add(impl.OpDup, handleOf3, 0, 0, 0, 69, turned(same, slot(1, 2, 1)))
	add(impl.OpDup, handleOf5, 0, 0, 0, 69, turned(same, slot(1, 2, 2)))
	add(impl.OpDrop, handleOf3, 0, 0, 0, 0, onlyFive)
	add(impl.OpDrop, handleOf5, 0, 0, 0, 0, turned(same, drop(2)))
	add(impl.OpGet, handleOf3, 0, 2, 0, 9, same)
	add(impl.OpGet, handleOf5, 0, 0, 0, -8, same)
	add(impl.OpPut, handleOf3, 0, 2, 77, 0, turned(same, put(0, 2, 77)))
	add(impl.OpPut, handleOf3, 0, 2, 0, 0, turned(same, put(0, 2, 0)))
	add(impl.OpPut, handleOf5, 0, 0, 1000000000, 0, turned(same, put(1, 0, 1000000000)))
	add(impl.OpPut, handleOf5, 0, 0, -1000000000, 0, turned(same, put(1, 0, -1000000000)))
	add(impl.OpLoad, handleOf3, 0, 0, 0, 69, turned(same, slot(1, 2, 2)))
	add(impl.OpLoad, handleOf3, 0, 1, 0, 0, same)
	add(impl.OpLink, handleOf3, handleOf5, 1, 0, 0, turned(same, put(0, 1, 2)))
	add(impl.OpLink, handleOf3, handleOf3, 1, 0, 0, turned(same, put(0, 1, 1)))
	add(impl.OpLink, handleOf3, handleOf3, 0, 0, 0, turned(same, put(0, 0, 1)))
	add(impl.OpLink, handleOf3, 0, 0, 0, 0, turned(same, put(0, 0, 0)))
	add(impl.OpLink, handleOf3, 0, 1, 0, 0, same)
	add(impl.OpSame, handleOf3, handleOf3, 0, 0, 1, same)
	add(impl.OpSame, handleOf3, handleOf5, 0, 0, 0, same)
	add(impl.OpSame, handleOf5, handleOf3, 0, 0, 0, same)
	add(impl.OpHash, handleOf3, 0, 0, 0, 4, same)
	add(impl.OpHash, handleOf5, 0, 0, 0, 2, same)
	add(impl.OpSize, handleOf3, 0, 0, 0, 3, same)
	add(impl.OpSize, handleOf5, 0, 0, 0, 1, same)
	add(impl.OpUsed, 0, 0, 0, 0, 8, same)
	return list
}

// refusal is an op of workMachine that is refused with this code.
type refusal struct {
	name string
	op   impl.Op
	code int64
}

// workRefusals have each code of each kind, and such ops in which two codes would be so.
func workRefusals() []refusal {
	var list []refusal
	add := func(name string, code, kind, handle, to, index, value int64) {
		list = append(list, refusal{name, impl.Op{Tenant: 1, Kind: kind, Handle: handle, To: to, Index: index, Value: value}, code})
	}
	add("no kind", impl.ErrForm, 0, 0, 0, 0, 0)
	add("the kind 12", impl.ErrForm, 12, 0, 0, 0, 0)
	add("the kind -1", impl.ErrForm, -1, handleOf3, 0, 0, 0)
	add("a Mask of 1 of the Size 0", impl.ErrRange, impl.OpNew, 0, 0, 0, 1)
	add("a Mask of 8 of the Size 3", impl.ErrRange, impl.OpNew, 0, 0, 3, 8)
	add("a Size of 13", impl.ErrRange, impl.OpNew, 0, 0, 13, 0)
	add("a Size of 13, and a Handle", impl.ErrForm, impl.OpNew, handleOf3, 0, 13, 0)
	add("more than the Quota, and a Mask that is none", impl.ErrRange, impl.OpNew, 0, 0, 12, 4096)
	for kind := int64(impl.OpDup); kind <= impl.OpSize; kind++ {
		what := fmt.Sprint("the kind ", kind, ", ")
		for _, h := range []int64{0, -1, handleOf3 - 1, handleOf3 - 32, handleOf3 + 32, handleOf5 - 4, 37, 69, 13, word(1, 4, 1), word(1, 7, 99), 1 << 40} {
			add(fmt.Sprint(what, "the handle ", h), impl.ErrHandle, kind, h, 0, 0, 0)
			if isNeeded(kind, 'I') {
				add(fmt.Sprint(what, "the handle ", h, " and an Index above each Size"), impl.ErrHandle, kind, h, 0, 11, 0)
				add(fmt.Sprint(what, "the handle ", h, " and an Index that is none"), impl.ErrRange, kind, h, 0, 12, 0)
			}
			if isNeeded(kind, 'T') {
				add(fmt.Sprint(what, "the handle ", h, " twice"), impl.ErrHandle, kind, h, h, 0, 0)
				add(fmt.Sprint(what, "the handle ", h, " and one that is right"), impl.ErrHandle, kind, h, handleOf3, 0, 0)
			}
		}
		for _, i := range []int64{3, 4, 11} {
			if isNeeded(kind, 'I') {
				add(what+"an Index that is not below the Size", impl.ErrRange, kind, handleOf3, 0, i, 0)
			}
		}
		if isNeeded(kind, 'I') {
			add(what+"an Index below 0", impl.ErrRange, kind, handleOf3, 0, -1, 0)
		}
	}
	for _, i := range []int64{0, 1} {
		add("OpGet of a pointer", impl.ErrForm, impl.OpGet, handleOf3, 0, i, 0)
		add("OpPut of a pointer", impl.ErrForm, impl.OpPut, handleOf3, 0, i, 0)
		add("OpPut of a pointer, and an Id", impl.ErrForm, impl.OpPut, handleOf3, 0, i, 3)
	}
	add("OpPut of no word", impl.ErrRange, impl.OpPut, handleOf3, 0, 2, 1000000001)
	add("OpPut of no word below 0", impl.ErrRange, impl.OpPut, handleOf3, 0, 2, -1000000001)
	add("OpPut of no word of a pointer", impl.ErrRange, impl.OpPut, handleOf3, 0, 0, 1000000001)
	add("OpPut of no word by no handle", impl.ErrRange, impl.OpPut, 5, 0, 2, 1000000001)
	add("OpLoad of no pointer", impl.ErrForm, impl.OpLoad, handleOf3, 0, 2, 0)
	add("OpLink of no pointer", impl.ErrForm, impl.OpLink, handleOf3, handleOf5, 2, 0)
	add("OpLink of no pointer to nothing", impl.ErrForm, impl.OpLink, handleOf3, 0, 2, 0)
	for _, to := range []int64{-1, 1, handleOf3 - 1, handleOf3 + 32, 37, 69, word(1, 7, 99)} {
		add(fmt.Sprint("OpLink to ", to), impl.ErrHandle, impl.OpLink, handleOf3, to, 0, 0)
		add(fmt.Sprint("OpLink of a pointer of 0 to ", to), impl.ErrHandle, impl.OpLink, handleOf3, to, 1, 0)
		add(fmt.Sprint("OpLink of no pointer to ", to), impl.ErrForm, impl.OpLink, handleOf3, to, 2, 0)
		add(fmt.Sprint("OpLink of no field to ", to), impl.ErrRange, impl.OpLink, handleOf3, to, 3, 0)
		add(fmt.Sprint("OpSame and ", to), impl.ErrHandle, impl.OpSame, handleOf3, to, 0, 0)
	}
	add("OpSame and 0", impl.ErrHandle, impl.OpSame, handleOf3, 0, 0, 0)
	return list
}
