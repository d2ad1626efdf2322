package tests

import (
	"fmt"
	"math"
	"math/rand/v2"
	"slices"
	"testing"

	"loop.example/g00723/impl"
)

// plan is a heap in which pointers and the At of slots are told as 1 more than the number of an
// object, or 0.
type plan struct {
	half    int64
	active  int64
	objects []impl.Object
	tenants []impl.HeapTenant
}

func (p plan) heap() impl.Heap {
	list := linked(p.active*p.half, p.objects...)
	h := impl.Heap{Arena: laid(p.half, p.active, list...), Tenants: p.copied().tenants}
	for _, t := range h.Tenants {
		for i, s := range t.Slots {
			if s.At != 0 {
				t.Slots[i].At = list[s.At-1].At + 1
			}
		}
	}
	return h
}

func (p plan) copied() plan {
	p.objects, p.tenants = slices.Clone(p.objects), slices.Clone(p.tenants)
	for i, o := range p.objects {
		p.objects[i].Fields = slices.Clone(o.Fields)
	}
	for i, t := range p.tenants {
		p.tenants[i].Slots = slices.Clone(t.Slots)
	}
	return p
}

func (p plan) with(change func(p *plan)) plan {
	p = p.copied()
	change(&p)
	return p
}

// collected has the objects of these numbers alone, in this order, in the other half.
func (p plan) collected(order ...int) plan {
	return p.with(func(p *plan) {
		p.active = 1 - p.active
		p.objects = chosen(p.objects, order)
		for _, t := range p.tenants {
			for i, s := range t.Slots {
				if s.At != 0 {
					t.Slots[i].At = int64(slices.Index(order, int(s.At-1))) + 1
				}
			}
		}
	})
}

// number is 1 more than the number of the first object of this owner and Hash.
func (p plan) number(owner, hash int64) int64 {
	return 1 + int64(slices.IndexFunc(p.objects, func(o impl.Object) bool { return o.Head.Owner == owner && o.Head.Hash == hash }))
}

// field points at a field of the first object of this owner and Hash.
func (p plan) field(owner, hash, i int64) *int64 {
	return &p.objects[p.number(owner, hash)-1].Fields[i]
}

// workPlan takes 24 words, of which the tenants hold 8, 8 and 3. The object 0 leads to the object
// 1 and to itself; the objects 2 and 3 to each other; the object 5, garbage as the object 4 is, to
// the object 0. The objects 2 and 3 are held by slots and by pointers, the object 2 by two slots.
func workPlan(half, active int64, quotas ...int64) plan {
	return plan{half, active, []impl.Object{
		made(0, 5, 3, 2, 44, 1),
		made(0, 0, 4, -7),
		made(1, 1, 1, 4, 9),
		made(1, 2, 2, 8, 3),
		made(1, 0, 13),
		made(0, 1, 5, 1),
		made(2, 0, 9, 70),
	}, []impl.HeapTenant{
		{Quota: quotas[0], Hash: 5, Slots: []impl.HeapSlot{{Gen: 2, At: 1}, {Gen: 1}, {Gen: 99}}},
		{Quota: quotas[1], Hash: 3, Slots: []impl.HeapSlot{{Gen: 1, At: 3}, {Gen: 4, At: 3}, {}, {Gen: 7, At: 4}}},
		{Quota: quotas[2], Hash: 9, Slots: []impl.HeapSlot{{Gen: 99, At: 7}, {}}},
	}}
}

// collectedWork is workPlan behind a collection, which moves 19 words.
func collectedWork(p plan) plan {
	return p.collected(0, 2, 3, 6, 1)
}

const workMoved = 19

// roomyWork has room for each new object that the quotas allow. They fill the half.
func roomyWork(active int64) plan {
	return workPlan(30, active, 12, 10, 8)
}

// The handles of workPlan, told as numbers: Tenant + 4 * (Slot + 8 * Gen).
const (
	ownOf0   = 64
	firstOf1 = 33
	otherOf1 = 133
	thirdOf1 = 237
	ownOf2   = 3170
)

// copiedHeap does not use the program, so that a test can hold an argument against what it was.
func copiedHeap(h impl.Heap) impl.Heap {
	h.Arena, h.Tenants = copied(h.Arena), slices.Clone(h.Tenants)
	for i, t := range h.Tenants {
		h.Tenants[i].Slots = slices.Clone(t.Slots)
	}
	return h
}

func equalTenants(a, b impl.HeapTenant) bool {
	return a.Quota == b.Quota && a.Hash == b.Hash && slices.Equal(a.Slots, b.Slots)
}

func equalHeaps(a, b impl.Heap) bool {
	return equalArenas(a.Arena, b.Arena) && slices.EqualFunc(a.Tenants, b.Tenants, equalTenants)
}

func equalHeapResults(a, b impl.HeapResult) bool {
	return a.Code == b.Code && equalHeaps(a.Heap, b.Heap) && slices.Equal(a.Replies, b.Replies) && slices.Equal(a.Collected, b.Collected)
}

func equalProducts(a, b impl.AllRepliesResult) bool {
	return a.Code == b.Code && slices.Equal(a.Replies, b.Replies) && slices.EqualFunc(a.Machines, b.Machines, equalMachines)
}

// wantHeap asks for a heap, for these replies and for these collections, and for no code.
func wantHeap(t *testing.T, what string, got impl.HeapResult, h impl.Heap, replies []impl.Reply, collected ...int64) {
	t.Helper()
	if want := (impl.HeapResult{Heap: h, Replies: replies, Collected: collected}); !equalHeapResults(got, want) {
		t.Errorf("%s: got %+v, want %+v", what, got, want)
	}
}

// wantNoHeap asks that all beside the code is zero.
func wantNoHeap(t *testing.T, what string, got impl.HeapResult, code int64) {
	t.Helper()
	if !equalHeapResults(got, impl.HeapResult{Code: code}) {
		t.Errorf("%s: got %+v, want the code %d and nothing beside it", what, got, code)
	}
}

// wantProduct asks for these replies and machines, and for no code.
func wantProduct(t *testing.T, what string, got impl.AllRepliesResult, replies []impl.Reply, machines ...impl.Machine) {
	t.Helper()
	if want := (impl.AllRepliesResult{Replies: replies, Machines: machines}); !equalProducts(got, want) {
		t.Errorf("%s: got %+v, want %+v", what, got, want)
	}
}

func wantNoProduct(t *testing.T, what string, got impl.AllRepliesResult, code int64) {
	t.Helper()
	if !equalProducts(got, impl.AllRepliesResult{Code: code}) {
		t.Errorf("%s: got %+v, want the code %d and nothing beside it", what, got, code)
	}
}

// wantHeapFault asks that HeapFault and each function that asks it has this code, and nothing
// beside it.
func wantHeapFault(t *testing.T, what string, h impl.Heap, code int64) {
	t.Helper()
	if got := impl.HeapFault(h); got != code {
		t.Errorf("%s: HeapFault is %d, want %d, of %+v", what, got, code, h)
		return
	}
	if impl.IsIsolated(h) != (code == impl.OK) {
		t.Errorf("%s: HeapFault is %d, and IsIsolated %v, of %+v", what, code, impl.IsIsolated(h), h)
	}
	if code == impl.OK {
		return
	}
	wantWords(t, what+": HeldBy", impl.HeldBy(h), code)
	for _, tenant := range []int64{0, 2, 4, 9, -1} {
		wantWord(t, fmt.Sprint(what, ": SpaceFor ", tenant), impl.SpaceFor(h, tenant), code, 0)
		wantInts(t, fmt.Sprint(what, ": HandlesOf ", tenant), impl.HandlesOf(h, tenant), code)
	}
	wantInts(t, what+": RootsOf", impl.RootsOf(h), code)
	wantNoHeap(t, what+": CollectHeap", impl.CollectHeap(h), code)
	for _, tenant := range []int64{0, 2, 9, -1} {
		wantNoMachine(t, fmt.Sprint(what, ": AbstractOf ", tenant), impl.AbstractOf(h, tenant), code)
	}
	for _, o := range []impl.Op{{}, {Tenant: 9}, {Kind: impl.OpUsed}, {Kind: impl.OpNew, Force: true}, {Tenant: -1, Kind: 12, Force: true}} {
		wantNoHeap(t, fmt.Sprintf("%s: DoHeap of %+v", what, o), impl.DoHeap(h, o), code)
	}
}

// wantConfigFault asks that ConfigFault and each function that asks it has this code, and nothing
// beside it.
func wantConfigFault(t *testing.T, what string, c impl.Config, code int64) {
	t.Helper()
	if got := impl.ConfigFault(c); got != code {
		t.Errorf("%s: ConfigFault is %d, want %d, of %+v", what, got, code, c)
		return
	}
	if code == impl.OK {
		return
	}
	wantNoHeap(t, what+": NewHeap", impl.NewHeap(c), code)
	for _, list := range [][]impl.Op{nil, {{Kind: impl.OpUsed}}, {{Tenant: 9, Force: true}}, make([]impl.Op, 301)} {
		wantNoHeap(t, fmt.Sprint(what, ": RunHeap of ", len(list), " ops"), impl.RunHeap(c, list), code)
		wantNoProduct(t, fmt.Sprint(what, ": RunProduct of ", len(list), " ops"), impl.RunProduct(c, list), code)
		if impl.IsFaithful(c, list) {
			t.Errorf("%s: IsFaithful of %d ops of %+v", what, len(list), c)
		}
		wantNoHeld(t, fmt.Sprint(what, ": ", len(list), " ops"), c, list, code)
		for _, tenant := range []int64{0, 2, 9, -1} {
			wantNoAccount(t, fmt.Sprint(what, ": ", len(list), " ops"), c, list, tenant, code)
			wantNoViews(t, fmt.Sprint(what, ": ", len(list), " ops"), c, list, tenant, code)
			wantBlind(t, fmt.Sprint(what, ": ", len(list), " ops"), c, list, nil, tenant)
		}
	}
}

// heapCase is an op of workPlan that has no code, written by hand.
type heapCase struct {
	op     impl.Op
	reply  int64
	change func(p *plan)
}

// heapCases are ops of each kind by several tenants.
func heapCases() []heapCase {
	var list []heapCase
	add := func(tenant, kind, handle, to, index, value, reply int64, change func(p *plan)) {
		o := impl.Op{Tenant: tenant, Kind: kind, Handle: handle, To: to, Index: index, Value: value}
		list = append(list, heapCase{o, reply, change})
	}
	same := func(*plan) {}
	slot := func(tenant, i int, gen, hash int64) func(p *plan) {
		return func(p *plan) {
			p.tenants[tenant].Slots[i] = impl.HeapSlot{Gen: gen, At: p.number(int64(tenant), hash)}
		}
	}
	free := func(tenant, i int) func(p *plan) {
		return func(p *plan) { p.tenants[tenant].Slots[i].At = 0 }
	}
	put := func(owner, hash, i, value int64) func(p *plan) {
		return func(p *plan) { *p.field(owner, hash, i) = value }
	}
	link := func(owner, hash, i, to int64) func(p *plan) {
		return func(p *plan) { *p.field(owner, hash, i) = p.number(owner, to) }
	}
	behind := func(tenant, i int, gen int64, o impl.Object) func(p *plan) {
		return func(p *plan) {
			p.objects = append(p.objects, o)
			p.tenants[tenant].Hash++
			p.tenants[tenant].Slots[i] = impl.HeapSlot{Gen: gen, At: int64(len(p.objects))}
		}
	}
	add(0, impl.OpNew, 0, 0, 2, 2, word(0, 1, 2), behind(0, 1, 2, made(0, 2, 6, 0, 0)))
	add(1, impl.OpNew, 0, 0, 0, 0, word(1, 2, 1), behind(1, 2, 1, made(1, 0, 4)))
	add(2, impl.OpNew, 0, 0, 3, 7, word(2, 1, 1), behind(2, 1, 1, made(2, 7, 10, 0, 0, 0)))
	add(0, impl.OpDup, ownOf0, 0, 0, 0, word(0, 1, 2), slot(0, 1, 2, 3))
	add(1, impl.OpDup, otherOf1, 0, 0, 0, word(1, 2, 1), slot(1, 2, 1, 1))
	add(1, impl.OpDup, thirdOf1, 0, 0, 0, word(1, 2, 1), slot(1, 2, 1, 2))
	add(2, impl.OpDup, ownOf2, 0, 0, 0, word(2, 1, 1), slot(2, 1, 1, 9))
	add(0, impl.OpDrop, ownOf0, 0, 0, 0, 0, free(0, 0))
	add(1, impl.OpDrop, firstOf1, 0, 0, 0, 0, free(1, 0))
	add(1, impl.OpDrop, thirdOf1, 0, 0, 0, 0, free(1, 3))
	add(2, impl.OpDrop, ownOf2, 0, 0, 0, 0, free(2, 0))
	add(0, impl.OpGet, ownOf0, 0, 1, 0, 44, same)
	add(1, impl.OpGet, otherOf1, 0, 1, 0, 9, same)
	add(1, impl.OpGet, thirdOf1, 0, 0, 0, 8, same)
	add(2, impl.OpGet, ownOf2, 0, 0, 0, 70, same)
	add(0, impl.OpPut, ownOf0, 0, 1, -5, 0, put(0, 3, 1, -5))
	add(1, impl.OpPut, firstOf1, 0, 1, 1000000000, 0, put(1, 1, 1, 1000000000))
	add(2, impl.OpPut, ownOf2, 0, 0, 0, 0, put(2, 9, 0, 0))
	add(0, impl.OpLoad, ownOf0, 0, 0, 0, word(0, 1, 2), slot(0, 1, 2, 4))
	add(0, impl.OpLoad, ownOf0, 0, 2, 0, word(0, 1, 2), slot(0, 1, 2, 3))
	add(1, impl.OpLoad, firstOf1, 0, 0, 0, word(1, 2, 1), slot(1, 2, 1, 2))
	add(1, impl.OpLoad, thirdOf1, 0, 1, 0, word(1, 2, 1), slot(1, 2, 1, 1))
	add(0, impl.OpLink, ownOf0, ownOf0, 0, 0, 0, link(0, 3, 0, 3))
	add(0, impl.OpLink, ownOf0, 0, 0, 0, 0, put(0, 3, 0, 0))
	add(0, impl.OpLink, ownOf0, 0, 2, 0, 0, put(0, 3, 2, 0))
	add(1, impl.OpLink, firstOf1, otherOf1, 0, 0, 0, link(1, 1, 0, 1))
	add(1, impl.OpLink, thirdOf1, thirdOf1, 1, 0, 0, link(1, 2, 1, 2))
	add(1, impl.OpLink, thirdOf1, firstOf1, 1, 0, 0, same)
	add(0, impl.OpSame, ownOf0, ownOf0, 0, 0, 1, same)
	add(1, impl.OpSame, firstOf1, otherOf1, 0, 0, 1, same)
	add(1, impl.OpSame, firstOf1, thirdOf1, 0, 0, 0, same)
	add(0, impl.OpHash, ownOf0, 0, 0, 0, 3, same)
	add(1, impl.OpHash, thirdOf1, 0, 0, 0, 2, same)
	add(2, impl.OpHash, ownOf2, 0, 0, 0, 9, same)
	add(0, impl.OpSize, ownOf0, 0, 0, 0, 3, same)
	add(1, impl.OpSize, otherOf1, 0, 0, 0, 2, same)
	add(2, impl.OpSize, ownOf2, 0, 0, 0, 1, same)
	add(0, impl.OpUsed, 0, 0, 0, 0, 8, same)
	add(1, impl.OpUsed, 0, 0, 0, 0, 8, same)
	add(2, impl.OpUsed, 0, 0, 0, 0, 3, same)
	return list
}

// heapRefusals are ops of workPlan with the quotas 12, 10 and 8, or lower ones, that are refused.
func heapRefusals() []refusal {
	var list []refusal
	add := func(code, tenant, kind, handle, to, index, value int64) {
		o := impl.Op{Tenant: tenant, Kind: kind, Handle: handle, To: to, Index: index, Value: value}
		list = append(list, refusal{fmt.Sprintf("%+v", o), o, code})
	}
	for _, tenant := range []int64{3, 4, -1, 256, 1 << 32, math.MaxInt64, math.MinInt64} {
		add(impl.ErrNone, tenant, impl.OpUsed, 0, 0, 0, 0)
		add(impl.ErrNone, tenant, impl.OpNew, 0, 0, 1, 0)
		add(impl.ErrNone, tenant, impl.OpNew, 0, 0, 13, 0)
		add(impl.ErrNone, tenant, impl.OpDrop, ownOf0, 0, 0, 0)
		add(impl.ErrNone, tenant, 0, 0, 0, 0, 0)
		add(impl.ErrNone, tenant, 12, 1, 1, 1, 1)
	}
	owns := [][]int64{{ownOf0}, {firstOf1, otherOf1, thirdOf1}, {ownOf2}}
	for tenant := range int64(3) {
		add(impl.ErrForm, tenant, 0, 0, 0, 0, 0)
		add(impl.ErrForm, tenant, 12, 0, 0, 0, 0)
		add(impl.ErrForm, tenant, impl.OpUsed, 0, 0, 0, 1)
		add(impl.ErrForm, tenant, impl.OpNew, 0, 1, 2, 0)
		add(impl.ErrRange, tenant, impl.OpNew, 0, 0, 13, 0)
		add(impl.ErrRange, tenant, impl.OpNew, 0, 0, 2, 4)
		add(impl.ErrQuota, tenant, impl.OpNew, 0, 0, 5, 0)
		add(impl.ErrQuota, tenant, impl.OpNew, 0, 0, 12, 4095)
		own := owns[tenant][0]
		for kind := int64(impl.OpDup); kind <= impl.OpSize; kind++ {
			// Handles of others, of places, of free slots, of another Gen, and of a slot that there is not.
			for other, handles := range owns {
				for _, h := range handles {
					if int64(other) != tenant {
						add(impl.ErrHandle, tenant, kind, h, 0, 0, 0)
					}
				}
			}
			for _, h := range []int64{0, 1, 5, 31, -own, own - 32, own + 32, word(0, 1, 1), word(0, 2, 99), word(tenant, 5, 1), math.MaxInt64} {
				add(impl.ErrHandle, tenant, kind, h, 0, 0, 0)
			}
		}
		for _, to := range []int64{owns[(tenant+1)%3][0], word(tenant, 5, 1), own + 32, -1} {
			add(impl.ErrHandle, tenant, impl.OpSame, own, to, 0, 0)
		}
		add(impl.ErrHandle, tenant, impl.OpSame, own, 0, 0, 0)
		add(impl.ErrRange, tenant, impl.OpGet, own, 0, 3, 0)
		add(impl.ErrRange, tenant, impl.OpGet, own, 0, 12, 0)
		add(impl.ErrRange, tenant, impl.OpPut, own, 0, 0, 1000000001)
		add(impl.ErrRange, tenant, impl.OpLoad, own, 0, 11, 0)
		add(impl.ErrRange, tenant, impl.OpLink, own, own, 4, 0)
	}
	add(impl.ErrQuota, 0, impl.OpNew, 0, 0, 3, 0)
	add(impl.ErrQuota, 1, impl.OpNew, 0, 0, 1, 1)
	add(impl.ErrQuota, 2, impl.OpNew, 0, 0, 4, 0)
	add(impl.ErrForm, 0, impl.OpGet, ownOf0, 0, 0, 0)
	add(impl.ErrForm, 0, impl.OpPut, ownOf0, 0, 2, 1)
	add(impl.ErrForm, 0, impl.OpLoad, ownOf0, 0, 1, 0)
	add(impl.ErrForm, 0, impl.OpLink, ownOf0, ownOf0, 1, 0)
	add(impl.ErrForm, 1, impl.OpGet, firstOf1, 0, 0, 0)
	add(impl.ErrForm, 2, impl.OpLoad, ownOf2, 0, 0, 0)
	add(impl.ErrHandle, 0, impl.OpLink, ownOf0, firstOf1, 0, 0)
	add(impl.ErrHandle, 0, impl.OpLink, ownOf0, word(0, 1, 1), 0, 0)
	add(impl.ErrHandle, 1, impl.OpLink, firstOf1, ownOf0, 0, 0)
	add(impl.ErrHandle, 1, impl.OpLink, thirdOf1, ownOf2, 1, 0)
	return list
}

// modelObjects reads what is taken of an arena without a fault.
func modelObjects(a impl.Arena) []impl.Object {
	var list []impl.Object
	for at := a.Active * a.Half; at < a.Active*a.Half+a.Bump; {
		first := (a.Words[at] - 1) / 2
		h := impl.Head{Size: first % 16, Mask: first / 16 % 4096, Owner: first / 16 / 4096, Hash: a.Words[at+1]}
		list = append(list, impl.Object{At: at, Head: h, Fields: slices.Clone(a.Words[at+2 : at+2+h.Size])})
		at += 2 + h.Size
	}
	return list
}

func modelRoots(h impl.Heap, tenants ...int) []int64 {
	var roots []int64
	for _, n := range tenants {
		for _, s := range h.Tenants[n].Slots {
			if s.At != 0 {
				roots = append(roots, s.At-1)
			}
		}
	}
	return roots
}

// modelCollected is the heap behind a collection.
func modelCollected(h impl.Heap) impl.Heap {
	objects := modelObjects(h.Arena)
	order := modelReach(objects, modelRoots(h, numbersTo(len(h.Tenants))...))
	went := map[int64]int64{}
	next := (1 - h.Arena.Active) * h.Arena.Half
	for _, at := range order {
		went[at+1] = next + 1
		next += 2 + int64(len(objectOf(objects, at).Fields))
	}
	var list []impl.Object
	for _, at := range order {
		o := objectOf(objects, at)
		for i, word := range o.Fields {
			if isPointerField(o.Head, int64(i)) {
				o.Fields[i] = went[word]
			}
		}
		list = append(list, o)
	}
	after := copiedHeap(h)
	after.Arena = laid(h.Arena.Half, 1-h.Arena.Active, list...)
	for _, t := range after.Tenants {
		for i, s := range t.Slots {
			t.Slots[i].At = went[s.At]
		}
	}
	return after
}

// modelOwn is a tenant's own machine, in which an Id is 1 more than a place.
func modelOwn(h impl.Heap, tenant int) impl.Machine {
	t := h.Tenants[tenant]
	m := impl.Machine{Tenant: int64(tenant), Quota: t.Quota, Hash: t.Hash}
	for _, s := range t.Slots {
		m.Slots = append(m.Slots, impl.Slot{Gen: s.Gen, Node: s.At})
	}
	objects := modelObjects(h.Arena)
	held := modelReach(objects, modelRoots(h, tenant))
	slices.Sort(held)
	for _, at := range held {
		o := objectOf(objects, at)
		m.Nodes = append(m.Nodes, vertex(at+1, o.Head.Mask, o.Head.Hash, o.Fields...))
	}
	return m
}

// modelWrite lays what a tenant's own machine has into the heap, which has room for a new one.
func modelWrite(h *impl.Heap, m impl.Machine) {
	a, t := &h.Arena, &h.Tenants[m.Tenant]
	for i, s := range m.Slots {
		t.Slots[i] = impl.HeapSlot{Gen: s.Gen, At: s.Node}
	}
	t.Hash = m.Hash
	for _, n := range m.Nodes {
		at := n.Id - 1
		if n.Id == newModelId {
			at = a.Active*a.Half + a.Bump
			a.Words[at], a.Words[at+1] = 1+2*(n.Size+16*(n.Mask+4096*m.Tenant)), n.Hash
			a.Bump += 2 + n.Size
			i := slices.IndexFunc(t.Slots, func(s impl.HeapSlot) bool { return s.At == newModelId })
			t.Slots[i].At = at + 1
		}
		copy(a.Words[at+2:], n.Fields)
	}
}

// modelHeapStep is asked of heaps without a fault. It does not use the program.
func modelHeapStep(h impl.Heap, o impl.Op) impl.HeapResult {
	end := impl.HeapResult{Heap: copiedHeap(h)}
	collect := func() {
		end.Heap = modelCollected(end.Heap)
		end.Collected = append(end.Collected, end.Heap.Arena.Bump)
	}
	if o.Force {
		collect()
	}
	if !isFrom(o.Tenant, 0, int64(len(h.Tenants))-1) {
		end.Replies = []impl.Reply{{Code: impl.ErrNone}}
		return end
	}
	m := modelOwn(end.Heap, int(o.Tenant))
	reply := modelReply(&m, o)
	end.Replies = []impl.Reply{reply}
	if reply.Code != 0 {
		return end
	}
	if a := end.Heap.Arena; o.Kind == impl.OpNew && a.Bump+2+o.Index > a.Half {
		collect()
		m = modelOwn(end.Heap, int(o.Tenant))
		modelReply(&m, o)
	}
	modelWrite(&end.Heap, m)
	return end
}

// wantRightHeap asks that there is no fault, and that nothing is where nothing is taken.
func wantRightHeap(t *testing.T, what string, h impl.Heap) {
	t.Helper()
	if code := impl.HeapFault(h); code != impl.OK {
		t.Errorf("%s: HeapFault is %d, of %+v", what, code, h)
	}
	for at, word := range h.Arena.Words {
		if word != 0 && !isTaken(h.Arena, int64(at)) {
			t.Errorf("%s: the word at %d is not taken, and %d", what, at, word)
		}
	}
}

// wantCollection asks what is promised of collections, and that it is what the model makes.
func wantCollection(t *testing.T, what string, h impl.Heap) {
	t.Helper()
	got, want := impl.CollectHeap(h), modelCollected(h)
	wantHeap(t, what, got, want, nil, want.Arena.Bump)
	if got.Code != impl.OK {
		return
	}
	wantRightHeap(t, what, got.Heap)
	held := int64(0)
	for n := range h.Tenants {
		before, after := modelOwn(h, n), modelOwn(got.Heap, n)
		if !holdsTheSame(before, after) {
			t.Errorf("%s: the tenant %d held %+v, and holds %+v", what, n, before, after)
		}
		held += modelUsed(before)
	}
	if held != got.Heap.Arena.Bump {
		t.Errorf("%s: %d words are held, and %d taken", what, held, got.Heap.Arena.Bump)
	}
}

// checkHeapStep holds what an op does against the model, and against what is promised of all ops.
func checkHeapStep(t *testing.T, what string, h impl.Heap, o impl.Op) impl.HeapResult {
	t.Helper()
	what = fmt.Sprintf("%s: %+v of %+v", what, o, h)
	got, want := impl.DoHeap(h, o), modelHeapStep(h, o)
	wantHeap(t, what, got, want.Heap, want.Replies, want.Collected...)
	if got.Code != impl.OK || len(got.Replies) != 1 || len(got.Heap.Tenants) != len(h.Tenants) {
		return want
	}
	wantRightHeap(t, what, got.Heap)
	for n := range h.Tenants {
		after := modelOwn(h, n)
		if int64(n) == o.Tenant {
			var reply impl.Reply
			if reply, after = modelDo(after, o); reply != got.Replies[0] {
				t.Errorf("%s: the tenant's own machine replies %+v, and the heap %+v", what, reply, got.Replies[0])
			}
		}
		if now := modelOwn(got.Heap, n); !holdsTheSame(now, after) {
			t.Errorf("%s: the tenant %d has %+v, want %+v", what, n, now, after)
		}
	}
	o.Force = !o.Force
	if other := impl.DoHeap(h, o); !slices.Equal(other.Replies, got.Replies) {
		t.Errorf("%s: the other way of Force it replies %+v", what, other.Replies)
	}
	return want
}

// manyHeld is a heap with garbage, and with slots that lead to any of a tenant's objects. It is for a
// half of 14 or more.
func manyHeld(r *rand.Rand, half int64) impl.Heap {
	active := r.Int64N(2)
	objects := manyObjects(r, active*half, half)
	// Some heaps have room left, and some have none.
	objects = objects[:len(objects)-r.IntN(1+len(objects)/2)]
	for _, o := range objects {
		for i, word := range o.Fields {
			if isPointerField(o.Head, int64(i)) && !mayPoint(objects, o.Head.Owner, word) {
				o.Fields[i] = 0
			}
		}
	}
	h := impl.Heap{Arena: laid(half, active, objects...)}
	left := half
	for n := range 3 + r.IntN(2) {
		h.Tenants = append(h.Tenants, impl.HeapTenant{Hash: r.Int64N(90000)})
		t := &h.Tenants[n]
		for range 1 + r.IntN(8) {
			s := impl.HeapSlot{Gen: 1 + r.Int64N(99)}
			if o := objects[r.IntN(len(objects))]; o.Head.Owner == int64(n) && r.IntN(4) > 0 {
				s.At = o.At + 1
			}
			t.Slots = append(t.Slots, s)
		}
		t.Quota = max(2, modelUsed(modelOwn(h, n)))
		left -= t.Quota
	}
	for n := range h.Tenants {
		if left > 0 {
			more := r.Int64N(left + 1)
			h.Tenants[n].Quota += more
			left -= more
		}
	}
	// Where the least quotas fill more than the half, some slots are free.
	for n := 0; left < 0; n++ {
		t := &h.Tenants[n]
		for i := range t.Slots {
			t.Slots[i].At = 0
		}
		left += t.Quota - 2
		t.Quota = 2
	}
	return h
}

// anyHeapOp is mostly one that can be done by one of the tenants; many of them make, drop or link
// objects, so that there is garbage.
func anyHeapOp(r *rand.Rand, h impl.Heap, force bool) impl.Op {
	m := modelOwn(h, r.IntN(len(h.Tenants)))
	o := anyOp(r, m)
	handles := handlesOf(m)
	pick := func() int64 { return handles[r.IntN(len(handles))] }
	switch r.IntN(40) {
	case 0:
		o.Tenant = strange[r.IntN(len(strange))]
	case 1:
		o.Tenant = r.Int64N(5)
	case 2, 3, 4, 5, 6, 7, 8:
		size := r.Int64N(6)
		o = impl.Op{Tenant: m.Tenant, Kind: impl.OpNew, Index: size, Value: r.Int64N(1 << size)}
	case 9, 10, 11, 12, 13, 14, 15:
		o = impl.Op{Tenant: m.Tenant, Kind: impl.OpDrop, Handle: pick()}
	case 16, 17, 18:
		o = impl.Op{Tenant: m.Tenant, Kind: impl.OpLink, Handle: pick(), To: pick(), Index: r.Int64N(3)}
	case 19, 20, 21:
		o = impl.Op{Tenant: m.Tenant, Kind: impl.OpLoad, Handle: pick(), Index: r.Int64N(3)}
	}
	o.Force = force
	return o
}
