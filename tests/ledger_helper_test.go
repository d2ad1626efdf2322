package tests

import (
	"fmt"
	"math"
	"math/rand/v2"
	"slices"
	"testing"

	"loop.example/g00723/impl"
)

func ledger(made, refused, words, given, peak int64) impl.Ledger {
	return impl.Ledger{Made: made, Refused: refused, Words: words, Given: given, Peak: peak}
}

func wantLedger(t *testing.T, what string, got impl.LedgerResult, want impl.Ledger) {
	t.Helper()
	if got != (impl.LedgerResult{Ledger: want}) {
		t.Errorf("%s: LedgerOf is %+v, want %+v", what, got, want)
	}
}

// wantNoAccount asks that of a tenant nothing but this code is told.
func wantNoAccount(t *testing.T, what string, c impl.Config, list []impl.Op, tenant int64, code int64) {
	t.Helper()
	what = fmt.Sprint(what, ": of the tenant ", tenant)
	if got := impl.LedgerOf(c, list, tenant); got != (impl.LedgerResult{Code: code}) {
		t.Errorf("%s: LedgerOf is %+v, want the code %d and nothing beside it", what, got, code)
	}
	wantWord(t, what+": FirstRefused", impl.FirstRefused(c, list, tenant), code, 0)
	for _, w := range []int64{0, 32, 33, 32 + tenant, -32, math.MinInt64, math.MaxInt64} {
		wantIssued(t, what, c, list, tenant, w, false)
	}
}

// wantNoHeld asks, whatever n is, that nothing but this code is told.
func wantNoHeld(t *testing.T, what string, c impl.Config, list []impl.Op, code int64) {
	t.Helper()
	for _, n := range []int64{0, 1, -1, int64(len(list)), int64(len(list)) + 1, 300, 301, math.MinInt64, math.MaxInt64} {
		wantInts(t, fmt.Sprint(what, ": HeldAfter ", n), impl.HeldAfter(c, list, n), code)
	}
}

func wantIssued(t *testing.T, what string, c impl.Config, list []impl.Op, tenant int64, w int64, want bool) {
	t.Helper()
	if got := impl.IsIssued(c, list, tenant, w); got != want {
		t.Errorf("%s: IsIssued of %d to the tenant %d is %v, want %v, of %+v and %+v", what, w, tenant, got, want, c, list)
	}
}

// history is what becomes of ops in the machines that the tenants would have alone. machines has
// all of them behind no op, behind one op, and so on.
type history struct {
	config   impl.Config
	list     []impl.Op
	replies  []impl.Reply
	machines [][]impl.Machine
}

// historyOf is asked of configs without a fault, and does not use the program.
func historyOf(c impl.Config, list []impl.Op) history {
	var now []impl.Machine
	for n, quota := range c.Quotas {
		now = append(now, impl.Machine{Tenant: int64(n), Quota: quota, Slots: make([]impl.Slot, c.Slots[n])})
	}
	h := history{config: c, list: list, machines: [][]impl.Machine{now}}
	for _, o := range list {
		reply := impl.Reply{Code: impl.ErrNone}
		now = slices.Clone(now)
		if isFrom(o.Tenant, 0, int64(len(now))-1) {
			reply, now[o.Tenant] = modelDo(now[o.Tenant], o)
		}
		h.replies, h.machines = append(h.replies, reply), append(h.machines, now)
	}
	return h
}

func (h history) end(tenant int) impl.Machine {
	return h.machines[len(h.list)][tenant]
}

func (h history) held(n int) []int64 {
	var held []int64
	for _, m := range h.machines[n] {
		held = append(held, modelUsed(m))
	}
	return held
}

// ledger looks at the machines alone: each object that was made has a Hash of its own, and each
// handle that was given has a Gen of its slot. What could be made, and was not, was refused.
func (h history) ledger(tenant int) impl.Ledger {
	end := h.end(tenant)
	l := impl.Ledger{Made: end.Hash}
	for _, s := range end.Slots {
		l.Given += s.Gen
	}
	for n, o := range h.list {
		isMade := h.machines[n+1][tenant].Hash > h.machines[n][tenant].Hash
		switch {
		case isMade:
			l.Words += 2 + o.Index
		case o.Tenant == int64(tenant) && o.Kind == impl.OpNew && modelOpFault(o) == 0:
			l.Refused++
		}
		l.Peak = max(l.Peak, modelUsed(h.machines[n+1][tenant]))
	}
	return l
}

func (h history) firstRefused(tenant int) impl.IntResult {
	for n, o := range h.list {
		if o.Tenant == int64(tenant) && h.replies[n].Code == impl.ErrQuota {
			return impl.IntResult{Value: int64(n)}
		}
	}
	return impl.IntResult{Code: impl.ErrNone}
}

func (h history) isIssued(tenant int, w int64) bool {
	for i, s := range h.end(tenant).Slots {
		for gen := range s.Gen {
			if word(int64(tenant), int64(i), gen+1) == w {
				return true
			}
		}
	}
	return false
}

// liveHandles are the words of those that lead to something.
func liveHandles(m impl.Machine) []int64 {
	var list []int64
	for i, s := range m.Slots {
		if s.Node != 0 {
			list = append(list, word(m.Tenant, int64(i), s.Gen))
		}
	}
	return list
}

// wordsNear are the words of all handles that were given last, of those of one Gen less and of one
// more, of the first ones, and of slots that there are not; and such as are no handle.
func (h history) wordsNear() []int64 {
	list := []int64{0, 1, -1, 31, 500, math.MinInt64, math.MaxInt64, 1<<32 + 32}
	for n := range h.config.Quotas {
		tenant, m := int64(n), h.end(n)
		for i, s := range append(slices.Clone(m.Slots), impl.Slot{}) {
			for _, gen := range []int64{1, s.Gen - 1, s.Gen, s.Gen + 1, 99} {
				w := word(tenant, int64(i), gen)
				list = append(list, w, -w)
			}
		}
	}
	slices.Sort(list)
	return slices.Compact(list)
}

// wantAccounts asks what is told of each tenant, and of words at steps from one to the next.
func (h history) wantAccounts(t *testing.T, what string, step int) {
	t.Helper()
	c, list, end := h.config, h.list, impl.RunHeap(h.config, h.list).Heap
	words := h.wordsNear()
	for n := range c.Quotas {
		tenant := int64(n)
		what := fmt.Sprint(what, ": the tenant ", n)
		wantLedger(t, what, impl.LedgerOf(c, list, tenant), h.ledger(n))
		first := h.firstRefused(n)
		wantWord(t, what+": FirstRefused", impl.FirstRefused(c, list, tenant), first.Code, first.Value)
		wantInts(t, what+": HandlesOf", impl.HandlesOf(end, tenant), impl.OK, liveHandles(h.end(n))...)
		for i := n % step; i < len(words); i += step {
			wantIssued(t, what, c, list, tenant, words[i], h.isIssued(n, words[i]))
		}
	}
	for _, tenant := range []int64{-1, int64(len(c.Quotas)), 9} {
		wantNoAccount(t, what, c, list, tenant, impl.ErrNone)
		wantInts(t, fmt.Sprint(what, ": HandlesOf ", tenant), impl.HandlesOf(end, tenant), impl.ErrNone)
	}
}

// wantHeldWithin asks what is held behind each number of ops, or behind some of them, and that it was
// never above a quota, nor above the Peak.
func (h history) wantHeldWithin(t *testing.T, what string, step int) {
	t.Helper()
	c, list := h.config, h.list
	most := make([]int64, len(c.Quotas))
	for n := 0; n <= len(list); n += step {
		got := impl.HeldAfter(c, list, int64(n))
		wantInts(t, fmt.Sprint(what, ": HeldAfter ", n), got, impl.OK, h.held(n)...)
		for tenant, words := range got.List {
			most[tenant] = max(most[tenant], words)
			if words > c.Quotas[tenant] {
				t.Errorf("%s: behind %d ops the tenant %d holds %d words of %+v", what, n, tenant, words, c)
			}
		}
	}
	for tenant, words := range most {
		peak := impl.LedgerOf(c, list, int64(tenant)).Ledger.Peak
		if peak > c.Quotas[tenant] || peak < words || step == 1 && peak != words {
			t.Errorf("%s: the tenant %d held %d words, its Peak is %d, of %+v", what, tenant, words, peak, c)
		}
	}
}

// opsOfAWord are ops of each kind that takes a handle, in which this word is the Handle or the To;
// own is another handle, at whose field there is a pointer.
func opsOfAWord(tenant, w, own, field int64) []impl.Op {
	var list []impl.Op
	for kind := int64(impl.OpDup); kind <= impl.OpSize; kind++ {
		list = append(list, impl.Op{Tenant: tenant, Kind: kind, Handle: w})
		if isNeeded(kind, 'I') {
			list = append(list, impl.Op{Tenant: tenant, Kind: kind, Handle: w, Index: 11})
		}
		if isNeeded(kind, 'V') {
			list = append(list, impl.Op{Tenant: tenant, Kind: kind, Handle: w, Value: -7})
		}
		if isNeeded(kind, 'T') {
			list = append(list, impl.Op{Tenant: tenant, Kind: kind, Handle: w, To: w}, impl.Op{Tenant: tenant, Kind: kind, Handle: w, To: own})
		}
	}
	if own != 0 {
		list = append(list, impl.Op{Tenant: tenant, Kind: impl.OpSame, Handle: own, To: w})
	}
	// To 0 makes the pointer 0.
	if own != 0 && w != 0 && field >= 0 {
		list = append(list, impl.Op{Tenant: tenant, Kind: impl.OpLink, Handle: own, To: w, Index: field})
	}
	return list
}

// pointerOf is a handle that leads to something, and a field of this that is a pointer; 0 is no
// handle, and -1 no such field.
func (h history) pointerOf(tenant int) (own, field int64) {
	m := h.end(tenant)
	for _, w := range liveHandles(m) {
		n := nodeOf(m.Nodes, m.Slots[modelSlot(m, w)].Node)
		for i := range n.Size {
			if isPointerField(impl.Head{Mask: n.Mask}, i) {
				return w, i
			}
		}
		own = w
	}
	return own, -1
}

// wantRefusedUnlessIssued asks that what leads to something was issued, and that what was not is
// refused. It answers how many ops were refused.
func (h history) wantRefusedUnlessIssued(t *testing.T, what string, step int) int {
	t.Helper()
	end, refused := impl.RunHeap(h.config, h.list).Heap, 0
	words := h.wordsNear()
	for n := range h.config.Quotas {
		tenant := int64(n)
		for _, w := range impl.HandlesOf(end, tenant).List {
			wantIssued(t, what, h.config, h.list, tenant, w, true)
		}
		own, field := h.pointerOf(n)
		for i := n % step; i < len(words); i += step {
			if impl.IsIssued(h.config, h.list, tenant, words[i]) {
				continue
			}
			for _, o := range opsOfAWord(tenant, words[i], own, field) {
				if got := impl.DoHeap(end, o); !slices.Equal(got.Replies, []impl.Reply{{Code: impl.ErrHandle}}) {
					t.Errorf("%s: %+v was never issued: %+v", what, o, got.Replies)
				}
				refused++
			}
		}
	}
	return refused
}

// anyList has ops of all tenants, by many of which something is made, given again or refused.
func anyList(r *rand.Rand, c impl.Config, n int) []impl.Op {
	h := impl.NewHeap(c).Heap
	var list []impl.Op
	for range n {
		o := anyHeapOp(r, h, r.IntN(9) == 0)
		m := modelOwn(h, r.IntN(len(c.Quotas)))
		size := r.Int64N(1 + r.Int64N(13))
		made := impl.Op{Tenant: m.Tenant, Kind: impl.OpNew, Index: size, Value: r.Int64N(1 << min(size, 1))}
		if own := liveHandles(m); len(own) == 0 {
			o = made
		} else {
			given := own[r.IntN(len(own))]
			ops := []impl.Op{made, o, o, o,
				{Tenant: m.Tenant, Kind: impl.OpDup, Handle: given},
				{Tenant: m.Tenant, Kind: impl.OpLoad, Handle: given},
				{Tenant: m.Tenant, Kind: impl.OpLink, Handle: given, To: own[r.IntN(len(own))]},
				{Tenant: m.Tenant, Kind: impl.OpDrop, Handle: given},
			}
			o = ops[r.IntN(len(ops))]
		}
		h = impl.DoHeap(h, o).Heap
		list = append(list, o)
	}
	return list
}

// otherOrders are lists in which each tenant does the same as in this one, in its order: one behind the
// other, in any order, with this Force and with others.
func otherOrders(r *rand.Rand, c impl.Config, list []impl.Op) [][]impl.Op {
	var lists [][]impl.Op
	for tenant := int64(-1); tenant <= int64(len(c.Quotas)); tenant++ {
		lists = append(lists, impl.OpsFor(list, tenant).Ops)
	}
	shuffled := shuffledTogether(r, lists...)
	return [][]impl.Op{
		slices.Concat(lists...), shuffled,
		forced(list, func(int) bool { return false }), forced(shuffled, func(int) bool { return true }), forced(shuffled, func(n int) bool { return n%3 == 0 }),
	}
}
