package tests

import (
	"fmt"
	"math"
	"math/rand/v2"
	"slices"
	"testing"

	"loop.example/g00723/impl"
)

// accountRow is an op, what it is replied, what the tenants 0 and 1 hold behind it, and the account of
// its tenant then, written by hand. An op of nobody has no account.
type accountRow struct {
	op      impl.Op
	reply   impl.Reply
	held    [2]int64
	account impl.Ledger
}

func handConfig() impl.Config {
	return impl.Config{Half: 20, Quotas: []int64{9, 6}, Slots: []int64{2, 3}}
}

// handRows are of handConfig. The slots of the tenant 0 are given again by OpLoad (68), by OpDup (64)
// and by OpNew (96), those of the tenant 1 by OpNew (65 and 69).
func handRows() []accountRow {
	var rows []accountRow
	add := func(tenant, kind, handle, to, index, value int64, reply impl.Reply, held0, held1 int64, l impl.Ledger) {
		o := impl.Op{Tenant: tenant, Kind: kind, Handle: handle, To: to, Index: index, Value: value}
		rows = append(rows, accountRow{o, reply, [2]int64{held0, held1}, l})
	}
	ok := func(value int64) impl.Reply { return impl.Reply{Value: value} }
	no := func(code int64) impl.Reply { return impl.Reply{Code: code} }
	add(0, impl.OpNew, 0, 0, 2, 1, ok(32), 4, 0, ledger(1, 0, 4, 1, 4))
	add(1, impl.OpNew, 0, 0, 4, 0, ok(33), 4, 6, ledger(1, 0, 6, 1, 6))
	add(0, impl.OpLoad, 32, 0, 0, 0, ok(0), 4, 6, ledger(1, 0, 4, 1, 4))
	add(0, impl.OpNew, 0, 0, 4, 0, no(impl.ErrQuota), 4, 6, ledger(1, 1, 4, 1, 4))
	add(1, impl.OpNew, 0, 0, 0, 0, no(impl.ErrQuota), 4, 6, ledger(1, 1, 6, 1, 6))
	add(0, impl.OpNew, 0, 0, 3, 0, ok(36), 9, 6, ledger(2, 1, 9, 2, 9))
	add(0, impl.OpNew, 0, 0, 0, 0, no(impl.ErrFull), 9, 6, ledger(2, 2, 9, 2, 9))
	add(0, impl.OpDup, 32, 0, 0, 0, no(impl.ErrFull), 9, 6, ledger(2, 2, 9, 2, 9))
	add(0, impl.OpLink, 32, 36, 0, 0, ok(0), 9, 6, ledger(2, 2, 9, 2, 9))
	add(0, impl.OpLoad, 32, 0, 0, 0, no(impl.ErrFull), 9, 6, ledger(2, 2, 9, 2, 9))
	add(0, impl.OpDrop, 36, 0, 0, 0, ok(0), 9, 6, ledger(2, 2, 9, 2, 9))
	add(0, impl.OpLoad, 32, 0, 0, 0, ok(68), 9, 6, ledger(2, 2, 9, 3, 9))
	add(0, impl.OpNew, 32, 0, 1, 0, no(impl.ErrForm), 9, 6, ledger(2, 2, 9, 3, 9))
	add(2, impl.OpNew, 0, 0, 1, 0, no(impl.ErrNone), 9, 6, impl.Ledger{})
	add(1, impl.OpDup, 33, 0, 0, 0, ok(37), 9, 6, ledger(1, 1, 6, 2, 6))
	add(1, impl.OpDup, 37, 0, 0, 0, ok(41), 9, 6, ledger(1, 1, 6, 3, 6))
	add(1, impl.OpNew, 0, 0, 0, 0, no(impl.ErrFull), 9, 6, ledger(1, 2, 6, 3, 6))
	add(1, impl.OpDrop, 33, 0, 0, 0, ok(0), 9, 6, ledger(1, 2, 6, 3, 6))
	add(1, impl.OpNew, 0, 0, 0, 0, no(impl.ErrQuota), 9, 6, ledger(1, 3, 6, 3, 6))
	add(1, impl.OpDrop, 37, 0, 0, 0, ok(0), 9, 6, ledger(1, 3, 6, 3, 6))
	add(1, impl.OpDrop, 41, 0, 0, 0, ok(0), 9, 0, ledger(1, 3, 6, 3, 6))
	add(1, impl.OpNew, 0, 0, 2, 0, ok(65), 9, 4, ledger(2, 3, 10, 4, 6))
	add(1, impl.OpNew, 0, 0, 0, 0, ok(69), 9, 6, ledger(3, 3, 12, 5, 6))
	add(0, impl.OpDrop, 32, 0, 0, 0, ok(0), 5, 6, ledger(2, 2, 9, 3, 9))
	add(0, impl.OpDup, 68, 0, 0, 0, ok(64), 5, 6, ledger(2, 2, 9, 4, 9))
	add(0, impl.OpDrop, 64, 0, 0, 0, ok(0), 5, 6, ledger(2, 2, 9, 4, 9))
	add(0, impl.OpNew, 0, 0, 2, 0, ok(96), 9, 6, ledger(3, 2, 13, 5, 9))
	add(0, impl.OpGet, 33, 0, 0, 0, no(impl.ErrHandle), 9, 6, ledger(3, 2, 13, 5, 9))
	// What is read is the word of a handle that was never given.
	add(0, impl.OpPut, 68, 0, 1, 128, ok(0), 9, 6, ledger(3, 2, 13, 5, 9))
	add(0, impl.OpGet, 68, 0, 1, 0, ok(128), 9, 6, ledger(3, 2, 13, 5, 9))
	add(0, impl.OpDrop, 96, 0, 0, 0, ok(0), 5, 6, ledger(3, 2, 13, 5, 9))
	add(0, impl.OpDrop, 68, 0, 0, 0, ok(0), 0, 6, ledger(3, 2, 13, 5, 9))
	add(0, impl.OpHash, 68, 0, 0, 0, no(impl.ErrHandle), 0, 6, ledger(3, 2, 13, 5, 9))
	add(1, 12, 0, 0, 0, 0, no(impl.ErrForm), 0, 6, ledger(3, 3, 12, 5, 6))
	return rows
}

// handIssued are the words that were given to each tenant, and behind how many ops of handRows.
func handIssued() [2]map[int64]int {
	return [2]map[int64]int{
		{32: 1, 36: 6, 68: 12, 64: 25, 96: 27},
		{33: 2, 37: 15, 41: 16, 65: 22, 69: 23},
	}
}

func opsOfRows(rows []accountRow) []impl.Op {
	var list []impl.Op
	for _, row := range rows {
		list = append(list, row.op)
	}
	return list
}

func TestAccountsByHand(t *testing.T) {
	c, rows := handConfig(), handRows()
	list := opsOfRows(rows)
	for i, reply := range impl.RunHeap(c, list).Replies {
		if reply != rows[i].reply {
			t.Errorf("the op %d of these rows: got %+v, want %+v", i, reply, rows[i].reply)
		}
	}
	var accounts [2]impl.Ledger
	for n := range len(list) + 1 {
		what := fmt.Sprint("behind ", n, " ops")
		held := [2]int64{}
		if n > 0 {
			held = rows[n-1].held
			if tenant := rows[n-1].op.Tenant; tenant < 2 {
				accounts[tenant] = rows[n-1].account
			}
		}
		for tenant, want := range accounts {
			wantLedger(t, fmt.Sprint(what, ": the tenant ", tenant), impl.LedgerOf(c, list[:n], int64(tenant)), want)
		}
		// What was done behind these ops turns nothing of what was held behind them.
		wantInts(t, what, impl.HeldAfter(c, list[:n], int64(n)), impl.OK, held[:]...)
		wantInts(t, what, impl.HeldAfter(c, list, int64(n)), impl.OK, held[:]...)
		for tenant, first := range []int{3, 4} {
			want := impl.IntResult{Code: impl.ErrNone}
			if n > first {
				want = impl.IntResult{Value: int64(first)}
			}
			wantWord(t, fmt.Sprint(what, ": FirstRefused of ", tenant), impl.FirstRefused(c, list[:n], int64(tenant)), want.Code, want.Value)
		}
	}
}

func TestIssuedByHand(t *testing.T) {
	c, list := handConfig(), opsOfRows(handRows())
	for tenant, issued := range handIssued() {
		for w, behind := range issued {
			for n := range len(list) + 1 {
				wantIssued(t, fmt.Sprint("behind ", n, " ops"), c, list[:n], int64(tenant), w, n >= behind)
			}
		}
		for w := range int64(200) {
			_, want := issued[w]
			wantIssued(t, "of all ops", c, list, int64(tenant), w, want)
			wantIssued(t, "of all ops", c, list, int64(tenant), -w, false)
		}
	}
}

func TestHandlesByHand(t *testing.T) {
	c, list := handConfig(), opsOfRows(handRows())
	cases := []struct {
		n       int
		handles [2][]int64
	}{
		{0, [2][]int64{nil, nil}},
		{1, [2][]int64{{32}, nil}},
		{2, [2][]int64{{32}, {33}}},
		{6, [2][]int64{{32, 36}, {33}}},
		{11, [2][]int64{{32}, {33}}},
		{12, [2][]int64{{32, 68}, {33}}},
		{16, [2][]int64{{32, 68}, {33, 37, 41}}},
		{18, [2][]int64{{32, 68}, {37, 41}}},
		{20, [2][]int64{{32, 68}, {41}}},
		{21, [2][]int64{{32, 68}, nil}},
		{23, [2][]int64{{32, 68}, {65, 69}}},
		{24, [2][]int64{{68}, {65, 69}}},
		{25, [2][]int64{{64, 68}, {65, 69}}},
		{27, [2][]int64{{96, 68}, {65, 69}}},
		{32, [2][]int64{nil, {65, 69}}},
		{34, [2][]int64{nil, {65, 69}}},
	}
	for _, row := range cases {
		h := impl.RunHeap(c, list[:row.n]).Heap
		for tenant, want := range row.handles {
			what := fmt.Sprint("behind ", row.n, " ops: the tenant ", tenant)
			wantInts(t, what, impl.HandlesOf(h, int64(tenant)), impl.OK, want...)
			wantInts(t, what+", collected", impl.HandlesOf(impl.CollectHeap(h).Heap, int64(tenant)), impl.OK, want...)
		}
	}
}

// TestHandlesOfHeaps has slots that are free between others, all slots taken, and none.
func TestHandlesOfHeaps(t *testing.T) {
	for active := range int64(2) {
		for _, p := range []plan{roomyWork(active), workPlan(24, active, 11, 8, 5), collectedWork(roomyWork(active))} {
			h := p.heap()
			wantInts(t, "the tenant 0", impl.HandlesOf(h, 0), impl.OK, ownOf0)
			wantInts(t, "the tenant 1", impl.HandlesOf(h, 1), impl.OK, firstOf1, otherOf1, thirdOf1)
			wantInts(t, "the tenant 2", impl.HandlesOf(h, 2), impl.OK, ownOf2)
		}
	}
	full := plan{half: 200, objects: []impl.Object{made(0, 0, 1), made(1, 0, 2), made(2, 0, 3), made(3, 0, 4)}}
	none := full.copied()
	for n := range int64(4) {
		var slots, free []impl.HeapSlot
		for i := range int64(8) {
			slots = append(slots, impl.HeapSlot{Gen: 1 + 14*i, At: n + 1})
			free = append(free, impl.HeapSlot{Gen: 14 * i})
		}
		full.tenants = append(full.tenants, impl.HeapTenant{Quota: 50, Slots: slots})
		none.tenants = append(none.tenants, impl.HeapTenant{Quota: 50, Slots: free})
	}
	for n := range int64(4) {
		var want []int64
		for i := range int64(8) {
			want = append(want, n+4*(i+8*(1+14*i)))
		}
		wantInts(t, "all slots are taken", impl.HandlesOf(full.heap(), n), impl.OK, want...)
		wantInts(t, "no slot is taken", impl.HandlesOf(none.heap(), n), impl.OK)
	}
}

// TestHandlesLeadToSomething holds HandlesOf against all handles that there are.
func TestHandlesLeadToSomething(t *testing.T) {
	for seed := range uint64(200) {
		r := rand.New(rand.NewPCG(20, seed))
		h := manyHeld(r, 14+r.Int64N(1+r.Int64N(187)))
		for n := range h.Tenants {
			m := impl.AbstractOf(h, int64(n)).Machine
			var want []int64
			for i := range m.Slots {
				for gen := int64(1); gen <= 99; gen++ {
					if w := word(int64(n), int64(i), gen); modelSlot(m, w) == i {
						want = append(want, w)
					}
				}
			}
			got := impl.HandlesOf(h, int64(n))
			wantInts(t, fmt.Sprint("the seed ", seed, ": the tenant ", n), got, impl.OK, want...)
			for _, w := range got.List {
				o := impl.Op{Tenant: int64(n), Kind: impl.OpSize, Handle: w}
				if reply := impl.DoHeap(h, o).Replies; len(reply) != 1 || reply[0].Code != impl.OK {
					t.Errorf("the seed %d: %+v: %+v", seed, o, reply)
				}
			}
		}
	}
}

// TestTenantsThatHaveNoAccount asks that there is an account of just the tenants that there are.
func TestTenantsThatHaveNoAccount(t *testing.T) {
	for n := range int64(4) {
		c := impl.Config{Half: 40, Quotas: slices.Repeat([]int64{10}, int(n)+1), Slots: slices.Repeat([]int64{2}, int(n)+1)}
		h := impl.NewHeap(c).Heap
		for _, tenant := range append([]int64{4, 5, 256, 257, 1 << 32, 1<<32 + 1}, strange...) {
			list := []impl.Op{{Tenant: tenant, Kind: impl.OpUsed}, {Tenant: tenant ^ 1, Kind: impl.OpNew}, {Tenant: tenant, Kind: impl.OpNew, Index: 9}, {Tenant: tenant, Kind: impl.OpNew}}
			what := fmt.Sprint(n+1, " tenants")
			if isFrom(tenant, 0, n) {
				wantLedger(t, what, impl.LedgerOf(c, nil, tenant), impl.Ledger{})
				wantLedger(t, what, impl.LedgerOf(c, list, tenant), ledger(1, 1, 2, 1, 2))
				wantWord(t, what, impl.FirstRefused(c, nil, tenant), impl.ErrNone, 0)
				wantWord(t, what, impl.FirstRefused(c, list, tenant), impl.OK, 2)
				wantIssued(t, what, c, nil, tenant, 32+tenant, false)
				wantIssued(t, what, c, list, tenant, 32+tenant, true)
				wantInts(t, what, impl.HandlesOf(h, tenant), impl.OK)
				wantInts(t, what, impl.HandlesOf(impl.RunHeap(c, list).Heap, tenant), impl.OK, 32+tenant)
				continue
			}
			wantNoAccount(t, what, c, nil, tenant, impl.ErrNone)
			wantNoAccount(t, what, c, list, tenant, impl.ErrNone)
			wantNoAccount(t, what, c, make([]impl.Op, 300), tenant, impl.ErrNone)
			wantInts(t, what, impl.HandlesOf(h, tenant), impl.ErrNone)
		}
	}
}

// TestAccountsThatAreRefused has the codes in their order.
func TestAccountsThatAreRefused(t *testing.T) {
	good := impl.Config{Half: 20, Quotas: []int64{9, 11}, Slots: []int64{2, 3}}
	refused := []struct {
		config impl.Config
		code   int64
	}{
		{impl.Config{}, impl.ErrRange},
		{impl.Config{Half: 201, Quotas: []int64{9, 11}, Slots: []int64{2, 3}}, impl.ErrRange},
		{impl.Config{Half: 20, Quotas: []int64{9, 2}, Slots: []int64{3}}, impl.ErrMany},
		{impl.Config{Half: 20, Quotas: []int64{9, 1}, Slots: []int64{2, 3}}, impl.ErrRange},
		{impl.Config{Half: 20, Quotas: []int64{9, 2}, Slots: []int64{2, 9}}, impl.ErrRange},
		{impl.Config{Half: 19, Quotas: []int64{9, 11}, Slots: []int64{2, 3}}, impl.ErrFull},
	}
	lists := [][]impl.Op{nil, {{Kind: impl.OpNew}}, make([]impl.Op, 300), make([]impl.Op, 301), make([]impl.Op, 100000)}
	for _, list := range lists {
		for _, r := range refused {
			what := fmt.Sprintf("%d ops of %+v", len(list), r.config)
			wantNoHeld(t, what, r.config, list, r.code)
			for _, tenant := range []int64{0, 1, 2, -1, 4, math.MinInt64, math.MaxInt64} {
				wantNoAccount(t, what, r.config, list, tenant, r.code)
			}
		}
		if len(list) > 300 {
			what := fmt.Sprint(len(list), " ops")
			wantNoHeld(t, what, good, list, impl.ErrMany)
			for _, tenant := range []int64{0, 1, 2, -1, 4, math.MinInt64, math.MaxInt64} {
				// The ops of the tenant alone may be fewer.
				of := append(slices.Clone(list[1:]), impl.Op{Tenant: tenant, Kind: impl.OpNew})
				wantNoAccount(t, what, good, of, tenant, impl.ErrMany)
				wantNoAccount(t, what, good, slices.Repeat([]impl.Op{{Tenant: 3}}, len(list)), tenant, impl.ErrMany)
			}
		}
	}
}

func TestNumbersOfOpsToHoldBehind(t *testing.T) {
	c, rows := handConfig(), handRows()
	for _, n := range []int{0, 1, 2, len(rows)} {
		list := opsOfRows(rows[:n])
		for _, behind := range append([]int64{int64(n) - 1, int64(n), int64(n) + 1, 300, 301, 1 << 32, 1<<32 + 1, -1 << 32}, strange...) {
			what := fmt.Sprint("behind ", behind, " of ", n, " ops")
			switch {
			case !isFrom(behind, 0, int64(n)):
				wantInts(t, what, impl.HeldAfter(c, list, behind), impl.ErrRange)
			case behind == 0:
				wantInts(t, what, impl.HeldAfter(c, list, behind), impl.OK, 0, 0)
			default:
				held := rows[behind-1].held
				wantInts(t, what, impl.HeldAfter(c, list, behind), impl.OK, held[:]...)
			}
		}
	}
	// There are ops behind the list, which are not its own.
	list := opsOfRows(rows)[:2:2]
	wantInts(t, "of a part", impl.HeldAfter(c, opsOfRows(rows)[:2], 3), impl.ErrRange)
	wantInts(t, "of a part", impl.HeldAfter(c, list, 3), impl.ErrRange)
	most := slices.Repeat([]impl.Op{{Kind: impl.OpNew, Index: 7}, {Kind: impl.OpDrop, Handle: 32}, {Tenant: 9}}, 100)
	wantInts(t, "the most ops", impl.HeldAfter(c, most, 300), impl.OK, 9, 0)
	wantInts(t, "the most ops", impl.HeldAfter(c, most, 301), impl.ErrRange)
}

// TestHeldByEachOfSome has as many numbers as there are tenants.
func TestHeldByEachOfSome(t *testing.T) {
	for n := 1; n <= 4; n++ {
		c := impl.Config{Half: 200, Quotas: slices.Repeat([]int64{50}, n), Slots: slices.Repeat([]int64{8}, n)}
		held := make([]int64, n)
		var list []impl.Op
		for i := range 12 {
			wantInts(t, fmt.Sprint(n, " tenants behind ", i, " ops"), impl.HeldAfter(c, list, int64(i)), impl.OK, held...)
			tenant := i % n
			held[tenant] += 2 + int64(i)
			list = append(list, impl.Op{Tenant: int64(tenant), Kind: impl.OpNew, Index: int64(i)})
			if held[tenant] > 50 {
				held[tenant] -= 2 + int64(i)
			}
		}
	}
}

func TestAccountsOfNoOpsAndOfOthersAlone(t *testing.T) {
	c := handConfig()
	for _, none := range [][]impl.Op{nil, {}} {
		for tenant := range int64(2) {
			wantLedger(t, "no ops", impl.LedgerOf(c, none, tenant), impl.Ledger{})
			wantWord(t, "no ops", impl.FirstRefused(c, none, tenant), impl.ErrNone, 0)
			wantIssued(t, "no ops", c, none, tenant, 32+tenant, false)
			wantIssued(t, "no ops", c, none, tenant, 0, false)
		}
		wantInts(t, "no ops", impl.HeldAfter(c, none, 0), impl.OK, 0, 0)
	}
	// The tenant 1 does nothing, or only what gives it nothing.
	others := slices.DeleteFunc(opsOfRows(handRows()), func(o impl.Op) bool { return o.Tenant == 1 })
	idle := append(slices.Clone(others), impl.Op{Tenant: 1, Kind: impl.OpUsed}, impl.Op{Tenant: 1, Kind: impl.OpDup, Handle: 96}, impl.Op{Tenant: 1, Kind: impl.OpDrop})
	for _, list := range [][]impl.Op{others, others[:1], idle} {
		wantLedger(t, "ops of others", impl.LedgerOf(c, list, 1), impl.Ledger{})
		wantWord(t, "ops of others", impl.FirstRefused(c, list, 1), impl.ErrNone, 0)
		for w := range int64(140) {
			wantIssued(t, "ops of others", c, list, 1, w, false)
		}
		for n := range len(list) + 1 {
			if held := impl.HeldAfter(c, list, int64(n)).List; len(held) != 2 || held[1] != 0 {
				t.Errorf("the tenant 1 does nothing, and holds %v", held)
			}
		}
	}
	wantLedger(t, "the tenant that does all", impl.LedgerOf(c, idle, 0), ledger(3, 2, 13, 5, 9))
	// It counts neither for the one nor for the other one what nobody does.
	strangers := slices.Repeat([]impl.Op{{Tenant: 2, Kind: impl.OpNew, Index: 12}, {Tenant: -1, Kind: impl.OpNew}, {Tenant: math.MaxInt64, Kind: impl.OpNew}}, 40)
	for tenant := range int64(2) {
		wantLedger(t, "ops of nobody", impl.LedgerOf(c, strangers, tenant), impl.Ledger{})
		wantWord(t, "ops of nobody", impl.FirstRefused(c, strangers, tenant), impl.ErrNone, 0)
	}
}

// TestRefusalsOfEachSize makes objects of each size in what is left of a quota.
func TestRefusalsOfEachSize(t *testing.T) {
	for quota := int64(2); quota <= 16; quota++ {
		c := impl.Config{Half: 20, Quotas: []int64{quota, 2}, Slots: []int64{2, 1}}
		for size := range int64(13) {
			list := []impl.Op{{Tenant: 1, Kind: impl.OpNew, Index: 1}, {Kind: impl.OpNew, Index: size, Value: 1<<size - 1}}
			want, first := ledger(1, 0, 2+size, 1, 2+size), impl.IntResult{Code: impl.ErrNone}
			if 2+size > quota {
				want, first = ledger(0, 1, 0, 0, 0), impl.IntResult{Value: 1}
			}
			what := fmt.Sprint("the size ", size, " of the quota ", quota)
			wantLedger(t, what, impl.LedgerOf(c, list, 0), want)
			wantWord(t, what, impl.FirstRefused(c, list, 0), first.Code, first.Value)
			wantIssued(t, what, c, list, 0, 32, want.Made == 1)
			wantInts(t, what, impl.HeldAfter(c, list, 2), impl.OK, want.Peak, 0)
		}
	}
}

// TestRefusalsByTurns has objects that are refused for want of a slot and for the quota.
func TestRefusalsByTurns(t *testing.T) {
	c := impl.Config{Half: 12, Quotas: []int64{6, 6}, Slots: []int64{1, 2}}
	greater, small := impl.Op{Kind: impl.OpNew, Index: 5}, impl.Op{Kind: impl.OpNew, Index: 1}
	drop := func(gen int64) impl.Op { return impl.Op{Kind: impl.OpDrop, Handle: 32 * gen} }
	other := impl.Op{Tenant: 1, Kind: impl.OpNew, Index: 5}
	cases := []struct {
		name  string
		list  []impl.Op
		want  impl.Ledger
		first int64
	}{
		{"for want of a slot alone", []impl.Op{small, greater, greater, small}, ledger(1, 3, 3, 1, 3), -1},
		{"for the quota alone", []impl.Op{greater, greater, small}, ledger(1, 2, 3, 1, 3), 0},
		{"for a slot, and then for the quota", []impl.Op{small, greater, drop(1), greater}, ledger(1, 2, 3, 1, 3), 3},
		{"for the quota, and then for a slot", []impl.Op{greater, small, greater}, ledger(1, 2, 3, 1, 3), 0},
		{"by turns", []impl.Op{small, greater, drop(1), greater, small, small, drop(2), greater}, ledger(2, 4, 6, 2, 3), 3},
		{"behind those of another tenant", []impl.Op{other, other, small, other, drop(1), other, greater, other}, ledger(1, 1, 3, 1, 3), 6},
		{"those of another tenant alone", []impl.Op{other, small, other, other}, ledger(1, 0, 3, 1, 3), -1},
		{"a copy for want of a slot", []impl.Op{small, {Kind: impl.OpDup, Handle: 32}, {Kind: impl.OpDup, Handle: 32}}, ledger(1, 0, 3, 1, 3), -1},
	}
	for _, x := range cases {
		wantLedger(t, x.name, impl.LedgerOf(c, x.list, 0), x.want)
		if x.first < 0 {
			wantWord(t, x.name, impl.FirstRefused(c, x.list, 0), impl.ErrNone, 0)
		} else {
			wantWord(t, x.name, impl.FirstRefused(c, x.list, 0), impl.OK, x.first)
		}
	}
}

// malformedOps are such as OpFault tells a code of, though they are like ops that would give
// something.
func malformedOps() []impl.Op {
	list := []impl.Op{
		{Kind: impl.OpNew, Handle: 32}, {Kind: impl.OpNew, To: 32}, {Kind: impl.OpNew, Index: 13}, {Kind: impl.OpNew, Index: -1},
		{Kind: impl.OpNew, Value: 1}, {Kind: impl.OpNew, Index: 2, Value: 4}, {Kind: impl.OpNew, Index: 12, Value: 4096},
		{Kind: impl.OpNew, Index: math.MaxInt64}, {Kind: impl.OpNew, Index: math.MinInt64}, {Kind: impl.OpNew, Index: 2, Value: math.MinInt64},
		{Kind: impl.OpNew, Index: 1, Value: -1},
		{Kind: impl.OpDup, Handle: 32, To: 32}, {Kind: impl.OpDup, Handle: 32, Index: 1}, {Kind: impl.OpDup, Handle: 32, Value: 1},
		{Kind: impl.OpLoad, Handle: 32, To: 32}, {Kind: impl.OpLoad, Handle: 32, Value: 1}, {Kind: impl.OpLoad, Handle: 32, Index: -1}, {Kind: impl.OpLoad, Handle: 32, Index: 12},
		{Kind: impl.OpUsed, Handle: 32}, {Kind: impl.OpDrop, Handle: 32, Index: 1}, {Kind: impl.OpHash, Handle: 32, To: 32},
	}
	for _, kind := range []int64{0, 12, -1, 13, 257, 1<<32 + 1, math.MinInt64, math.MaxInt64} {
		list = append(list, impl.Op{Kind: kind}, impl.Op{Kind: kind, Handle: 32}, impl.Op{Kind: kind, Index: 2})
	}
	return list
}

// TestMalformedOpsTurnNoAccount has them ahead of all others, between them and behind them, and where
// an object would be refused.
func TestMalformedOpsTurnNoAccount(t *testing.T) {
	c := impl.Config{Half: 20, Quotas: []int64{9, 6}, Slots: []int64{3, 3}}
	// The object leads to itself.
	good := []impl.Op{{Kind: impl.OpNew, Index: 2, Value: 1}, {Kind: impl.OpLink, Handle: 32, To: 32}, {Kind: impl.OpNew, Index: 6}, {Kind: impl.OpLoad, Handle: 32}, {Kind: impl.OpDup, Handle: 36}}
	ledgers := []impl.Ledger{{}, ledger(1, 0, 4, 1, 4), ledger(1, 0, 4, 1, 4), ledger(1, 1, 4, 1, 4), ledger(1, 1, 4, 2, 4), ledger(1, 1, 4, 3, 4)}
	for _, o := range malformedOps() {
		if impl.OpFault(o) == impl.OK {
			t.Errorf("%+v is not malformed", o)
		}
		for n, want := range ledgers {
			what := fmt.Sprintf("%+v behind %d ops", o, n)
			list := append(slices.Clone(good[:n]), o, o)
			wantLedger(t, what, impl.LedgerOf(c, list, 0), want)
			for _, w := range []int64{0, 1, 36 + 4*32, 13, 12, 4096} {
				wantIssued(t, what, c, list, 0, w, false)
			}
			list = slices.Insert(slices.Clone(good), n, o)
			wantLedger(t, what+", and ahead of others", impl.LedgerOf(c, list, 0), ledgers[5])
			first := int64(2)
			if n <= 2 {
				first = 3
			}
			wantWord(t, what, impl.FirstRefused(c, list, 0), impl.OK, first)
			o.Tenant = 1
			list = slices.Insert(slices.Clone(good), n, o)
			wantLedger(t, what+", by another tenant", impl.LedgerOf(c, list, 1), impl.Ledger{})
			o.Tenant = 0
		}
	}
}

// TestValuesThatAreNoHandles has replies whose Values are words of handles that were never given.
func TestValuesThatAreNoHandles(t *testing.T) {
	c := impl.Config{Half: 60, Quotas: []int64{56}, Slots: []int64{1}}
	var list []impl.Op
	for gen := int64(1); gen <= 36; gen++ {
		list = append(list, impl.Op{Kind: impl.OpDrop, Handle: 32 * (gen - 1)}, impl.Op{Kind: impl.OpNew, Index: 1})
	}
	own := int64(32 * 36)
	list = append(list,
		impl.Op{Kind: impl.OpHash, Handle: own},
		impl.Op{Kind: impl.OpPut, Handle: own, Value: 44},
		impl.Op{Kind: impl.OpGet, Handle: own},
		impl.Op{Kind: impl.OpSame, Handle: own, To: own},
		impl.Op{Kind: impl.OpSize, Handle: own},
	)
	replies := impl.ViewOf(c, list, 0).Replies
	if got := replies[len(replies)-5:]; !slices.Equal(got, []impl.Reply{{Value: 36}, {}, {Value: 44}, {Value: 1}, {Value: 1}}) {
		t.Fatalf("got %+v", got)
	}
	wantLedger(t, "values", impl.LedgerOf(c, list, 0), ledger(36, 0, 108, 36, 3))
	for w := range int64(1300) {
		wantIssued(t, "values", c, list, 0, w, w > 0 && w <= own && w%32 == 0)
	}
	// 44 words are used by objects that lead to one another, of which there are handles of three slots.
	c.Slots[0] = 3
	list = []impl.Op{{Kind: impl.OpNew, Index: 12}, {Kind: impl.OpNew, Index: 12}, {Kind: impl.OpNew, Index: 8, Value: 3}, {Kind: impl.OpLink, Handle: 40, To: 32}, {Kind: impl.OpDrop, Handle: 32}, {Kind: impl.OpNew, Index: 4}, {Kind: impl.OpUsed}}
	if used := impl.ViewOf(c, list, 0).Replies[6]; used != (impl.Reply{Value: 44}) {
		t.Fatalf("got %+v", used)
	}
	wantLedger(t, "used", impl.LedgerOf(c, list, 0), ledger(4, 0, 44, 4, 44))
	wantIssued(t, "used", c, list, 0, 44, false)
	wantIssued(t, "used", c, list, 0, 64, true)
}

// TestASlotThatIsGivenToItsEnd gives one slot again and again, by objects, by copies and by what is
// loaded, until it cannot be given any more.
func TestASlotThatIsGivenToItsEnd(t *testing.T) {
	c := impl.Config{Half: 8, Quotas: []int64{5, 3}, Slots: []int64{2, 1}}
	for kind, give := range []impl.Op{{Kind: impl.OpNew}, {Kind: impl.OpDup, Handle: 32}, {Kind: impl.OpLoad, Handle: 32}} {
		list := []impl.Op{{Kind: impl.OpNew, Index: 1, Value: 1}, {Kind: impl.OpLink, Handle: 32, To: 32}}
		for gen := int64(1); gen <= 99; gen++ {
			list = append(list, give, impl.Op{Kind: impl.OpDrop, Handle: word(0, 1, gen)})
		}
		list = append(list, give, give)
		want := []impl.Ledger{ledger(100, 2, 201, 100, 5), ledger(1, 0, 3, 100, 3), ledger(1, 0, 3, 100, 3)}[kind]
		what := fmt.Sprintf("%+v", give)
		wantLedger(t, what, impl.LedgerOf(c, list, 0), want)
		wantWord(t, what, impl.FirstRefused(c, list, 0), impl.ErrNone, 0)
		wantInts(t, what, impl.HandlesOf(impl.RunHeap(c, list).Heap, 0), impl.OK, 32)
		for gen := range int64(101) {
			wantIssued(t, what, c, list, 0, word(0, 1, gen), gen > 0 && gen < 100)
			wantIssued(t, what, c, list, 0, word(0, 0, gen), gen == 1)
			wantIssued(t, what, c, list, 0, word(1, 1, gen), false)
			wantIssued(t, what, c, list[:2+100], 0, word(0, 1, gen), gen > 0 && gen <= 50)
		}
	}
}

// TestEachWordOfAHandle asks of all handles that there are, and of more words, behind a few ops.
func TestEachWordOfAHandle(t *testing.T) {
	c := impl.Config{Half: 40, Quotas: []int64{10, 10, 10, 10}, Slots: []int64{8, 8, 8, 8}}
	list := []impl.Op{{Tenant: 3, Kind: impl.OpNew}, {Tenant: 1, Kind: impl.OpNew}, {Tenant: 3, Kind: impl.OpDup, Handle: 35}, {Tenant: 3, Kind: impl.OpDrop, Handle: 35}, {Tenant: 3, Kind: impl.OpDup, Handle: 39}}
	issued := [][]int64{{}, {33}, {}, {35, 39, 67}}
	for tenant, own := range issued {
		for w := int64(-70); w < 3300; w++ {
			wantIssued(t, "few ops", c, list, int64(tenant), w, slices.Contains(own, w))
		}
		for _, w := range strange {
			wantIssued(t, "few ops", c, list, int64(tenant), w, false)
		}
		for _, w := range own {
			for _, far := range []int64{1 << 32, 1 << 63 >> 1, -1 << 32, 4096, 1 << 16} {
				wantIssued(t, "far away", c, list, int64(tenant), w+far, false)
			}
		}
	}
}

// TestPeaks drops all that is held, and makes more or less of it again.
func TestPeaks(t *testing.T) {
	c := impl.Config{Half: 30, Quotas: []int64{20, 10}, Slots: []int64{3, 2}}
	object := func(size int64) impl.Op { return impl.Op{Kind: impl.OpNew, Index: size} }
	drop := func(handle int64) impl.Op { return impl.Op{Kind: impl.OpDrop, Handle: handle} }
	cases := []struct {
		name string
		list []impl.Op
		peak int64
		held int64
	}{
		{"at the first op", []impl.Op{object(7), drop(32), object(2), drop(64), object(3)}, 9, 5},
		{"at the last op", []impl.Op{object(2), drop(32), object(1), drop(64), object(7)}, 9, 9},
		{"between", []impl.Op{object(2), object(3), object(4), drop(32), drop(36), drop(40), object(1)}, 15, 3},
		{"all is dropped at the end", []impl.Op{object(2), object(3), drop(32), drop(36)}, 9, 0},
		{"again the same", []impl.Op{object(12), drop(32), object(12), drop(64), object(12)}, 14, 14},
		{"just the quota", []impl.Op{object(12), object(4), drop(32), object(0)}, 20, 8},
		{"refused above it", []impl.Op{object(12), object(5), drop(32)}, 14, 0},
		{"what was dropped is collected", []impl.Op{object(12), drop(32), object(12), drop(64), {Force: true, Kind: impl.OpUsed}}, 14, 0},
		{"nothing is made", []impl.Op{drop(32), {Kind: impl.OpUsed}}, 0, 0},
	}
	for _, x := range cases {
		n := int64(len(x.list))
		what := x.name
		if got := impl.LedgerOf(c, x.list, 0); got.Ledger.Peak != x.peak {
			t.Errorf("%s: got %+v, want the Peak %d", what, got, x.peak)
		}
		wantInts(t, what, impl.HeldAfter(c, x.list, n), impl.OK, x.held, 0)
		historyOf(c, x.list).wantHeldWithin(t, what, 1)
		// The other tenant holds something else at other times.
		other := slices.Concat([]impl.Op{{Tenant: 1, Kind: impl.OpNew, Index: 8}}, x.list, []impl.Op{{Tenant: 1, Kind: impl.OpDrop, Handle: 33}})
		if got := impl.LedgerOf(c, other, 0); got.Ledger.Peak != x.peak {
			t.Errorf("%s, among others: got %+v, want the Peak %d", what, got, x.peak)
		}
		wantLedger(t, what, impl.LedgerOf(c, other, 1), ledger(1, 0, 10, 1, 10))
		wantInts(t, what, impl.HeldAfter(c, other, n+1), impl.OK, x.held, 10)
		wantInts(t, what, impl.HeldAfter(c, other, n+2), impl.OK, x.held, 0)
	}
}

// TestWhatIsSharedIsHeldOnce counts what is reached by several ways once in what is held, and each
// handle to it once in what is given.
func TestWhatIsSharedIsHeldOnce(t *testing.T) {
	c := impl.Config{Half: 20, Quotas: []int64{12}, Slots: []int64{6}}
	list := []impl.Op{
		{Kind: impl.OpNew, Index: 3, Value: 7}, {Kind: impl.OpNew, Index: 1}, {Kind: impl.OpDup, Handle: 32}, {Kind: impl.OpDup, Handle: 40},
		{Kind: impl.OpLink, Handle: 44, To: 36}, {Kind: impl.OpLink, Handle: 32, To: 36, Index: 1}, {Kind: impl.OpLink, Handle: 40, To: 44, Index: 2},
		{Kind: impl.OpLoad, Handle: 32}, {Kind: impl.OpLoad, Handle: 32, Index: 1}, {Kind: impl.OpLoad, Handle: 32, Index: 2},
		{Kind: impl.OpDrop, Handle: 36}, {Kind: impl.OpLoad, Handle: 32, Index: 2}, {Kind: impl.OpDrop, Handle: 48}, {Kind: impl.OpLink, Handle: 44}, {Kind: impl.OpLoad, Handle: 44},
	}
	held := []int64{0, 5, 8, 8, 8, 8, 8, 8, 8, 8, 8, 8, 8, 8, 8, 8}
	given := []int64{0, 1, 2, 3, 4, 4, 4, 4, 5, 6, 6, 6, 7, 7, 7, 7}
	made := []int64{0, 1, 2}
	words := []int64{0, 5, 8}
	for n, words0 := range held {
		m := min(n, 2)
		what := fmt.Sprint("behind ", n, " ops")
		wantLedger(t, what, impl.LedgerOf(c, list[:n], 0), ledger(made[m], 0, words[m], given[n], words0))
		wantInts(t, what, impl.HeldAfter(c, list, int64(n)), impl.OK, words0)
	}
	wantInts(t, "at the end", impl.HandlesOf(impl.RunHeap(c, list).Heap, 0), impl.OK, 32, 68, 40, 44, 52)
}

// TestAccountsOfManyOps has lists of many kinds of ops.
func TestAccountsOfManyOps(t *testing.T) {
	sum, refused := impl.Ledger{}, 0
	for seed := range uint64(40) {
		r := rand.New(rand.NewPCG(21, seed))
		c := anyConfig(r)
		list := anyList(r, c, 10+r.IntN(80))
		what := fmt.Sprintf("the seed %d, %+v", seed, c)
		h := historyOf(c, list)
		h.wantAccounts(t, what, 13)
		h.wantHeldWithin(t, what, 1+len(list)/15)
		refused += h.wantRefusedUnlessIssued(t, what, 19)
		for tenant := range c.Quotas {
			l := impl.LedgerOf(c, list, int64(tenant)).Ledger
			sum = ledger(sum.Made+l.Made, sum.Refused+l.Refused, sum.Words+l.Words, sum.Given+l.Given, sum.Peak+l.Peak)
		}
	}
	// Otherwise these seeds show nothing of some kind.
	if sum.Made < 300 || sum.Refused < 100 || sum.Given < sum.Made+100 || refused < 1000 {
		t.Errorf("there was too little of something: %+v, and %d ops of words that were never issued", sum, refused)
	}
}

// wantSameAccount asks of lists in which the tenant does the same as in this one that its account is
// the same, that it is refused first at the same of its own ops, and that it was given the same handles.
func wantSameAccount(t *testing.T, what string, c impl.Config, list []impl.Op, tenant int64, lists ...[]impl.Op) {
	t.Helper()
	alone := impl.OpsFor(list, tenant).Ops
	own, first := historyOf(c, alone), impl.FirstRefused(c, alone, tenant)
	account := own.ledger(int(tenant))
	for _, other := range append(lists, list, alone) {
		wantLedger(t, what, impl.LedgerOf(c, other, tenant), account)
		got := impl.FirstRefused(c, other, tenant)
		if got.Code == impl.OK {
			got.Value = int64(len(impl.OpsFor(other[:got.Value], tenant).Ops))
		}
		wantWord(t, what+": the first of its own ops that was refused", got, first.Code, first.Value)
		wantInts(t, what, impl.HandlesOf(impl.RunHeap(c, other).Heap, tenant), impl.OK, liveHandles(own.end(int(tenant)))...)
	}
	for i, w := range own.wordsNear() {
		other := append(lists, list)[i%(len(lists)+1)]
		if i%17 == 0 || impl.IsIssued(c, alone, tenant, w) {
			wantIssued(t, what, c, other, tenant, w, own.isIssued(int(tenant), w))
		}
	}
}

// TestAnAccountHangsOnWhatATenantDoesItself has a tenant's ops alone and among ops of others, in several
// orders and with any Force.
func TestAnAccountHangsOnWhatATenantDoesItself(t *testing.T) {
	moved := 0
	for seed := range uint64(40) {
		r := rand.New(rand.NewPCG(22, seed))
		c := anyConfig(r)
		list := anyList(r, c, r.IntN(70))
		lists := otherOrders(r, c, list)
		for tenant := range int64(len(c.Quotas)) {
			wantSameAccount(t, fmt.Sprintf("the seed %d, %+v: the tenant %d", seed, c, tenant), c, list, tenant, lists...)
			if impl.FirstRefused(c, list, tenant) != impl.FirstRefused(c, lists[0], tenant) {
				moved++
			}
		}
	}
	// Otherwise these seeds show nothing of the numbers of ops in the whole list.
	if moved < 20 {
		t.Errorf("a first op that is refused stood elsewhere in another list %d times", moved)
	}
	c, list := handConfig(), opsOfRows(handRows())
	for tenant := range int64(2) {
		wantSameAccount(t, "by hand", c, list, tenant, otherOrders(rand.New(rand.NewPCG(22, 0)), c, list)...)
	}
}

// TestAnAccountAmongOpsOfItsHandles has another tenant that tries the handles of this one, and one that
// there is not.
func TestAnAccountAmongOpsOfItsHandles(t *testing.T) {
	for seed := range uint64(20) {
		r := rand.New(rand.NewPCG(25, seed))
		c := anyConfig(r)
		tenant := r.IntN(len(c.Quotas))
		own, _, _ := ownRun(r, c, tenant, r.IntN(40))
		others := slices.Concat(otherRuns(r, c, tenant, own)...)
		merged := shuffledTogether(r, own, others[:min(len(others), 60)])
		wantSameAccount(t, fmt.Sprintf("the seed %d, %+v: the tenant %d", seed, c, tenant), c, own, int64(tenant), merged, forced(merged, func(int) bool { return true }))
	}
}

// TestWhatATenantHeldWasNeverAboveItsQuota asks it behind each op of lists in which much is made.
func TestWhatATenantHeldWasNeverAboveItsQuota(t *testing.T) {
	full := 0
	for seed := range uint64(60) {
		r := rand.New(rand.NewPCG(23, seed))
		c := anyConfig(r)
		list := anyList(r, c, 1+r.IntN(60))
		historyOf(c, list).wantHeldWithin(t, fmt.Sprintf("the seed %d, %+v: %+v", seed, c, list), 1)
		for tenant, quota := range c.Quotas {
			if impl.LedgerOf(c, list, int64(tenant)).Ledger.Peak == quota {
				full++
			}
		}
	}
	// Otherwise these seeds show nothing of a quota that is just reached.
	if full < 10 {
		t.Errorf("a Peak was the quota %d times", full)
	}
	historyOf(handConfig(), opsOfRows(handRows())).wantHeldWithin(t, "by hand", 1)
}

// TestWhatLeadsToSomethingWasIssued asks it behind each op, and that all else is refused.
func TestWhatLeadsToSomethingWasIssued(t *testing.T) {
	c, list := handConfig(), opsOfRows(handRows())
	refused := 0
	for n := range len(list) + 1 {
		refused += historyOf(c, list[:n]).wantRefusedUnlessIssued(t, fmt.Sprint("behind ", n, " ops"), 1)
	}
	if refused < 1000 {
		t.Errorf("%d ops were refused", refused)
	}
	// The op of a word that was never issued stands in the list.
	h := historyOf(c, list[:12])
	for _, w := range h.wordsNear() {
		for tenant := range int64(2) {
			if impl.IsIssued(c, h.list, tenant, w) {
				continue
			}
			for _, o := range opsOfAWord(tenant, w, 0, -1) {
				longer := append(slices.Clone(h.list), o)
				replies := impl.ViewOf(c, longer, tenant).Replies
				if got := replies[len(replies)-1]; got != (impl.Reply{Code: impl.ErrHandle}) {
					t.Errorf("%+v was never issued: %+v", o, got)
				}
				wantLedger(t, fmt.Sprintf("behind %+v", o), impl.LedgerOf(c, longer, tenant), h.ledger(int(tenant)))
			}
		}
	}
}

func TestAccountsOfTheMostOps(t *testing.T) {
	c := impl.Config{Half: 30, Quotas: []int64{10, 20}, Slots: []int64{3, 8}}
	r := rand.New(rand.NewPCG(24, 1))
	list := anyList(r, c, 300)
	for _, n := range []int{299, 300} {
		most := historyOf(c, list[:n])
		most.wantAccounts(t, fmt.Sprint(n, " ops"), 40)
		most.wantHeldWithin(t, fmt.Sprint(n, " ops"), 50)
	}
	late := append(make([]impl.Op, 299), impl.Op{Kind: impl.OpNew, Index: 9})
	wantWord(t, "the last op is refused", impl.FirstRefused(c, late, 0), impl.OK, 299)
	late[299].Index = 8
	wantLedger(t, "the last op makes something", impl.LedgerOf(c, late, 0), ledger(1, 0, 10, 1, 10))
	wantIssued(t, "the last op makes something", c, late, 0, 32, true)
	for tenant := range int64(2) {
		wantNoAccount(t, "one op more", c, append(slices.Clone(late), late[0]), tenant, impl.ErrMany)
	}
}

// TestAccountsOfAnyNumbers has ops of any numbers.
func TestAccountsOfAnyNumbers(t *testing.T) {
	c := handConfig()
	ahead := []impl.Op{{Kind: impl.OpNew, Index: 2, Value: 1}, {Tenant: 1, Kind: impl.OpNew}}
	for _, kind := range append([]int64{4, 5, 6, 10, 11, 12}, strange...) {
		for _, x := range strange {
			historyOf(c, append(slices.Clone(ahead),
				impl.Op{Tenant: x, Kind: kind, Handle: 32, Force: x > 3},
				impl.Op{Kind: kind, Handle: x},
				impl.Op{Kind: kind, Handle: 32, To: x},
				impl.Op{Kind: kind, Handle: 32, Index: x, Force: true},
				impl.Op{Kind: kind, Index: x, Value: x},
				impl.Op{Kind: kind, Index: 1, Value: x},
			)).wantAccounts(t, fmt.Sprint("the kind ", kind, " and ", x), 90)
		}
	}
}

// toldAccount has what any function of this chapter answers.
type toldAccount struct {
	ledger impl.LedgerResult
	list   impl.IntsResult
	number impl.IntResult
	isSo   bool
}

func equalAccounts(a, b toldAccount) bool {
	return a.ledger == b.ledger && a.list.Code == b.list.Code && slices.Equal(a.list.List, b.list.List) && a.number == b.number && a.isSo == b.isSo
}

// accountCalls are calls of all functions of this chapter.
func accountCalls() map[string]func(v viewArguments) toldAccount {
	type call = func(v viewArguments) toldAccount
	calls := map[string]call{
		"HeldAfter all": func(v viewArguments) toldAccount {
			return toldAccount{list: impl.HeldAfter(v.config, v.a, int64(len(v.a)))}
		},
	}
	for _, n := range []int64{0, 1, 2, 3, 9, -1, 120, 301, math.MinInt64, math.MaxInt64} {
		calls[fmt.Sprint("HeldAfter ", n)] = func(v viewArguments) toldAccount { return toldAccount{list: impl.HeldAfter(v.config, v.a, n)} }
	}
	for _, n := range []int64{0, 1, 2, 3, 4, -1, math.MinInt64, math.MaxInt64} {
		of := fmt.Sprint(" of the tenant ", n)
		calls["LedgerOf"+of] = func(v viewArguments) toldAccount { return toldAccount{ledger: impl.LedgerOf(v.config, v.a, n)} }
		calls["FirstRefused"+of] = func(v viewArguments) toldAccount { return toldAccount{number: impl.FirstRefused(v.config, v.a, n)} }
		calls["HandlesOf"+of] = func(v viewArguments) toldAccount { return toldAccount{list: impl.HandlesOf(v.heap, n)} }
		for _, w := range []int64{0, 32, 33, math.MinInt64, math.MaxInt64} {
			calls[fmt.Sprint("IsIssued of ", w, of)] = func(v viewArguments) toldAccount { return toldAccount{isSo: impl.IsIssued(v.config, v.a, n, w)} }
		}
	}
	return calls
}

func TestAccountsAnswerAlikeAndChangeNoArgument(t *testing.T) {
	copied := func(told toldAccount) toldAccount {
		told.list.List = slices.Clone(told.list.List)
		return told
	}
	wantCallsAlike(t, accountCalls(), equalAccounts, copied, func(told toldAccount) { fill(told.list.List) })
}

// TestAnEmptyListIsNil has no ops, no words and no tenants in both ways.
func TestAnEmptyListIsNil(t *testing.T) {
	none := impl.Config{Half: 20, Quotas: []int64{}, Slots: []int64{}}
	for tenant := range int64(2) {
		wantNoAccount(t, "no tenants", none, []impl.Op{}, tenant, impl.ErrMany)
		wantNoAccount(t, "no tenants", impl.Config{Half: 20}, nil, tenant, impl.ErrMany)
		wantInts(t, "no tenants", impl.HandlesOf(impl.Heap{Arena: laid(8, 0), Tenants: []impl.HeapTenant{}}, tenant), impl.ErrMany)
		wantInts(t, "no tenants", impl.HandlesOf(impl.Heap{Arena: laid(8, 0)}, tenant), impl.ErrMany)
	}
	wantNoHeld(t, "no tenants", none, []impl.Op{}, impl.ErrMany)
	wantNoHeld(t, "no tenants", impl.Config{Half: 20}, nil, impl.ErrMany)
}
