package tests

import (
	"fmt"
	"math"
	"math/rand/v2"
	"testing"

	"loop.example/g00723/impl"
)

func TestArenaConstants(t *testing.T) {
	got := []int64{impl.OK, impl.ErrForm, impl.ErrMany, impl.ErrRange, impl.ErrNone, impl.ErrText, impl.ErrHandle, impl.ErrFull, impl.ErrState, impl.ErrQuota}
	for i, code := range got {
		if code != int64(i) {
			t.Errorf("the code %d is %d", i, code)
		}
	}
	if impl.MinHalf != 8 || impl.MaxHalf != 200 || impl.MaxValue != 1000000000 {
		t.Error("bounds", impl.MinHalf, impl.MaxHalf, impl.MaxValue)
	}
}

func TestArenaFaultOfRightArenas(t *testing.T) {
	for _, half := range []int64{impl.MinHalf, 9, impl.MaxHalf} {
		for _, active := range []int64{0, 1} {
			for _, bump := range []int64{0, 1, half - 1, half} {
				a := marked(half, active, bump)
				a.Words[0], a.Words[2*half-1] = impl.MaxValue, -impl.MaxValue
				if code := impl.ArenaFault(a); code != impl.OK {
					t.Errorf("half %d, active %d, bump %d: the code %d", half, active, bump, code)
				}
			}
		}
	}
}

func TestArenaFaultCodes(t *testing.T) {
	for _, f := range faultyArenas() {
		if code := impl.ArenaFault(f.arena); code != f.code {
			t.Errorf("%s: the code %d, want %d", f.name, code, f.code)
		}
	}
}

func TestNewArena(t *testing.T) {
	for half := int64(impl.MinHalf); half <= impl.MaxHalf; half++ {
		wantArena(t, fmt.Sprint("NewArena ", half), impl.NewArena(half), impl.Arena{Half: half, Words: make([]int64, 2*half)}, 0)
	}
	for _, half := range strange {
		if half < impl.MinHalf || half > impl.MaxHalf {
			wantRefusal(t, fmt.Sprint("NewArena ", half), impl.NewArena(half), impl.ErrRange)
		}
	}
}

func TestReadAt(t *testing.T) {
	a := marked(8, 1, 3)
	for at := range int64(16) {
		wantWord(t, fmt.Sprint("ReadAt ", at), impl.ReadAt(a, at), impl.OK, a.Words[at])
	}
	for _, at := range strange {
		if at < 0 || at > 15 {
			wantWord(t, fmt.Sprint("ReadAt ", at), impl.ReadAt(a, at), impl.ErrRange, 0)
		}
	}
	big := marked(impl.MaxHalf, 0, 0)
	wantWord(t, "ReadAt the last place", impl.ReadAt(big, 399), impl.OK, big.Words[399])
	wantWord(t, "ReadAt behind the last place", impl.ReadAt(big, 400), impl.ErrRange, 0)
}

func TestWriteAtIsReadAndAllElseIsAsItWas(t *testing.T) {
	for _, half := range []int64{impl.MinHalf, 9, impl.MaxHalf} {
		for _, active := range []int64{0, 1} {
			a := marked(half, active, 3)
			for at := range 2 * half {
				for _, value := range []int64{-impl.MaxValue, -1, 0, 7, impl.MaxValue} {
					got := impl.WriteAt(a, at, value)
					wantArena(t, fmt.Sprint("WriteAt ", at, value), got, withWord(a, int(at), value), 0)
					wantWord(t, fmt.Sprint("ReadAt behind WriteAt ", at), impl.ReadAt(got.Arena, at), impl.OK, value)
				}
			}
		}
	}
}

func TestWriteAtCodes(t *testing.T) {
	a := marked(8, 0, 3)
	for _, n := range strange {
		if n < 0 || n > 15 {
			wantRefusal(t, fmt.Sprint("WriteAt the place ", n), impl.WriteAt(a, n, 1), impl.ErrRange)
		}
		if n < -impl.MaxValue || n > impl.MaxValue {
			wantRefusal(t, fmt.Sprint("WriteAt the value ", n), impl.WriteAt(a, 1, n), impl.ErrRange)
		}
	}
	wantRefusal(t, "WriteAt with neither", impl.WriteAt(a, 16, impl.MaxValue+1), impl.ErrRange)
}

func TestZeroRange(t *testing.T) {
	for _, half := range []int64{impl.MinHalf, 11} {
		for _, active := range []int64{0, 1} {
			a := marked(half, active, 5)
			for from := range 2*half + 1 {
				for n := range 2*half - from + 1 {
					want := copied(a)
					for at := from; at < from+n; at++ {
						want.Words[at] = 0
					}
					wantArena(t, fmt.Sprint("ZeroRange ", from, n), impl.ZeroRange(a, from, n), want, 0)
				}
			}
		}
	}
}

func TestZeroRangeAtTheEnd(t *testing.T) {
	a := marked(8, 0, 8)
	wantArena(t, "no words behind the last place", impl.ZeroRange(a, 16, 0), a, 0)
	wantArena(t, "no words at the first place", impl.ZeroRange(a, 0, 0), a, 0)
	wantArena(t, "the last word", impl.ZeroRange(a, 15, 1), withWord(a, 15, 0), 0)
	wantArena(t, "all words", impl.ZeroRange(a, 0, 16), withWords(a, 16), 0)
	for _, r := range [][2]int64{{16, 1}, {17, 0}, {15, 2}, {0, 17}, {1, 16}, {10, 7}, {-1, 0}, {-1, 1}, {0, -1}, {16, -1}, {17, -1}} {
		wantRefusal(t, fmt.Sprint("ZeroRange ", r), impl.ZeroRange(a, r[0], r[1]), impl.ErrRange)
	}
	for _, from := range strange {
		for _, n := range strange {
			if from < 0 || n < 0 || from > 16 || n > 16-from {
				wantRefusal(t, fmt.Sprint("ZeroRange ", from, n), impl.ZeroRange(a, from, n), impl.ErrRange)
			}
		}
	}
}

func TestTakeWordsStandBehindWhatWas(t *testing.T) {
	for _, half := range []int64{impl.MinHalf, 9, impl.MaxHalf} {
		for _, active := range []int64{0, 1} {
			for bump := range half + 1 {
				a := marked(half, active, bump)
				for n := int64(1); n <= half; n++ {
					what := fmt.Sprint("TakeWords ", n, " with ", bump, " of ", half, " taken in ", active)
					if bump+n > half {
						wantRefusal(t, what, impl.TakeWords(a, n), impl.ErrFull)
						continue
					}
					want := copied(a)
					want.Bump = bump + n
					wantArena(t, what, impl.TakeWords(a, n), want, active*half+bump)
				}
			}
		}
	}
}

func TestTakeWordsCodes(t *testing.T) {
	for _, bump := range []int64{0, 5, 8} { // a number outside its bounds is asked ahead of room
		a := marked(8, 1, bump)
		for _, n := range strange {
			if n < 1 || n > 8 {
				wantRefusal(t, fmt.Sprint("TakeWords ", n, " with ", bump), impl.TakeWords(a, n), impl.ErrRange)
			}
		}
	}
	big := marked(impl.MaxHalf, 0, impl.MaxHalf)
	wantRefusal(t, "a full half", impl.TakeWords(big, 1), impl.ErrFull)
	wantRefusal(t, "a full half and as many", impl.TakeWords(big, impl.MaxHalf), impl.ErrFull)
	wantRefusal(t, "a full half and more", impl.TakeWords(big, impl.MaxHalf+1), impl.ErrRange)
}

func TestTakeWordsUpToTheEnd(t *testing.T) {
	for _, active := range []int64{0, 1} {
		a := withWords(impl.Arena{Half: 8, Active: active}, 16)
		at := 8 * active
		for _, n := range []int64{3, 1, 4} {
			got := impl.TakeWords(a, n)
			if got.Code != impl.OK || got.At != at || got.Arena.Bump != a.Bump+n {
				t.Errorf("TakeWords %d of %+v: got %+v", n, a, got)
			}
			a, at = got.Arena, at+n
		}
		wantRefusal(t, "one word more", impl.TakeWords(a, 1), impl.ErrFull)
	}
}

func TestFlipArena(t *testing.T) {
	for _, half := range []int64{impl.MinHalf, 9, impl.MaxHalf} {
		for _, active := range []int64{0, 1} {
			for _, bump := range []int64{0, 1, half - 1, half} {
				a := marked(half, active, bump)
				want := copied(a)
				want.Active, want.Bump = 1-active, 0
				clear(want.Words[active*half : (active+1)*half])
				got := impl.FlipArena(a)
				wantArena(t, fmt.Sprint("FlipArena ", half, active, bump), got, want, 0)
				wantArena(t, "flipped again", impl.FlipArena(got.Arena), withWords(impl.Arena{Half: half, Active: active}, int(2*half)), 0)
			}
		}
	}
}

func TestSameArenas(t *testing.T) {
	a := marked(8, 0, 3)
	if !impl.SameArenas(a, copied(a)) {
		t.Error("an arena and its copy are not the same")
	}
	other := []impl.Arena{withWords(a, 15), withWords(a, 17), withWords(a, 0), {Half: 9, Words: a.Words, Bump: 3}, {Half: 8, Words: a.Words, Bump: 3, Active: 1}, {Half: 8, Words: a.Words, Bump: 4}, {Half: 8, Words: a.Words[:15], Bump: 3}}
	for i := range a.Words {
		other = append(other, withWord(a, i, 1))
	}
	for _, b := range other {
		if impl.SameArenas(a, b) || impl.SameArenas(b, a) {
			t.Errorf("%+v and %+v are the same", a, b)
		}
	}
}

func TestSameArenasIsAskedOfAny(t *testing.T) {
	list := faultyArenas()
	for _, x := range list {
		for _, y := range list {
			if got := impl.SameArenas(x.arena, y.arena); got != equalArenas(x.arena, y.arena) {
				t.Errorf("%+v and %+v: %v", x.arena, y.arena, got)
			}
		}
	}
	if !impl.SameArenas(impl.Arena{}, impl.Arena{Words: []int64{}}) {
		t.Error("an empty list and nil are not the same")
	}
}

func TestTheFaultOfTheArenaIsAskedFirst(t *testing.T) {
	for _, f := range faultyArenas() {
		for _, x := range strange { // most of which have a code of their own
			for _, y := range strange {
				for _, c := range arenaCalls(x, y) {
					wantRefusal(t, fmt.Sprint(c.name, " ", x, y, " of ", f.name), c.call(f.arena), f.code)
				}
			}
			wantWord(t, fmt.Sprint("ReadAt ", x, " of ", f.name), impl.ReadAt(f.arena, x), f.code, 0)
		}
	}
}

func TestEachCallAnswersAlikeAndChangesNoArgument(t *testing.T) {
	list := []impl.Arena{marked(8, 0, 3), marked(8, 1, 8), marked(impl.MaxHalf, 1, 0)}
	for _, f := range faultyArenas() {
		list = append(list, f.arena)
	}
	for _, a := range list {
		before := copied(a)
		for _, x := range strange {
			for _, y := range strange {
				for _, c := range arenaCalls(x, y) {
					first, second := c.call(a), c.call(a)
					if first.Code != second.Code || first.At != second.At || !equalArenas(first.Arena, second.Arena) {
						t.Fatalf("%s %d %d answers %+v and then %+v", c.name, x, y, first, second)
					}
				}
			}
			if impl.ReadAt(a, x) != impl.ReadAt(a, x) {
				t.Fatalf("ReadAt %d of %+v answers two things", x, a)
			}
		}
		if impl.ArenaFault(a) != impl.ArenaFault(a) || !impl.SameArenas(a, a) || !equalArenas(a, before) {
			t.Fatalf("%+v is not what it was, %+v", a, before)
		}
	}
}

func TestAnswersShareNoMemoryWithArguments(t *testing.T) {
	for _, active := range []int64{0, 1} {
		for _, r := range [][2]int64{{2, 1}, {2, 0}, {1, 0}, {16, 0}} {
			for _, c := range arenaCalls(r[0], r[1]) {
				room := make([]int64, 20) // what stands behind an argument's words is nobody's to write
				a := marked(8, active, 3)
				copy(room, a.Words)
				for i := 16; i < 20; i++ {
					room[i] = 77
				}
				a.Words = room[:16]
				before := copied(impl.Arena{Words: room})
				got := c.call(a)
				if got.Code != impl.OK {
					continue
				}
				for i := range got.Arena.Words {
					got.Arena.Words[i] = 5555
				}
				_ = append(got.Arena.Words, 5555)
				if !equalArenas(impl.Arena{Words: room}, before) {
					t.Errorf("%s %v: what was done to the answer is seen in the argument", c.name, r)
				}
			}
		}
	}
}

func TestNewArenasShareNoMemory(t *testing.T) {
	first := impl.NewArena(8).Arena
	for i := range first.Words {
		first.Words[i] = 5
	}
	wantArena(t, "a second new arena", impl.NewArena(8), impl.Arena{Half: 8, Words: make([]int64, 16)}, 0)
}

// model is an arena told in another way: by place, with what is not there being 0.
type model struct {
	half, active, bump int64
	words              map[int64]int64
}

func (m *model) arena() impl.Arena {
	a := impl.Arena{Half: m.half, Active: m.active, Bump: m.bump, Words: make([]int64, 2*m.half)}
	for at, word := range m.words {
		a.Words[at] = word
	}
	return a
}

func (m *model) zero(from, n int64) {
	for at := from; at < from+n; at++ {
		delete(m.words, at)
	}
}

func (m *model) step(a impl.Arena, r *rand.Rand) (got impl.ArenaResult, code, at int64) {
	x, y := r.Int64N(2*m.half), r.Int64N(m.half)+1
	switch k := r.IntN(20); {
	case k < 10:
		m.words[x] = y * 1000
		return impl.WriteAt(a, x, y*1000), impl.OK, 0
	case k < 12:
		n := min(y, 2*m.half-x)
		m.zero(x, n)
		return impl.ZeroRange(a, x, n), impl.OK, 0
	case k < 18:
		n := (y + 3) / 4
		if m.bump+n > m.half {
			return impl.TakeWords(a, n), impl.ErrFull, 0
		}
		m.bump += n
		return impl.TakeWords(a, n), impl.OK, m.active*m.half + m.bump - n
	case k < 19:
		return impl.ZeroRange(a, x, 2*m.half-x+1), impl.ErrRange, 0
	}
	m.zero(m.active*m.half, m.half)
	m.active, m.bump = 1-m.active, 0
	return impl.FlipArena(a), impl.OK, 0
}

func TestManyCallsOneBehindTheOther(t *testing.T) {
	r := rand.New(rand.NewPCG(1, 2))
	for _, half := range []int64{impl.MinHalf, 13, impl.MaxHalf} {
		m := &model{half: half, words: map[int64]int64{}}
		a := impl.NewArena(half).Arena
		for range 3000 {
			got, code, at := m.step(a, r)
			if code != impl.OK {
				wantRefusal(t, "a step", got, code)
				continue
			}
			wantArena(t, "a step", got, m.arena(), at)
			if t.Failed() || impl.ArenaFault(got.Arena) != impl.OK {
				t.Fatal("the arena is not right any more", half, got)
			}
			a = got.Arena
		}
	}
}

func TestArenaFaultNeverOverflows(t *testing.T) {
	for _, half := range strange {
		for _, active := range strange {
			for _, bump := range strange {
				a := impl.Arena{Half: half, Active: active, Bump: bump, Words: make([]int64, 16)}
				want := int64(impl.ErrRange)
				if half >= impl.MinHalf && half <= impl.MaxHalf && (active == 0 || active == 1) && bump >= 0 && bump <= half {
					want = impl.ErrMany
					if half == 8 {
						want = impl.OK
					}
				}
				if code := impl.ArenaFault(a); code != want {
					t.Errorf("ArenaFault %d %d %d: the code %d, want %d", half, active, bump, code, want)
				}
			}
		}
	}
	if code := impl.ArenaFault(impl.Arena{Half: math.MinInt64}); code != impl.ErrRange {
		t.Error("a Half whose double is 0 again:", code)
	}
}
