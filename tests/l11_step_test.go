package tests

import (
	"fmt"
	"math"
	"math/rand/v2"
	"slices"
	"testing"

	"loop.example/g00723/impl"
)

// noStepCounts are no numbers of steps.
var noStepCounts = []int64{-1, 501, 502, -500, 1 << 32, 1<<32 + 1, -1 << 32, math.MinInt64, math.MinInt64 + 1, math.MaxInt64, math.MaxInt64 - 1}

// copyingCase is a copying written by hand: what is taken of the half in use at first, and what there
// is behind each number of steps from 0 on.
type copyingCase struct {
	name         string
	half, active int64
	objects      []impl.Object
	roots        []int64
	behind       []stepWords
	now          []int64
}

// stepWords are the words that were taken of the half in use, those of the other one ahead of Free,
// and how many of these are ahead of Scan.
type stepWords struct {
	taken, free []int64
	scanned     int64
	ways        pairs
	grey, black []int64
}

func (c copyingCase) arena() impl.Arena {
	return laid(c.half, c.active, c.objects...)
}

func (c copyingCase) other() int64 {
	return (1 - c.active) * c.half
}

func (c copyingCase) moment(n int) moment {
	s := c.behind[min(n, len(c.behind)-1)]
	words := make([]int64, 2*c.half)
	copy(words[c.active*c.half:], s.taken)
	copy(words[c.other():], s.free)
	return moment{
		copied: impl.CopyResult{
			Words: words,
			Next:  int64(min(n, len(c.roots))),
			Scan:  c.other() + s.scanned,
			Free:  c.other() + int64(len(s.free)),
			Done:  n >= len(c.behind)-1,
		},
		ways: s.ways.ways(), grey: s.grey, black: s.black,
	}
}

// pairs are ways, each by the places From and To.
type pairs [][2]int64

func (p pairs) ways() []impl.Way {
	var list []impl.Way
	for _, w := range p {
		list = append(list, impl.Way{From: w[0], To: w[1]})
	}
	return list
}

func copyingCases() []copyingCase {
	plain := []impl.Object{made(0, 0, 5), made(0, 0, 7, 4)}
	twelve := made(3, 4095, 0, 17, 19, 0, 17, 0, 0, 0, 0, 0, 0, 19, 17)
	twelveWords := []int64{524281, 0, 17, 19, 0, 17, 0, 0, 0, 0, 0, 0, 19, 17}
	twelveThere := []int64{524281, 0, 15, 1, 0, 15, 0, 0, 0, 0, 0, 0, 1, 15, 393217, 99999}
	return []copyingCase{
		{"nothing is taken", 8, 1, nil, nil, []stepWords{{}}, nil},
		{"no roots", 8, 0, []impl.Object{made(0, 1, 6, 1)}, nil, []stepWords{{taken: []int64{35, 6, 1}}}, nil},
		{"one that leads to itself by one field", 8, 0, []impl.Object{made(0, 1, 6, 1)}, []int64{0}, []stepWords{
			{taken: []int64{35, 6, 1}},
			{[]int64{18, 6, 1}, []int64{35, 6, 1}, 0, pairs{{0, 8}}, []int64{8}, nil},
			{[]int64{18, 6, 1}, []int64{35, 6, 9}, 3, pairs{{0, 8}}, nil, []int64{8}},
		}, []int64{8}},
		{"one that leads to itself by several fields, twice a root", 8, 1, []impl.Object{made(0, 11, 3, 9, 9, 9, 9)}, []int64{8, 8}, []stepWords{
			{taken: []int64{361, 3, 9, 9, 9, 9}},
			{[]int64{2, 3, 9, 9, 9, 9}, []int64{361, 3, 9, 9, 9, 9}, 0, pairs{{8, 0}}, []int64{0}, nil},
			{[]int64{2, 3, 9, 9, 9, 9}, []int64{361, 3, 9, 9, 9, 9}, 0, pairs{{8, 0}}, []int64{0}, nil},
			{[]int64{2, 3, 9, 9, 9, 9}, []int64{361, 3, 1, 1, 9, 1}, 6, pairs{{8, 0}}, nil, []int64{0}},
		}, []int64{0, 0}},
		{"the last one, the first one and the last one again are roots", 8, 0, plain, []int64{2, 0, 2}, []stepWords{
			{taken: []int64{1, 5, 3, 7, 4}},
			{[]int64{1, 5, 18, 7, 4}, []int64{3, 7, 4}, 0, pairs{{2, 8}}, []int64{8}, nil},
			{[]int64{24, 5, 18, 7, 4}, []int64{3, 7, 4, 1, 5}, 0, pairs{{0, 11}, {2, 8}}, []int64{8, 11}, nil},
			{[]int64{24, 5, 18, 7, 4}, []int64{3, 7, 4, 1, 5}, 0, pairs{{0, 11}, {2, 8}}, []int64{8, 11}, nil},
			{[]int64{24, 5, 18, 7, 4}, []int64{3, 7, 4, 1, 5}, 3, pairs{{0, 11}, {2, 8}}, []int64{11}, []int64{8}},
			{[]int64{24, 5, 18, 7, 4}, []int64{3, 7, 4, 1, 5}, 5, pairs{{0, 11}, {2, 8}}, nil, []int64{8, 11}},
		}, []int64{8, 11, 8}},
		{"a ring of two", 8, 1, []impl.Object{made(2, 1, 1, 12), made(2, 1, 2, 9)}, []int64{11}, []stepWords{
			{taken: []int64{262179, 1, 12, 262179, 2, 9}},
			{[]int64{262179, 1, 12, 2, 2, 9}, []int64{262179, 2, 9}, 0, pairs{{11, 0}}, []int64{0}, nil},
			{[]int64{8, 1, 12, 2, 2, 9}, []int64{262179, 2, 4, 262179, 1, 12}, 3, pairs{{8, 3}, {11, 0}}, []int64{3}, []int64{0}},
			{[]int64{8, 1, 12, 2, 2, 9}, []int64{262179, 2, 4, 262179, 1, 1}, 6, pairs{{8, 3}, {11, 0}}, nil, []int64{0, 3}},
		}, []int64{0}},
		{"a ring of three, with garbage between", 12, 0, []impl.Object{made(0, 1, 1, 6), made(0, 0, 9), made(0, 1, 2, 9), made(0, 1, 3, 1)}, []int64{5}, []stepWords{
			{taken: []int64{35, 1, 6, 1, 9, 35, 2, 9, 35, 3, 1}},
			{[]int64{35, 1, 6, 1, 9, 26, 2, 9, 35, 3, 1}, []int64{35, 2, 9}, 0, pairs{{5, 12}}, []int64{12}, nil},
			{[]int64{35, 1, 6, 1, 9, 26, 2, 9, 32, 3, 1}, []int64{35, 2, 16, 35, 3, 1}, 3, pairs{{5, 12}, {8, 15}}, []int64{15}, []int64{12}},
			{[]int64{38, 1, 6, 1, 9, 26, 2, 9, 32, 3, 1}, []int64{35, 2, 16, 35, 3, 19, 35, 1, 6}, 6, pairs{{0, 18}, {5, 12}, {8, 15}}, []int64{18}, []int64{12, 15}},
			{[]int64{38, 1, 6, 1, 9, 26, 2, 9, 32, 3, 1}, []int64{35, 2, 16, 35, 3, 19, 35, 1, 13}, 9, pairs{{0, 18}, {5, 12}, {8, 15}}, nil, []int64{12, 15, 18}},
		}, []int64{12}},
		// Hashes and plain fields have the words that forward words and pointers would have.
		{"two that are reached by several ways, and a pointer of 0", 14, 0, []impl.Object{made(1, 11, 2, 7, 0, 7, 7), made(1, 1, 30, 1, 30)}, []int64{0, 6}, []stepWords{
			{taken: []int64{131433, 2, 7, 0, 7, 7, 131109, 30, 1, 30}},
			{[]int64{30, 2, 7, 0, 7, 7, 131109, 30, 1, 30}, []int64{131433, 2, 7, 0, 7, 7}, 0, pairs{{0, 14}}, []int64{14}, nil},
			{[]int64{30, 2, 7, 0, 7, 7, 42, 30, 1, 30}, []int64{131433, 2, 7, 0, 7, 7, 131109, 30, 1, 30}, 0, pairs{{0, 14}, {6, 20}}, []int64{14, 20}, nil},
			{[]int64{30, 2, 7, 0, 7, 7, 42, 30, 1, 30}, []int64{131433, 2, 21, 0, 7, 21, 131109, 30, 1, 30}, 6, pairs{{0, 14}, {6, 20}}, []int64{20}, []int64{14}},
			{[]int64{30, 2, 7, 0, 7, 7, 42, 30, 1, 30}, []int64{131433, 2, 21, 0, 7, 21, 131109, 30, 15, 30}, 10, pairs{{0, 14}, {6, 20}}, nil, []int64{14, 20}},
		}, []int64{14, 20}},
		{"one of 12 fields and one of none, which fill the half", 16, 1, []impl.Object{made(3, 0, 99999), twelve}, []int64{18}, []stepWords{
			{taken: slices.Concat([]int64{393217, 99999}, twelveWords)},
			{slices.Concat([]int64{393217, 99999, 2}, twelveWords[1:]), twelveWords, 0, pairs{{18, 0}}, []int64{0}, nil},
			{slices.Concat([]int64{30, 99999, 2}, twelveWords[1:]), twelveThere, 14, pairs{{16, 14}, {18, 0}}, []int64{14}, []int64{0}},
			{slices.Concat([]int64{30, 99999, 2}, twelveWords[1:]), twelveThere, 16, pairs{{16, 14}, {18, 0}}, nil, []int64{0, 14}},
		}, []int64{0}},
	}
}

func TestStepsByHand(t *testing.T) {
	for _, c := range copyingCases() {
		a, last := c.arena(), len(c.behind)-1
		for _, n := range stepsToLookAt(last) {
			wantMoment(t, c.name, a, c.roots, n, c.moment(int(n)))
		}
		wantWord(t, c.name+": CopySteps", impl.CopySteps(a, c.roots), impl.OK, int64(last))
		end := impl.Arena{Half: c.half, Words: make([]int64, 2*c.half), Active: 1 - c.active, Bump: int64(len(c.behind[last].free))}
		copy(end.Words[c.other():], c.behind[last].free)
		wantCollected(t, c.name+": FinishCopy", impl.FinishCopy(a, c.roots), end, c.now)
		wantPromised(t, c.name, a, c.roots)
	}
}

func TestStepsOfGraphs(t *testing.T) {
	inBothHalves(func(g graph, half, active int64) {
		roots := g.places(half*active, g.roots)
		checkSteps(t, linked(half*active, g.objects...), half, active, roots)
		wantPromised(t, fmt.Sprint(g.name, ", half ", half, " active ", active), g.in(half, active), roots)
	})
}

// TestFinishCopyOfGraphs holds an arena against one in which nothing but what is reached was ever
// laid.
func TestFinishCopyOfGraphs(t *testing.T) {
	inBothHalves(func(g graph, half, active int64) {
		what := fmt.Sprint(g.name, ", half ", half, " active ", active)
		a, live := g.in(half, active), g.live()
		got := impl.FinishCopy(a, g.places(active*half, g.roots))
		other := (1 - active) * half
		wantCollected(t, what, got, live.in(half, 1-active), live.places(other, live.roots))
		again := impl.FinishCopy(got.Arena, got.Roots)
		wantCollected(t, what+", once more", again, live.in(half, active), live.places(active*half, live.roots))
		wantCollected(t, what+", without roots", impl.FinishCopy(a, nil), laid(half, 1-active), nil)
	})
}

func TestStepsOfSmallGraphs(t *testing.T) {
	for _, active := range []int64{0, 1} {
		smallGraphs([]int{2, 1}, func(g graph) {
			base := 8 * active
			roots := g.places(base, g.roots)
			for _, more := range [][]int64{nil, roots, {base, base}} {
				all := slices.Concat(roots, more)
				checkSteps(t, linked(base, g.objects...), 8, active, all)
				wantPromised(t, fmt.Sprintf("%+v from %v", g.in(8, active), all), g.in(8, active), all)
			}
		})
		smallGraphs([]int{1, 1, 1}, func(g graph) {
			checkSteps(t, linked(9*active, g.objects...), 9, active, g.places(9*active, g.roots))
		})
	}
}

func TestStepsOfManyObjects(t *testing.T) {
	longest := 0
	for seed := range uint64(120) {
		r := rand.New(rand.NewPCG(11, seed))
		half, active := 14+r.Int64N(187), r.Int64N(2)
		objects := manyObjects(r, half*active, half)
		for _, most := range []int{2, 60} {
			roots := manyRoots(r, objects, most)
			longest = max(longest, len(roots)+len(modelReach(objects, roots)))
			checkSteps(t, objects, half, active, roots)
			wantPromised(t, fmt.Sprintf("the seed %d, from %v", seed, roots), laid(half, active, objects...), roots)
		}
	}
	if longest < 80 {
		t.Error("these seeds have no long copying, but at most so many steps:", longest)
	}
}

// TestTheLongestCopying has 60 roots, and as many objects that these lead to as there is room for: a
// root takes two words at least, and one that is none two and the pointer that leads to it.
func TestTheLongestCopying(t *testing.T) {
	for _, active := range []int64{0, 1} {
		base := 200 * active
		var longest []impl.Object
		for i := range int64(26) {
			longest = append(longest, made(1, 1, i, 61+i))
		}
		for i := range int64(61) {
			longest = append(longest, made(1, 0, 30+i))
		}
		objects := linked(base, longest...)
		a := laid(200, active, objects...)
		if a.Bump != 200 {
			t.Fatal("the half is not just full, but has", a.Bump)
		}
		var roots []int64
		for _, o := range objects[:60] {
			roots = append(roots, o.At)
		}
		slices.Reverse(roots)
		checkSteps(t, objects, 200, active, roots)
		wantWord(t, "the longest copying", impl.CopySteps(a, roots), impl.OK, 60+86)
		wantPromised(t, "the longest copying", a, roots)

		same := slices.Repeat([]int64{objects[3].At}, 60)
		checkSteps(t, objects, 200, active, same)
		wantWord(t, "60 times the same root", impl.CopySteps(a, same), impl.OK, 60+2)
		around := linked(base, chain(66, 1)...)
		same = slices.Repeat([]int64{around[0].At}, 60)
		checkSteps(t, around, 200, active, same)
		wantWord(t, "60 times the first one of a chain", impl.CopySteps(laid(200, active, around...), same), impl.OK, 60+66)
	}
}

// TestCopyingsOfHeaps takes arenas and roots from heaps in which tenants did whatever they liked.
func TestCopyingsOfHeaps(t *testing.T) {
	moved := int64(0)
	for seed := range uint64(25) {
		r := rand.New(rand.NewPCG(31, seed))
		h := impl.NewHeap(anyConfig(r)).Heap
		for range 40 {
			h = impl.DoHeap(h, anyHeapOp(r, h, r.IntN(12) == 0)).Heap
		}
		what, roots := fmt.Sprint("the heap of the seed ", seed), impl.RootsOf(h).List
		wantPromised(t, what, h.Arena, roots)
		got, want := impl.FinishCopy(h.Arena, roots), impl.CollectHeap(h)
		if !equalArenas(got.Arena, want.Heap.Arena) || !slices.Equal(want.Collected, []int64{got.Moved}) {
			t.Errorf("%s: got %+v, want %+v", what, got, want)
		}
		moved += got.Moved
	}
	if moved < 200 {
		t.Error("these heaps hold too little for a test:", moved)
	}
}

func TestShapeFaultIsAskedAheadOfACopying(t *testing.T) {
	for _, f := range faultyShapes() {
		base := f.arena.Active * f.arena.Half
		what := fmt.Sprintf("%s (active %d)", f.name, f.arena.Active)
		for _, roots := range [][]int64{nil, {base}, {base, base + 5}, {-1}, {math.MaxInt64, math.MinInt64}, make([]int64, 61)} {
			wantCopyingRefused(t, what, f.arena, roots, f.code)
		}
	}
}

func TestTooManyRootsOfACopying(t *testing.T) {
	for _, active := range []int64{0, 1} {
		base := 200 * active
		objects := linked(base, chain(66, 1)...)
		a := laid(200, active, objects...)
		var roots []int64
		for _, o := range objects {
			roots = append(roots, o.At)
		}
		for _, n := range []int{59, 60} {
			checkSteps(t, objects, 200, active, roots[:n])
			checkSteps(t, objects, 200, active, roots[66-n:])
		}
		wantCopyingRefused(t, "61 roots", a, roots[:61], impl.ErrMany)
		wantCopyingRefused(t, "66 roots", a, roots, impl.ErrMany)
		wantCopyingRefused(t, "61 times the same root", a, slices.Repeat([]int64{base}, 61), impl.ErrMany)
		wantCopyingRefused(t, "very many roots", a, slices.Repeat([]int64{base}, 5000), impl.ErrMany)
		wantCopyingRefused(t, "61 roots, of which one is none", a, append(slices.Clone(roots[:60]), base+1), impl.ErrMany)
		wantCopyingRefused(t, "61 roots that are none", a, slices.Repeat([]int64{-1}, 61), impl.ErrMany)
		wantCopyingRefused(t, "60 roots, of which one is none", a, append(slices.Clone(roots[:59]), base+1), impl.ErrNone)
		wantCopyingRefused(t, "61 roots, and nothing is taken", laid(8, active), make([]int64, 61), impl.ErrMany)
	}
}

func TestRootsOfACopyingThatAreNone(t *testing.T) {
	for _, active := range []int64{0, 1} {
		for _, half := range []int64{28, 31} {
			a, base := mixedArena(half, active), active*half
			places := slices.Clone(strange)
			for at := int64(-3); at < 2*half+3; at++ {
				places = append(places, at)
			}
			for _, at := range places {
				what := fmt.Sprint("half ", half, " active ", active, " the root ", at)
				if slices.Contains(mixedPlaces, at-base) {
					checkSteps(t, mixed(base), half, active, []int64{at})
					continue
				}
				for _, roots := range [][]int64{{at}, {at, base}, {base, base, base + 14, at}, append(slices.Repeat([]int64{base + 5}, 59), at)} {
					wantCopyingRefused(t, what, a, roots, impl.ErrNone)
				}
			}
			wantCopyingRefused(t, "nothing is taken", laid(half, active), []int64{base}, impl.ErrNone)
		}
	}
}

func TestNumbersOfStepsThatAreNone(t *testing.T) {
	for _, c := range copyingCases() {
		for _, n := range noStepCounts {
			wantStepsRefused(t, c.name, c.arena(), c.roots, n, impl.ErrRange)
		}
		for _, n := range strange {
			if n < 0 || n > 500 {
				wantStepsRefused(t, c.name, c.arena(), c.roots, n, impl.ErrRange)
				continue
			}
			wantMoment(t, c.name, c.arena(), c.roots, n, c.moment(int(n)))
		}
	}
	for n := int64(-20); n < 530; n++ {
		if got := impl.CopyAfter(laid(8, 0), nil, n); (got.Code == impl.OK) != (n >= 0 && n <= 500) || got.Done != (got.Code == impl.OK) {
			t.Errorf("%d steps: got %+v", n, got)
		}
	}
}

// unlikeCopies are all unlike each other, most of them by one field from the first one.
func unlikeCopies() []impl.CopyResult {
	list := []impl.CopyResult{{Words: []int64{4, 5, 6}, Next: 1, Scan: 2, Free: 3}}
	for _, change := range []func(c *impl.CopyResult){
		func(c *impl.CopyResult) { c.Done = true },
		func(c *impl.CopyResult) { c.Code = impl.ErrRange },
		func(c *impl.CopyResult) { c.Next++ },
		func(c *impl.CopyResult) { c.Scan++ },
		func(c *impl.CopyResult) { c.Free++ },
		func(c *impl.CopyResult) { c.Words[0]++ },
		func(c *impl.CopyResult) { c.Words[1] = -5 },
		func(c *impl.CopyResult) { c.Words[2]-- },
		func(c *impl.CopyResult) { c.Words = c.Words[:2] },
		func(c *impl.CopyResult) { c.Words = c.Words[1:] },
		func(c *impl.CopyResult) { c.Words = append(c.Words, 0) },
		func(c *impl.CopyResult) { c.Words = []int64{5, 4, 6} },
		func(c *impl.CopyResult) { c.Words = nil },
		func(c *impl.CopyResult) { c.Words = []int64{0, 0, 0} },
		func(c *impl.CopyResult) { c.Next, c.Scan = c.Scan, c.Next },
		func(c *impl.CopyResult) { c.Scan, c.Free = c.Free, c.Scan },
		func(c *impl.CopyResult) { c.Code, c.Next = c.Next, c.Code },
		func(c *impl.CopyResult) { c.Code = math.MinInt64 },
		func(c *impl.CopyResult) { c.Next = math.MaxInt64 },
		func(c *impl.CopyResult) { c.Scan = -2 },
		func(c *impl.CopyResult) { c.Free = 1<<32 + 3 },
		func(c *impl.CopyResult) { c.Words[0] = 1<<32 + 4 },
		func(c *impl.CopyResult) { *c = impl.CopyResult{} },
		func(c *impl.CopyResult) { *c = impl.CopyResult{Done: true} },
		func(c *impl.CopyResult) { *c = impl.CopyResult{Words: []int64{0}} },
	} {
		c := list[0]
		c.Words = slices.Clone(c.Words)
		change(&c)
		list = append(list, c)
	}
	for _, c := range copyingCases() {
		for n := range c.behind {
			list = append(list, impl.CopyAfter(c.arena(), c.roots, int64(n)))
		}
	}
	return list
}

func TestSameCopies(t *testing.T) {
	list, again := unlikeCopies(), unlikeCopies()
	for i, a := range list {
		for j, b := range again {
			if got := impl.SameCopies(a, b); got != (i == j) {
				t.Errorf("%+v and %+v: %v", a, b, got)
			}
		}
		roomy := a
		roomy.Words = slices.Grow(slices.Clone(a.Words), 9)
		if !impl.SameCopies(a, roomy) || !impl.SameCopies(a, a) {
			t.Errorf("%+v is not the same as itself", a)
		}
		if !equalCopies(a, again[i]) {
			t.Errorf("%+v was turned into %+v", again[i], a)
		}
	}
	none, empty := impl.CopyResult{Next: 2}, impl.CopyResult{Next: 2, Words: []int64{}}
	if !impl.SameCopies(none, empty) || !impl.SameCopies(empty, none) {
		t.Error("nil and an empty list are not the same")
	}
}

// stepsTold has what any function of this chapter answers.
type stepsTold struct {
	copied impl.CopyResult
	steps  impl.IntResult
	ways   impl.WaysResult
	places impl.IntsResult
	end    impl.CollectResult
}

func equalStepsTold(a, b stepsTold) bool {
	return equalCopies(a.copied, b.copied) && a.steps == b.steps &&
		a.ways.Code == b.ways.Code && slices.Equal(a.ways.Ways, b.ways.Ways) &&
		a.places.Code == b.places.Code && slices.Equal(a.places.List, b.places.List) &&
		a.end.Code == b.end.Code && a.end.Moved == b.end.Moved && equalArenas(a.end.Arena, b.end.Arena) && slices.Equal(a.end.Roots, b.end.Roots)
}

func copiedStepsTold(a stepsTold) stepsTold {
	a.copied.Words = slices.Clone(a.copied.Words)
	a.ways.Ways = slices.Clone(a.ways.Ways)
	a.places.List = slices.Clone(a.places.List)
	a.end.Arena, a.end.Roots = copied(a.end.Arena), slices.Clone(a.end.Roots)
	return a
}

// spoilStepsTold writes on all lists of an answer and behind them.
func spoilStepsTold(a stepsTold) {
	fill(a.copied.Words)
	fill(a.places.List)
	fill(a.end.Arena.Words)
	fill(a.end.Roots)
	ways := a.ways.Ways[:cap(a.ways.Ways)]
	for i := range ways {
		ways[i] = impl.Way{From: 55, To: 55}
	}
}

// stepCalls are calls of all functions of this chapter that are asked of an arena.
func stepCalls(n int64) map[string]func(a impl.Arena, roots []int64) stepsTold {
	type call = func(a impl.Arena, roots []int64) stepsTold
	return map[string]call{
		"CopyAfter":  func(a impl.Arena, roots []int64) stepsTold { return stepsTold{copied: impl.CopyAfter(a, roots, n)} },
		"CopySteps":  func(a impl.Arena, roots []int64) stepsTold { return stepsTold{steps: impl.CopySteps(a, roots)} },
		"WaysAfter":  func(a impl.Arena, roots []int64) stepsTold { return stepsTold{ways: impl.WaysAfter(a, roots, n)} },
		"GreyAfter":  func(a impl.Arena, roots []int64) stepsTold { return stepsTold{places: impl.GreyAfter(a, roots, n)} },
		"BlackAfter": func(a impl.Arena, roots []int64) stepsTold { return stepsTold{places: impl.BlackAfter(a, roots, n)} },
		"FinishCopy": func(a impl.Arena, roots []int64) stepsTold { return stepsTold{end: impl.FinishCopy(a, roots)} },
	}
}

// wantOwnSteps asks that two answers are alike, that what is done to the one is not seen in the
// other, and that no argument is turned, nor what is behind it.
func wantOwnSteps(t *testing.T, a impl.Arena, roots []int64, n int64) {
	t.Helper()
	a.Words, roots = slices.Grow(slices.Clone(a.Words), 50), slices.Grow(slices.Clone(roots), 50)
	words, places := allOf(a.Words), allOf(roots)
	for name, call := range stepCalls(n) {
		first, second := call(a, roots), call(a, roots)
		if !equalStepsTold(first, second) {
			t.Errorf("%s, %d steps of %+v from %v answers %+v and then %+v", name, n, a, roots, first, second)
		}
		want := copiedStepsTold(second)
		spoilStepsTold(first)
		if !equalStepsTold(second, want) || !equalStepsTold(call(a, roots), want) {
			t.Errorf("%s, %d steps of %+v from %v: what was done to an answer is seen in another one", name, n, a, roots)
		}
		if !slices.Equal(allOf(a.Words), words) || !slices.Equal(allOf(roots), places) {
			t.Fatalf("%s, %d steps, turned %v or %v", name, n, words, places)
		}
	}
}

func TestStepsAnswerAlikeAndChangeNoArgument(t *testing.T) {
	arenas := []impl.Arena{mixedArena(28, 0), mixedArena(43, 1), laid(8, 1), marked(8, 1, 4)}
	for _, f := range faultyShapes() {
		arenas = append(arenas, f.arena)
	}
	lists := [][]int64{nil, {}, {0, 5, 0}, {43, 50, 57}, {43, 44}, {28, 28, 33}, make([]int64, 61), {math.MinInt64}, {math.MaxInt64}}
	for _, a := range arenas {
		for _, roots := range lists {
			for _, n := range []int64{0, 2, 4, 500, 501, -1, math.MinInt64, math.MaxInt64} {
				wantOwnSteps(t, a, roots, n)
			}
		}
	}
	for _, c := range copyingCases() {
		for n := range c.behind {
			wantOwnSteps(t, c.arena(), c.roots, int64(n))
		}
	}
}

// TestListsOfOneEndShareNoMemory writes on one list of an answer, and looks at the other one.
func TestListsOfOneEndShareNoMemory(t *testing.T) {
	for _, c := range copyingCases() {
		end, again := impl.FinishCopy(c.arena(), c.roots), impl.FinishCopy(c.arena(), c.roots)
		roots, words := slices.Clone(end.Roots), slices.Clone(again.Arena.Words)
		fill(end.Arena.Words)
		fill(again.Roots)
		if !slices.Equal(end.Roots, roots) || !slices.Equal(again.Arena.Words, words) {
			t.Errorf("%s: the words of the end and its roots share memory", c.name)
		}
	}
}

// TestOneCopyingIsKeptFromAnother asks one by one of all of them, and then once more backwards.
func TestOneCopyingIsKeptFromAnother(t *testing.T) {
	var want []stepsTold
	cases := copyingCases()
	ask := func(c copyingCase, name string, n int64) stepsTold {
		return stepCalls(n)[name](c.arena(), c.roots)
	}
	names := []string{"CopyAfter", "CopySteps", "WaysAfter", "GreyAfter", "BlackAfter", "FinishCopy"}
	for _, c := range cases {
		for _, name := range names {
			for n := range int64(7) {
				want = append(want, ask(c, name, n))
			}
		}
	}
	for i := len(want) - 1; i >= 0; i-- {
		c, name, n := cases[i/7/len(names)], names[i/7%len(names)], int64(i%7)
		if got := ask(c, name, n); !equalStepsTold(got, want[i]) {
			t.Errorf("%s, %s, %d steps: got %+v, and %+v at first", c.name, name, n, got, want[i])
		}
	}
}
