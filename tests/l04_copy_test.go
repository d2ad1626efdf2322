package tests

import (
	"fmt"
	"math"
	"math/rand/v2"
	"slices"
	"testing"

	"loop.example/g00723/impl"
)

func TestReachFrom(t *testing.T) {
	inBothHalves(func(g graph, half, active int64) {
		what := fmt.Sprint(g.name, ", half ", half, " active ", active)
		a, base := g.in(half, active), active*half
		roots := g.places(base, g.roots)
		wantInts(t, what+": ReachFrom", impl.ReachFrom(a, roots), impl.OK, g.places(base, g.reached)...)
		wantInts(t, what+": GarbageIn", impl.GarbageIn(a, roots), impl.OK, g.places(base, g.garbage())...)
		wantWord(t, what+": LiveWords", impl.LiveWords(a, roots), impl.OK, g.live().words())
	})
}

// TestCollect holds an arena against one in which nothing but what is reached was ever laid.
func TestCollect(t *testing.T) {
	inBothHalves(func(g graph, half, active int64) {
		what := fmt.Sprint(g.name, ", half ", half, " active ", active)
		a, base, live := g.in(half, active), active*half, g.live()
		roots := g.places(base, g.roots)
		other := (1 - active) * half
		got := impl.Collect(a, roots)
		wantCollected(t, what, got, live.in(half, 1-active), live.places(other, live.roots))
		wantAlike(t, what, a, roots, got.Arena, got.Roots, true)
		wantInts(t, what+": what is reached then", impl.ReachFrom(got.Arena, got.Roots), impl.OK, live.places(other, live.reached)...)
		wantInts(t, what+": garbage then", impl.GarbageIn(got.Arena, got.Roots), impl.OK)
		again := impl.Collect(got.Arena, got.Roots)
		wantCollected(t, what+", once more", again, live.in(half, active), live.places(base, live.roots))
		wantCollected(t, what+", without roots", impl.Collect(a, nil), laid(half, 1-active), nil)
	})
}

func TestAHalfThatIsJustFullAndAllOfItReached(t *testing.T) {
	for _, active := range []int64{0, 1} {
		base, other := 28*active, 28*(1-active)
		a := mixedArena(28, active)
		roots := []int64{base, base + 5, base + 7, base + 14, base}
		wantInts(t, "ReachFrom", impl.ReachFrom(a, roots), impl.OK, base, base+5, base+7, base+14, base+10)
		wantInts(t, "GarbageIn", impl.GarbageIn(a, roots), impl.OK)
		wantWord(t, "LiveWords", impl.LiveWords(a, roots), impl.OK, 28)
		twelve := make([]int64, 12)
		twelve[0], twelve[11] = 4, 4
		left := linked(other, made(0, 5, 7, 1, -impl.MaxValue, 5), made(1, 0, 99999), made(1, 1, 0, 2), made(3, 4095, 9, twelve...), made(0, 2, 8, impl.MaxValue, 1))
		wantCollected(t, fmt.Sprint("active ", active), impl.Collect(a, roots), laid(28, 1-active, left...), []int64{other, other + 5, other + 7, other + 10, other})

		least := laid(8, active, linked(8*active, made(3, 63, 4, 1, 0, 1, 1, 0, 1))...)
		there := laid(8, 1-active, linked(8*(1-active), made(3, 63, 4, 1, 0, 1, 1, 0, 1))...)
		wantCollected(t, "the least half", impl.Collect(least, []int64{8 * active}), there, []int64{8 * (1 - active)})

		whole := graph{objects: append(chain(64, 1), made(1, 1, 5, 66), made(1, 0, 6, 1)), roots: []int{64, 0}}
		whole.objects = append(whole.objects, made(0, 0, 7))
		whole.roots = append(whole.roots, 66)
		whole.reached = append([]int{64, 0, 66, 65}, numbersTo(64)[1:]...)
		full := whole.in(200, active)
		if full.Bump != 200 {
			t.Fatal("the greatest half is not just full but has", full.Bump)
		}
		got := impl.Collect(full, whole.places(200*active, whole.roots))
		wantCollected(t, "the greatest half", got, whole.live().in(200, 1-active), whole.live().places(200*(1-active), []int{0, 1, 2}))
	}
}

// TestPlainFieldsLeadNowhere gives plain fields the words that pointers would have.
func TestPlainFieldsLeadNowhere(t *testing.T) {
	for _, active := range []int64{0, 1} {
		base, other := 30*active, 30*(1-active)
		for word := int64(-2); word < 63; word++ {
			a := laid(30, active, placed(base, made(0, 0, 1, word), made(0, 2, 2, word, base+1), made(0, 0, 3))...)
			what := fmt.Sprint("active ", active, " word ", word)
			wantInts(t, what, impl.ReachFrom(a, []int64{base}), impl.OK, base)
			wantInts(t, what, impl.GarbageIn(a, []int64{base + 3}), impl.OK, base+7)
			want := laid(30, 1-active, placed(other, made(0, 2, 2, word, other+4+1), made(0, 0, 1, word))...)
			wantCollected(t, what, impl.Collect(a, []int64{base + 3}), want, []int64{other})
		}
	}
}

func TestMaxRoots(t *testing.T) {
	for _, active := range []int64{0, 1} {
		base := 200 * active
		g := graph{objects: chain(66, 0)}
		a := g.in(200, active)
		for _, n := range []int{58, 59, 60} {
			g.roots, g.reached = backwards(numbersTo(n)), backwards(numbersTo(n))
			roots := g.places(base, g.roots)
			what := fmt.Sprint("active ", active, ", ", n, " roots")
			wantInts(t, what, impl.ReachFrom(a, roots), impl.OK, roots...)
			wantWord(t, what, impl.LiveWords(a, roots), impl.OK, int64(3*n))
			wantInts(t, what, impl.GarbageIn(a, roots), impl.OK, g.places(base, g.garbage())...)
			wantCollected(t, what, impl.Collect(a, roots), g.live().in(200, 1-active), g.places(200-base, numbersTo(n)))
			wantAlike(t, what, a, roots, a, roots, true)
		}
		same := slices.Repeat([]int64{base + 9}, 61)
		wantInts(t, "60 times the same root", impl.ReachFrom(a, same[:60]), impl.OK, base+9)
		wantAlike(t, "60 times the same root", a, same[:60], a, slices.Repeat([]int64{base + 9}, 60), true)
		wantRootsRefused(t, "61 times the same root", a, same, impl.ErrMany)
		wantRootsRefused(t, "61 roots", a, g.places(base, numbersTo(61)), impl.ErrMany)
		wantRootsRefused(t, "66 roots", a, g.places(base, numbersTo(66)), impl.ErrMany)
		wantRootsRefused(t, "very many roots", a, slices.Repeat([]int64{base}, 5000), impl.ErrMany)
		wantRootsRefused(t, "61 roots of an arena in which nothing is taken", laid(8, active), make([]int64, 61), impl.ErrMany)
	}
}

func TestRootsThatAreNoObjects(t *testing.T) {
	for _, active := range []int64{0, 1} {
		for _, half := range []int64{28, 31} {
			a, base := mixedArena(half, active), active*half
			places := slices.Clone(strange)
			for at := int64(-3); at < 2*half+3; at++ {
				places = append(places, at)
			}
			for _, at := range places {
				what := fmt.Sprint("half ", half, " active ", active, " the root ", at)
				if slices.Contains(mixedPlaces, at-base) {
					if impl.ReachFrom(a, []int64{at}).List[0] != at {
						t.Errorf("%s is not reached at first", what)
					}
					continue
				}
				wantRootsRefused(t, what, a, []int64{at}, impl.ErrNone)
				wantRootsRefused(t, what+" ahead", a, []int64{at, base}, impl.ErrNone)
				wantRootsRefused(t, what+" behind", a, []int64{base, base, base + 14, at}, impl.ErrNone)
				wantRootsRefused(t, what+" as the last one of 60", a, append(slices.Repeat([]int64{base + 5}, 59), at), impl.ErrNone)
				wantRootsRefused(t, what+" among 61", a, append(slices.Repeat([]int64{at}, 60), base), impl.ErrMany)
			}
			wantRootsRefused(t, "nothing is taken", laid(half, active), []int64{base}, impl.ErrNone)
		}
	}
}

func TestShapeFaultIsAskedAheadOfRoots(t *testing.T) {
	for _, f := range faultyShapes() {
		base := f.arena.Active * f.arena.Half
		what := fmt.Sprintf("%s (active %d)", f.name, f.arena.Active)
		for _, roots := range [][]int64{nil, {base}, {base, base + 5}, {-1}, {math.MaxInt64, math.MinInt64}, make([]int64, 61)} {
			wantRootsRefused(t, what, f.arena, roots, f.code)
		}
	}
}

// likeness has two graphs that hold the same, or not.
type likeness struct {
	name   string
	a, b   graph
	isLike bool
}

func of(roots []int, objects ...impl.Object) graph {
	return graph{objects: objects, roots: roots}
}

func alikes() []likeness {
	zero, one := []int{0}, []int{1}
	both := []int{0, 1}
	return []likeness{
		{"no roots", of(nil), of([]int{}), true},
		{"no roots, and all is garbage", of(nil, made(0, 1, 2, 1)), of(nil, made(3, 0, 9), made(1, 0, 1)), true},
		{"one object", of(zero, made(1, 0, 7, 5)), of(zero, made(1, 0, 7, 5)), true},
		{"one object of no fields", of(zero, made(1, 0, 7)), of(one, made(1, 0, 8), made(1, 0, 7)), true},
		{"garbage is another one", of(zero, made(1, 2, 7, 5, 0), made(2, 0, 4, 4)), of(one, made(1, 0, 0), made(1, 2, 7, 5, 0)), true},
		{"garbage leads to it", of(zero, made(1, 1, 7, 0), made(1, 1, 4, 1)), of(zero, made(1, 1, 7, 0)), true},
		{"pointers of 0", of(zero, made(1, 3, 7, 0, 0)), of(zero, made(1, 3, 7, 0, 0)), true},
		{"one that leads to itself", of(zero, made(1, 1, 7, 1)), of([]int{2}, made(1, 0, 1), made(1, 0, 2), made(1, 1, 7, 3)), true},
		{"a ring that stands in another order", of(zero, made(0, 1, 1, 2), made(0, 1, 2, 3), made(0, 1, 3, 1)), of([]int{2}, made(0, 1, 3, 3), made(0, 1, 2, 1), made(0, 1, 1, 2)), true},
		{"the same root twice", of([]int{0, 0}, made(0, 0, 5)), of([]int{1, 1}, made(0, 0, 4), made(0, 0, 5)), true},
		{"two that are the same by turns", of([]int{0, 1, 0}, made(0, 0, 5), made(0, 0, 5)), of([]int{1, 0, 1}, made(0, 0, 5), made(0, 0, 5)), true},
		{"a plain field that could be a pointer", of(zero, made(0, 2, 5, 1, 1)), of(one, made(0, 0, 1), made(0, 2, 5, 1, 2)), true},

		{"a root that is none", of(nil, made(0, 0, 5)), of(zero, made(0, 0, 5)), false},
		{"a root once and twice", of(zero, made(0, 0, 5)), of([]int{0, 0}, made(0, 0, 5)), false},
		{"a root that is reached, and is no root", of(both, made(0, 1, 5, 2), made(0, 0, 6)), of(zero, made(0, 1, 5, 2), made(0, 0, 6)), false},
		{"roots of other numbers", of(both, made(0, 1, 5, 2), made(0, 0, 6)), of([]int{0, 0}, made(0, 1, 5, 2), made(0, 0, 6)), false},
		{"roots of other numbers behind others", of([]int{0, 1, 0}, made(0, 0, 5), made(0, 0, 5)), of([]int{0, 1, 1}, made(0, 0, 5), made(0, 0, 5)), false},
		{"roots in another order", of(both, made(0, 0, 5), made(0, 0, 6)), of([]int{1, 0}, made(0, 0, 5), made(0, 0, 6)), false},
		{"another hash", of(zero, made(1, 0, 7)), of(zero, made(1, 0, 8)), false},
		{"another owner", of(zero, made(1, 0, 7)), of(zero, made(2, 0, 7)), false},
		{"another mask", of(zero, made(1, 0, 7, 0)), of(zero, made(1, 1, 7, 0)), false},
		{"one plain field more", of(zero, made(1, 0, 7)), of(zero, made(1, 0, 7, 0)), false},
		{"one pointer more", of(zero, made(1, 0, 7)), of(zero, made(1, 1, 7, 0)), false},
		{"a plain field", of(zero, made(1, 0, 7, 5)), of(zero, made(1, 0, 7, 6)), false},
		{"the last of many plain fields", of(zero, made(1, 0, 7, 5, 4, 3, 2, 1)), of(zero, made(1, 0, 7, 5, 4, 3, 2, 0)), false},
		{"the sign of a plain field", of(zero, made(1, 0, 7, 5)), of(zero, made(1, 0, 7, -5)), false},
		{"another hash of what is reached", of(zero, made(1, 1, 7, 2), made(1, 0, 3)), of(zero, made(1, 1, 7, 2), made(1, 0, 4)), false},
		{"a plain field of what is reached", of(zero, made(1, 1, 7, 2), made(1, 0, 3, 1)), of(zero, made(1, 1, 7, 2), made(1, 0, 3, 2)), false},
		{"a plain field beside a pointer", of(zero, made(1, 1, 7, 1, 1)), of(zero, made(1, 1, 7, 1, 2)), false},
		{"a pointer of 0 and one to the first object", of(zero, made(1, 1, 7, 0)), of(zero, made(1, 1, 7, 1)), false},
		{"a pointer of 0 and one to what is reached otherwise", of(zero, made(1, 3, 7, 2, 0), made(1, 0, 1)), of(zero, made(1, 3, 7, 2, 2), made(1, 0, 1)), false},
		{"pointers that are changed with each other", of(zero, made(1, 3, 7, 0, 1)), of(zero, made(1, 3, 7, 1, 0)), false},
		{"to itself and to another one", of(zero, made(1, 1, 7, 1)), of(zero, made(1, 1, 7, 2), made(1, 1, 7, 1)), false},
		{"to itself and to another one, which are all roots", of(both, made(1, 1, 7, 1), made(1, 1, 7, 2)), of(both, made(1, 1, 7, 2), made(1, 1, 7, 1)), false},
		{"a ring that is entered elsewhere", of(zero, made(0, 1, 1, 2), made(0, 1, 1, 3), made(0, 1, 1, 1)), of(zero, made(0, 1, 1, 2), made(0, 1, 1, 3), made(0, 1, 1, 2)), false},
		{"one object by two ways, and two that are the same", of(zero, made(0, 3, 1, 2, 2), made(0, 0, 5)), of(zero, made(0, 3, 1, 2, 3), made(0, 0, 5), made(0, 0, 5)), false},
		{"one more object at the end", of(zero, made(0, 1, 1, 2), made(0, 1, 1, 0)), of(zero, made(0, 1, 1, 2), made(0, 1, 1, 3), made(0, 1, 1, 0)), false},
	}
}

func TestIsAlike(t *testing.T) {
	for _, l := range alikes() {
		for _, active := range []int64{0, 1} {
			for _, half := range []int64{20, 33} {
				a, ra := l.a.in(20, active), l.a.places(20*active, l.a.roots)
				for _, other := range []int64{0, 1} {
					b, rb := l.b.in(half, other), l.b.places(half*other, l.b.roots)
					what := fmt.Sprint(l.name, ", active ", active, " and ", other, " of ", half)
					wantAlike(t, what, a, ra, b, rb, l.isLike)
				}
				wantAlike(t, l.name+": the same", a, ra, copied(a), slices.Clone(ra), true)
			}
		}
	}
}

// TestIsAlikeOfOneThatIsTurned turns each field and each part of a head of what is reached.
func TestIsAlikeOfOneThatIsTurned(t *testing.T) {
	for _, active := range []int64{0, 1} {
		base := 200 * active
		roots := []int64{base + 7, base}
		a := mixedArena(200, active)
		inReach := impl.ReachFrom(a, roots).List
		for n, o := range mixed(base) {
			isGarbage := !slices.Contains(inReach, o.At)
			hash := withWord(a, int(o.At)+1, (o.Head.Hash+1)%100000)
			wantAlike(t, fmt.Sprint("another hash of ", n), a, roots, hash, roots, isGarbage)
			for i := range o.Head.Size {
				word := (o.Fields[i] + 1) % (impl.MaxValue + 1)
				if isPointerField(o.Head, i) && o.Fields[i] != 0 {
					word = 0
				} else if isPointerField(o.Head, i) {
					word = o.At + 1
				}
				what := fmt.Sprint("the field ", i, " of ", n)
				wantAlike(t, what, a, roots, withWord(a, int(o.At+2+i), word), roots, isGarbage)
			}
		}
	}
}

// smallGraphs visits all graphs of objects of so many pointers each, and all lists of up to two roots.
func smallGraphs(sizes []int, visit func(g graph)) {
	var lists [][]int
	for i := range sizes {
		lists = append(lists, []int{i})
		for j := range sizes {
			lists = append(lists, []int{i, j})
		}
	}
	lists = append(lists, nil)
	count := 1
	for _, size := range sizes {
		for range size {
			count *= len(sizes) + 1
		}
	}
	for number := range count {
		var objects []impl.Object
		for _, size := range sizes {
			o := made(1, 1<<size-1, 3, make([]int64, size)...)
			for i := range o.Fields {
				o.Fields[i] = int64(number % (len(sizes) + 1))
				number /= len(sizes) + 1
			}
			objects = append(objects, o)
		}
		for _, roots := range lists {
			visit(graph{objects: objects, roots: roots})
		}
	}
}

// checkCopy holds all answers against what a model tells.
func checkCopy(t *testing.T, objects []impl.Object, half, active int64, roots []int64) {
	t.Helper()
	a := laid(half, active, objects...)
	what := fmt.Sprintf("%+v from %v", a, roots)
	list := modelReach(objects, roots)
	wantInts(t, "ReachFrom "+what, impl.ReachFrom(a, roots), impl.OK, list...)
	var garbage []int64
	for _, o := range objects {
		if !slices.Contains(list, o.At) {
			garbage = append(garbage, o.At)
		}
	}
	wantInts(t, "GarbageIn "+what, impl.GarbageIn(a, roots), impl.OK, garbage...)
	var live []impl.Object
	for _, at := range list {
		live = append(live, objectOf(objects, at))
	}
	wantWord(t, "LiveWords "+what, impl.LiveWords(a, roots), impl.OK, wordsIn(live))
	live = placed((1-active)*half, live...)
	for _, o := range live {
		for i, word := range o.Fields {
			if isPointerField(o.Head, int64(i)) && word != 0 {
				o.Fields[i] = live[slices.Index(list, word-1)].At + 1
			}
		}
	}
	var there []int64
	for _, at := range roots {
		there = append(there, live[slices.Index(list, at)].At)
	}
	got := impl.Collect(a, roots)
	wantCollected(t, "Collect "+what, got, laid(half, 1-active, live...), there)
	wantAlike(t, "behind Collect", a, roots, got.Arena, got.Roots, true)
	if code := impl.ShapeFault(got.Arena); code != impl.OK {
		t.Errorf("Collect %s: ShapeFault %d", what, code)
	}
}

func TestSmallGraphs(t *testing.T) {
	for _, active := range []int64{0, 1} {
		smallGraphs([]int{2, 1, 1}, func(g graph) {
			base := 10 * active
			checkCopy(t, linked(base, g.objects...), 10, active, g.places(base, g.roots))
		})
	}
}

func TestIsAlikeOfSmallGraphs(t *testing.T) {
	var all []graph
	smallGraphs([]int{1, 1}, func(g graph) { all = append(all, g) })
	smallGraphs([]int{1, 2}, func(g graph) { all = append(all, g) })
	like := 0
	for n, g := range all {
		a, ra := g.in(8, 0), g.places(0, g.roots)
		for _, h := range all[n:] {
			b, rb := h.in(9, 1), h.places(9, h.roots)
			want := modelAlike(linked(0, g.objects...), ra, linked(9, h.objects...), rb)
			wantAlike(t, "small graphs", a, ra, b, rb, want)
			if want {
				like++
			}
		}
	}
	if like <= len(all) {
		t.Error("too few are alike for a test:", like)
	}
}

// manyObjects has one object at least, if half is 14 or more; the smaller ones are more of them.
// Plain fields have the words that pointers would have.
func manyObjects(r *rand.Rand, base, half int64) []impl.Object {
	var list []impl.Object
	for {
		size := r.Int64N(1 + r.Int64N(13))
		o := made(r.Int64N(3), r.Int64N(1<<size), r.Int64N(100000), make([]int64, size)...)
		if wordsIn(list)+2+size > half {
			break
		}
		list = append(list, o)
	}
	list = placed(base, list...)
	for _, o := range list {
		for i := range o.Fields {
			target := list[r.IntN(len(list))]
			o.Fields[i] = target.At + 1
			if isPointerField(o.Head, int64(i)) && target.Head.Owner != o.Head.Owner {
				o.Fields[i] = 0
			}
		}
	}
	return list
}

func manyRoots(r *rand.Rand, objects []impl.Object, most int) []int64 {
	var roots []int64
	for range r.IntN(most + 1) {
		roots = append(roots, objects[r.IntN(len(objects))].At)
	}
	return roots
}

func TestManyObjectsCollected(t *testing.T) {
	for seed := range uint64(300) {
		r := rand.New(rand.NewPCG(4, seed))
		half, active := 14+r.Int64N(187), r.Int64N(2)
		objects := manyObjects(r, half*active, half)
		for _, most := range []int{2, 5, 60} {
			checkCopy(t, objects, half, active, manyRoots(r, objects, most))
		}
	}
}

// copyCalls are calls of every function of this chapter.
func copyCalls(roots []int64, b impl.Arena, rb []int64) map[string]func(a impl.Arena) told {
	return map[string]func(a impl.Arena) told{
		"ReachFrom": func(a impl.Arena) told {
			r := impl.ReachFrom(a, roots)
			return told{code: r.Code, list: r.List}
		},
		"LiveWords": func(a impl.Arena) told {
			r := impl.LiveWords(a, roots)
			return told{code: r.Code, numbers: [2]int64{r.Value}}
		},
		"GarbageIn": func(a impl.Arena) told {
			r := impl.GarbageIn(a, roots)
			return told{code: r.Code, list: r.List}
		},
		"Collect": func(a impl.Arena) told {
			r := impl.Collect(a, roots)
			return told{code: r.Code, arena: r.Arena, list: r.Roots, numbers: [2]int64{r.Moved}}
		},
		"IsAlike": func(a impl.Arena) told {
			answer := told{}
			if impl.IsAlike(a, roots, b, rb) {
				answer.numbers[0] = 1
			}
			if impl.IsAlike(b, rb, a, roots) {
				answer.numbers[1] = 1
			}
			return answer
		},
	}
}

func TestCopyFunctionsAnswerAlikeAndChangeNoArgument(t *testing.T) {
	arenas := []impl.Arena{mixedArena(28, 0), mixedArena(43, 1), laid(8, 1), marked(8, 1, 4)}
	for _, f := range faultyShapes() {
		arenas = append(arenas, f.arena)
	}
	lists := [][]int64{nil, {}, {0, 5, 0}, {43, 50, 57}, {43, 44}, {28, 28, 33}, make([]int64, 61), strange}
	for _, n := range strange {
		lists = append(lists, []int64{n}, []int64{n, n, 0})
	}
	b, rb := mixedArena(40, 1), []int64{47, 40}
	for _, a := range arenas {
		before := copied(a)
		for _, roots := range lists {
			rootsBefore := slices.Clone(roots)
			for name, call := range copyCalls(roots, b, rb) {
				first, second := call(a), call(a)
				if !equalTold(first, second) {
					t.Errorf("%s from %v of %+v answers %+v and then %+v", name, roots, a, first, second)
				}
				if !equalArenas(a, before) || !slices.Equal(roots, rootsBefore) || !equalArenas(b, mixedArena(40, 1)) || !slices.Equal(rb, []int64{47, 40}) {
					t.Fatalf("%s from %v of %+v turned what it was asked of", name, rootsBefore, before)
				}
			}
		}
	}
}

func TestAnswersOfCopyFunctionsShareNoMemory(t *testing.T) {
	for _, active := range []int64{0, 1} {
		base := 43 * active
		a, roots := mixedArena(43, active), []int64{base, base + 14, base + 10}
		// So that an answer that is appended to would be seen there.
		a.Words, roots = slices.Grow(a.Words, 50), slices.Grow(roots, 50)
		before, rootsBefore := copied(a), slices.Clone(roots)
		for name, call := range copyCalls(roots, a, roots) {
			first, second := call(a), call(a)
			spoil(first)
			if !equalTold(second, call(a)) || !equalArenas(a, before) || !slices.Equal(roots, rootsBefore) {
				t.Errorf("%s: what was done to an answer is seen in another or in an argument", name)
			}
		}
		c := impl.Collect(a, roots)
		again := slices.Clone(c.Roots)
		spoil(told{arena: c.Arena})
		if !slices.Equal(c.Roots, again) {
			t.Error("the words of a collection and its roots share memory")
		}
	}
}
