package tests

import (
	"slices"
	"testing"

	"loop.example/g00723/impl"
)

// linked places these objects, of which each pointer is told as 1 more than the number of one of
// them, or 0.
func linked(base int64, objects ...impl.Object) []impl.Object {
	list := placed(base, objects...)
	for _, o := range list {
		for i, n := range o.Fields {
			if isPointerField(o.Head, int64(i)) && n != 0 {
				o.Fields[i] = list[n-1].At + 1
			}
		}
	}
	return list
}

// chosen are the objects of these numbers, with pointers by numbers as they are in this order.
func chosen(objects []impl.Object, order []int) []impl.Object {
	var list []impl.Object
	for _, n := range order {
		o := objects[n]
		o.Fields = slices.Clone(o.Fields)
		for i, to := range o.Fields {
			if isPointerField(o.Head, int64(i)) && to != 0 {
				o.Fields[i] = int64(slices.Index(order, int(to-1))) + 1
			}
		}
		list = append(list, o)
	}
	return list
}

// graph has objects with pointers by numbers, roots by numbers, and what is reached from these.
type graph struct {
	name    string
	objects []impl.Object
	roots   []int
	reached []int
}

func (g graph) words() int64 {
	return wordsIn(g.objects)
}

func (g graph) in(half, active int64) impl.Arena {
	return laid(half, active, linked(active*half, g.objects...)...)
}

// places tells where the objects of these numbers stand.
func (g graph) places(base int64, numbers []int) []int64 {
	list := placed(base, g.objects...)
	var places []int64
	for _, n := range numbers {
		places = append(places, list[n].At)
	}
	return places
}

// live is what is left behind a collection, with roots by their new numbers.
func (g graph) live() graph {
	left := graph{name: g.name + ", collected", objects: chosen(g.objects, g.reached)}
	for n := range g.reached {
		left.reached = append(left.reached, n)
	}
	for _, root := range g.roots {
		left.roots = append(left.roots, slices.Index(g.reached, root))
	}
	return left
}

func (g graph) garbage() []int {
	var list []int
	for n := range g.objects {
		if !slices.Contains(g.reached, n) {
			list = append(list, n)
		}
	}
	return list
}

func wordsIn(objects []impl.Object) int64 {
	sum := int64(0)
	for _, o := range objects {
		sum += 2 + int64(len(o.Fields))
	}
	return sum
}

// chain has n objects, each of which leads to the one that is step behind it.
func chain(n, step int) []impl.Object {
	var list []impl.Object
	for i := range n {
		to := i + step + 1
		if to < 1 || to > n {
			to = 0
		}
		list = append(list, made(2, 1, int64(i), int64(to)))
	}
	return list
}

func numbersTo(n int) []int {
	var list []int
	for i := range n {
		list = append(list, i)
	}
	return list
}

func backwards(list []int) []int {
	list = slices.Clone(list)
	slices.Reverse(list)
	return list
}

// graphs have what is reached written by hand.
func graphs() []graph {
	plain := []impl.Object{made(0, 0, 7, 1, 2), made(3, 0, 99999), made(1, 0, 0, -impl.MaxValue)}
	self := []impl.Object{made(0, 0, 1), made(1, 2, 5, 9, 2)}
	two := []impl.Object{made(2, 1, 1, 2, 20), made(2, 2, 2, 30, 1)}
	three := []impl.Object{made(0, 1, 1, 3), made(0, 1, 2, 1), made(0, 1, 3, 2)}
	// The number 3 is reached by two ways, and the number 4 by none.
	ways := []impl.Object{made(1, 3, 0, 2, 3), made(1, 1, 1, 4), made(1, 1, 2, 4, 8), made(1, 0, 3, 5), made(1, 7, 4, 4, 1, 5)}
	wide := []impl.Object{
		made(3, 5, 0, 6, 0, 2), made(3, 1, 1, 4), made(3, 0, 2), made(3, 0, 3), made(3, 1, 4, 3),
		made(3, 6, 5, -1, 0, 5),
	}
	twelve := []impl.Object{made(0, 0, 1), made(0, 1, 2, 1), made(0, 4095, 3, 2, 0, 3, 2, 1, 0, 0, 5, 5, 4, 1, 3), made(0, 0, 4), made(0, 1, 5, 0)}
	owners := []impl.Object{made(0, 1, 0, 5), made(1, 1, 0, 4), made(2, 1, 0, 3), made(1, 0, 0), made(0, 1, 0, 1)}
	zeros := []impl.Object{made(1, 7, 3, 0, 0, 0), made(1, 3, 4, 0, 1), made(1, 1, 5, 0)}
	return []graph{
		{"nothing is taken", nil, nil, nil},
		{"no roots", plain, nil, nil},
		{"no roots, and cycles", three, []int{}, nil},
		{"one root", plain, []int{1}, []int{1}},
		{"a root twice", plain, []int{2, 2}, []int{2}},
		{"roots more than once", plain, []int{2, 0, 2, 2, 0}, []int{2, 0}},
		{"all are roots, backwards", plain, []int{2, 1, 0}, []int{2, 1, 0}},
		{"one that leads to itself", self, []int{1}, []int{1}},
		{"one that leads to itself, twice", self, []int{1, 1, 0}, []int{1, 0}},
		{"two that lead to each other", two, []int{0}, []int{0, 1}},
		{"two that lead to each other, from the second one on", two, []int{1}, []int{1, 0}},
		{"two that lead to each other are roots", two, []int{1, 0, 1}, []int{1, 0}},
		{"three in a ring", three, []int{1}, []int{1, 0, 2}},
		{"a ring that is garbage", append(slices.Clone(three), made(0, 0, 6)), []int{3}, []int{3}},
		{"by two ways", ways, []int{0}, []int{0, 1, 2, 3}},
		{"by two ways from two roots", ways, []int{2, 1}, []int{2, 1, 3}},
		{"garbage leads to what is reached", ways, []int{3}, []int{3}},
		{"a root that another one leads to", ways, []int{0, 3}, []int{0, 3, 1, 2}},
		{"what leads to itself and all others", ways, []int{4}, []int{4, 3, 0, 1, 2}},
		{"near ones ahead of far ones", wide, []int{0}, []int{0, 5, 1, 4, 3, 2}},
		{"roots ahead of all others", wide, []int{0, 2, 0}, []int{0, 2, 5, 1, 4, 3}},
		{"twelve pointers", twelve, []int{2}, []int{2, 1, 0, 4, 3}},
		{"twelve pointers of a second root", twelve, []int{4, 2, 4}, []int{4, 2, 1, 0, 3}},
		{"roots of several owners", owners, []int{2, 1, 0}, []int{2, 1, 0, 3, 4}},
		{"roots of several owners, in another order", owners, []int{4, 1}, []int{4, 1, 0, 3}},
		{"pointers of 0", zeros, []int{0}, []int{0}},
		{"pointers of 0 beside others", zeros, []int{1, 2}, []int{1, 2, 0}},
		{"a long chain", chain(66, 1), []int{0}, numbersTo(66)},
		{"a long chain backwards", chain(66, -1), []int{65}, backwards(numbersTo(66))},
		{"the end of a long chain", chain(66, -1), []int{2}, []int{2, 1, 0}},
	}
}

// inBothHalves lays each graph in the least half in which it has room, in a greater one and in the
// greatest one.
func inBothHalves(visit func(g graph, half, active int64)) {
	for _, g := range graphs() {
		least := max(g.words(), 8)
		for _, half := range []int64{least, min(least+3, 200), 200} {
			visit(g, half, 0)
			visit(g, half, 1)
		}
	}
}

func wantCollected(t *testing.T, what string, got impl.CollectResult, want impl.Arena, roots []int64) {
	t.Helper()
	if got.Code != impl.OK || got.Moved != want.Bump || !slices.Equal(got.Roots, roots) || !equalArenas(got.Arena, want) {
		t.Errorf("%s: got %+v, want the roots %v and %+v", what, got, roots, want)
	}
}

// wantRootsRefused asks that each function that has roots has this code, and nothing beside it.
func wantRootsRefused(t *testing.T, what string, a impl.Arena, roots []int64, code int64) {
	t.Helper()
	wantInts(t, what+": ReachFrom", impl.ReachFrom(a, roots), code)
	wantWord(t, what+": LiveWords", impl.LiveWords(a, roots), code, 0)
	wantInts(t, what+": GarbageIn", impl.GarbageIn(a, roots), code)
	got := impl.Collect(a, roots)
	if got.Code != code || got.Moved != 0 || len(got.Roots) != 0 || !isZeroArena(got.Arena) {
		t.Errorf("%s: Collect: got %+v, want the code %d and nothing beside it", what, got, code)
	}
	b := laid(8, 1)
	if impl.IsAlike(a, roots, a, roots) || impl.IsAlike(a, roots, b, nil) || impl.IsAlike(b, nil, a, roots) {
		t.Errorf("%s: it is alike", what)
	}
}

// wantAlike asks it of both, and the other way round.
func wantAlike(t *testing.T, what string, a impl.Arena, ra []int64, b impl.Arena, rb []int64, want bool) {
	t.Helper()
	if impl.IsAlike(a, ra, b, rb) != want || impl.IsAlike(b, rb, a, ra) != want {
		t.Errorf("%s: %+v from %v and %+v from %v: %v and %v, want %v", what, a, ra, b, rb, impl.IsAlike(a, ra, b, rb), impl.IsAlike(b, rb, a, ra), want)
	}
}

// objectOf is told by its place in the list, in another way than the program finds it.
func objectOf(objects []impl.Object, at int64) impl.Object {
	return objects[slices.IndexFunc(objects, func(o impl.Object) bool { return o.At == at })]
}

// modelReach goes round by round: all that those of one round lead to is the next round.
func modelReach(objects []impl.Object, roots []int64) []int64 {
	var all []int64
	for round := roots; len(round) > 0; {
		var next []int64
		for _, at := range round {
			if slices.Contains(all, at) {
				continue
			}
			all = append(all, at)
			o := objectOf(objects, at)
			for i, word := range o.Fields {
				if isPointerField(o.Head, int64(i)) && word != 0 {
					next = append(next, word-1)
				}
			}
		}
		round = next
	}
	return all
}

// pairing holds what stands for what, when two graphs are gone through side by side. It goes into
// the depth, since what is alike does not hang on the order in which one goes.
type pairing struct {
	a, b   []impl.Object
	ab, ba map[int64]int64
}

func (p pairing) fits(x, y int64) bool {
	px, isX := p.ab[x]
	py, isY := p.ba[y]
	if isX || isY {
		return isX && isY && px == y && py == x
	}
	p.ab[x], p.ba[y] = y, x
	o, q := objectOf(p.a, x), objectOf(p.b, y)
	if o.Head != q.Head {
		return false
	}
	for i := range o.Fields {
		f, g := o.Fields[i], q.Fields[i]
		isPointer := isPointerField(o.Head, int64(i))
		if isPointer && f != 0 && g != 0 {
			if !p.fits(f-1, g-1) {
				return false
			}
		} else if f != g {
			return false
		}
	}
	return true
}

func modelAlike(a []impl.Object, ra []int64, b []impl.Object, rb []int64) bool {
	if len(ra) != len(rb) {
		return false
	}
	p := pairing{a, b, map[int64]int64{}, map[int64]int64{}}
	for i := range ra {
		if !p.fits(ra[i], rb[i]) {
			return false
		}
	}
	return true
}
