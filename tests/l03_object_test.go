package tests

import (
	"fmt"
	"math"
	"math/rand/v2"
	"slices"
	"testing"

	"loop.example/g00723/impl"
)

func TestObjectsIn(t *testing.T) {
	for _, active := range []int64{0, 1} {
		for _, half := range []int64{28, 29, 200} {
			what := fmt.Sprint("half ", half, " active ", active)
			wantObjects(t, what, impl.ObjectsIn(mixedArena(half, active)), impl.OK, mixed(active*half)...)
			wantObjects(t, what+", nothing taken", impl.ObjectsIn(laid(half, active)), impl.OK)
		}
		none := placed(8*active, made(0, 0, 1), made(3, 0, 99999), made(1, 0, 0), made(2, 0, 5))
		wantObjects(t, "a half just full of objects of no fields", impl.ObjectsIn(laid(8, active, none...)), impl.OK, none...)
		twelve := placed(14*active, made(2, 0, 3, 1, 2, 3, 4, 5, 6, 7, 8, 9, 10, 11, 12))
		wantObjects(t, "a half just full of one of 12 fields", impl.ObjectsIn(laid(14, active, twelve...)), impl.OK, twelve...)
	}
	wantObjects(t, "a new arena", impl.ObjectsIn(impl.NewArena(8).Arena), impl.OK)
}

// TestObjectsInOfPartsOfAHalf cuts the words that are taken at every place.
func TestObjectsInOfPartsOfAHalf(t *testing.T) {
	for _, active := range []int64{0, 1} {
		base := active * 30
		for bump := range int64(31) {
			a := withBump(mixedArena(30, active), bump)
			what := fmt.Sprint("active ", active, " bump ", bump)
			n := slices.Index(append(slices.Clone(mixedPlaces), 28), bump)
			if n < 0 {
				wantObjects(t, what, impl.ObjectsIn(a), impl.ErrForm)
			} else {
				wantObjects(t, what, impl.ObjectsIn(a), impl.OK, mixed(base)[:n]...)
			}
		}
	}
}

func TestObjectsInCodes(t *testing.T) {
	for _, f := range faultyArenas() {
		wantObjects(t, f.name, impl.ObjectsIn(f.arena), f.code)
	}
	for _, active := range []int64{0, 1} {
		for _, f := range formlessArenas(28, active) {
			wantObjects(t, f.name, impl.ObjectsIn(f.arena), impl.ErrForm)
		}
	}
}

// TestObjectsInDoesNotAskForPointersAndWordsThatAreNotTaken, which is left to ShapeFault.
func TestObjectsInDoesNotAskForPointersAndWordsThatAreNotTaken(t *testing.T) {
	for _, active := range []int64{0, 1} {
		objects := placed(9*active, made(0, 3, 1, -7, 500), made(1, 1, 2, 9*active+1))
		a := laid(9, active, objects...)
		a.Words[9*active+8], a.Words[9*(1-active)] = 3, 5
		wantObjects(t, "objects astray", impl.ObjectsIn(a), impl.OK, objects...)
		if code := impl.ShapeFault(a); code != impl.ErrState {
			t.Error("ShapeFault of objects astray:", code)
		}
	}
}

func TestShapeFaultOfRightArenas(t *testing.T) {
	for _, active := range []int64{0, 1} {
		for _, half := range []int64{28, 29, 200} {
			for _, a := range []impl.Arena{laid(half, active), mixedArena(half, active)} {
				if code := impl.ShapeFault(a); code != impl.OK {
					t.Errorf("half %d, active %d, bump %d: the code %d", half, active, a.Bump, code)
				}
			}
		}
	}
}

func TestShapeFaultCodes(t *testing.T) {
	for _, f := range faultyShapes() {
		if code := impl.ShapeFault(f.arena); code != f.code {
			t.Errorf("%s (active %d): the code %d, want %d", f.name, f.arena.Active, code, f.code)
		}
	}
}

// TestShapeFaultOfEveryPointer puts every word that is not far into every field.
func TestShapeFaultOfEveryPointer(t *testing.T) {
	for _, active := range []int64{0, 1} {
		base := active * 29
		objects := mixed(base)
		for word := int64(-70); word < 70; word++ {
			for _, o := range objects {
				for i := range o.Head.Size {
					a := withWord(mixedArena(29, active), int(o.At+2+i), word)
					want := int64(impl.OK)
					if isPointerField(o.Head, i) && !mayPoint(objects, o.Head.Owner, word) {
						want = impl.ErrState
					}
					if code := impl.ShapeFault(a); code != want {
						t.Errorf("active %d, the field %d of %+v is %d: the code %d, want %d", active, i, o, word, code, want)
					}
				}
			}
		}
	}
}

// TestPlacesBeginAtTheBaseOfTheHalfInUse holds a pointer against the base: 1 leads to the place 0.
func TestPlacesBeginAtTheBaseOfTheHalfInUse(t *testing.T) {
	for _, active := range []int64{0, 1} {
		a := laid(8, active, made(0, 1, 1, 8*active+1))
		if code := impl.ShapeFault(a); code != impl.OK {
			t.Errorf("active %d: the code %d", active, code)
		}
		a = laid(8, active, made(0, 1, 1, 8*(1-active)+1))
		if code := impl.ShapeFault(a); code != impl.ErrState {
			t.Errorf("active %d, a pointer to the other base: the code %d", active, code)
		}
	}
}

func TestWordsThatAreNotTakenAreZero(t *testing.T) {
	for _, active := range []int64{0, 1} {
		for _, objects := range [][]impl.Object{nil, {made(0, 0, 0)}, {made(0, 0, 0, 1, 2, 3, 4, 5)}, {made(0, 0, 0, 1, 2, 3, 4, 5, 6)}} {
			a := laid(8, active, objects...)
			for at := range a.Half * 2 {
				for _, word := range []int64{1, -1, impl.MaxValue, -impl.MaxValue} {
					b := withWord(a, int(at), word)
					if code := impl.ShapeFault(b); !isTaken(a, at) && code != impl.ErrState {
						t.Errorf("active %d, bump %d, %d at %d: the code %d", active, a.Bump, word, at, code)
					}
				}
			}
		}
	}
}

func TestObjectAt(t *testing.T) {
	for _, active := range []int64{0, 1} {
		for _, half := range []int64{28, 31} {
			a, objects := mixedArena(half, active), mixed(active*half)
			places := slices.Clone(strange)
			for at := int64(-3); at < 2*half+3; at++ {
				places = append(places, at)
			}
			for _, at := range places {
				what := fmt.Sprint("half ", half, " active ", active, " ObjectAt ", at)
				n := slices.IndexFunc(objects, func(o impl.Object) bool { return o.At == at })
				if n < 0 {
					wantObject(t, what, impl.ObjectAt(a, at), impl.ErrNone, impl.Object{})
				} else {
					wantObject(t, what, impl.ObjectAt(a, at), impl.OK, objects[n])
				}
			}
		}
	}
	for _, at := range []int64{-1, 0, 8, 16} {
		wantObject(t, "nothing taken", impl.ObjectAt(laid(8, 1), at), impl.ErrNone, impl.Object{})
	}
}

func TestPutObjectIsThereBehindAllOthers(t *testing.T) {
	for _, active := range []int64{0, 1} {
		for _, before := range [][]impl.Object{nil, mixed(42 * active)} {
			a := laid(42, active, before...)
			everyHead(4711, func(h impl.Head) {
				o := impl.Object{Head: h, Fields: make([]int64, h.Size)}
				after := laid(42, active, append(slices.Clone(before), o)...)
				got := impl.PutObject(a, h)
				if at := active*42 + a.Bump; got.Code != impl.OK || got.At != at || !equalArenas(got.Arena, after) {
					t.Fatalf("active %d, bump %d, PutObject %+v: got %+v", active, a.Bump, h, got)
				}
			})
		}
	}
}

func TestPutObjectOneBehindTheOther(t *testing.T) {
	for _, active := range []int64{0, 1} {
		a := laid(28, active)
		for n, o := range mixed(active * 28) {
			got := impl.PutObject(a, o.Head)
			if got.Code != impl.OK || got.At != o.At || impl.ShapeFault(got.Arena) != impl.OK {
				t.Fatalf("the object %d: got %+v", n, got)
			}
			a = got.Arena
			o.Fields = make([]int64, o.Head.Size)
			wantObject(t, fmt.Sprint("the object ", n), impl.ObjectAt(a, o.At), impl.OK, o)
			if list := impl.ObjectsIn(a).Objects; len(list) != n+1 || !equalObjects(list[n], o) {
				t.Errorf("the object %d is not behind all others: %+v", n, list)
			}
		}
		wantRefusal(t, "a half that is just full", impl.PutObject(a, impl.Head{}), impl.ErrFull)
	}
}

func TestPutObjectUpToTheEndOfTheHalf(t *testing.T) {
	for _, active := range []int64{0, 1} {
		for size := range int64(13) {
			for left := range int64(16) {
				half := 28 + left
				a, h := mixedArena(half, active), impl.Head{Size: size, Owner: 2, Hash: 6}
				what := fmt.Sprint("active ", active, ", ", left, " words are left, Size ", size)
				if size+2 > left {
					wantRefusal(t, what, impl.PutObject(a, h), impl.ErrFull)
					continue
				}
				o := impl.Object{Head: h, Fields: make([]int64, size)}
				wantArena(t, what, impl.PutObject(a, h), laid(half, active, append(mixed(active*half), o)...), active*half+28)
			}
		}
		// Here the object alone has more words than the whole half.
		for size := int64(7); size < 13; size++ {
			wantRefusal(t, fmt.Sprint("a half of 8, Size ", size), impl.PutObject(laid(8, active), impl.Head{Size: size}), impl.ErrFull)
		}
		wantArena(t, "a half of 8, Size 6", impl.PutObject(laid(8, active), impl.Head{Size: 6}), laid(8, active, made(0, 0, 0, make([]int64, 6)...)), 8*active)
	}
}

func TestPutObjectCodes(t *testing.T) {
	for _, h := range faultyHeads() {
		what := fmt.Sprintf("PutObject %+v", h)
		wantRefusal(t, what, impl.PutObject(mixedArena(100, 1), h), impl.ErrRange)
		wantRefusal(t, what+" in a full half", impl.PutObject(mixedArena(28, 0), h), impl.ErrRange)
	}
	for _, f := range faultyShapes() {
		for _, h := range []impl.Head{{}, {Size: 12}, {Size: 13}, {Hash: -1}} {
			wantRefusal(t, fmt.Sprintf("%s: PutObject %+v", f.name, h), impl.PutObject(f.arena, h), f.code)
		}
	}
}

func TestFieldAt(t *testing.T) {
	for _, active := range []int64{0, 1} {
		a := mixedArena(28, active)
		for _, o := range mixed(28 * active) {
			for i, word := range o.Fields {
				wantWord(t, fmt.Sprint("FieldAt ", o.At, i), impl.FieldAt(a, o.At, int64(i)), impl.OK, word)
			}
			for _, i := range append([]int64{o.Head.Size, o.Head.Size + 1, 12}, strange...) {
				if i < 0 || i >= o.Head.Size {
					wantWord(t, fmt.Sprint("FieldAt ", o.At, i), impl.FieldAt(a, o.At, i), impl.ErrRange, 0)
				}
			}
		}
	}
}

func TestFieldAtCodes(t *testing.T) {
	a := mixedArena(31, 1)
	isThere := map[int64]bool{}
	for _, far := range mixedPlaces {
		isThere[31+far] = true
	}
	for at := int64(-2); at < 64; at++ {
		for _, i := range []int64{0, -1, 12, math.MaxInt64} {
			if !isThere[at] {
				wantWord(t, fmt.Sprint("FieldAt ", at, i), impl.FieldAt(a, at, i), impl.ErrNone, 0)
			}
		}
	}
	for _, f := range faultyShapes() {
		for _, at := range []int64{0, 1, 28, 33, -1} {
			wantWord(t, fmt.Sprint(f.name, ": FieldAt ", at), impl.FieldAt(f.arena, at, 0), f.code, 0)
			wantWord(t, fmt.Sprint(f.name, ": FieldAt ", at), impl.FieldAt(f.arena, at, -1), f.code, 0)
		}
	}
}

// TestSetFieldIsSoAndAllElseIsAsItWas sets every field of every object to words of all kinds.
func TestSetFieldIsSoAndAllElseIsAsItWas(t *testing.T) {
	values := []int64{impl.MaxValue, impl.MaxValue - 1, -impl.MaxValue, -impl.MaxValue + 1, 401}
	for value := int64(-70); value < 70; value++ {
		values = append(values, value)
	}
	for _, active := range []int64{0, 1} {
		a, objects := mixedArena(30, active), mixed(30*active)
		for n, o := range objects {
			for i := range o.Head.Size {
				for _, value := range values {
					what := fmt.Sprint("active ", active, " SetField ", o.At, i, value)
					got := impl.SetField(a, o.At, i, value)
					if isPointerField(o.Head, i) && !mayPoint(objects, o.Head.Owner, value) {
						wantRefusal(t, what, got, impl.ErrForm)
						continue
					}
					after := placed(30*active, objects...)
					after[n].Fields[i] = value
					wantArena(t, what, got, laid(30, active, after...), 0)
					wantWord(t, what, impl.FieldAt(got.Arena, o.At, i), impl.OK, value)
				}
			}
		}
	}
}

func TestSetFieldCodes(t *testing.T) {
	for _, c := range []struct {
		what         string
		at, i, value int64
		code         int64
	}{
		{"no object, no field, no word", 29, 12, impl.MaxValue + 1, impl.ErrNone},
		{"no object", 29, 0, 0, impl.ErrNone},
		{"the other half", 0, 0, 0, impl.ErrNone},
		{"no fields", 33, 0, 0, impl.ErrRange},
		{"behind its fields", 28, 3, 0, impl.ErrRange},
		{"ahead of its fields", 28, -1, 0, impl.ErrRange},
		{"no field, no pointer", 28, 3, 2, impl.ErrRange},
		{"no field, no word", 28, 3, impl.MaxValue + 1, impl.ErrRange},
		{"a pointer that is no word", 28, 0, impl.MaxValue + 1, impl.ErrRange},
		{"a pointer far below", 28, 0, -impl.MaxValue - 1, impl.ErrRange},
		{"a word that is 1 too great", 28, 1, impl.MaxValue + 1, impl.ErrRange},
		{"a word that is 1 too small", 28, 1, -impl.MaxValue - 1, impl.ErrRange},
		{"a pointer to one of another Owner", 28, 0, 34, impl.ErrForm},
		{"a pointer into the midst of itself", 28, 0, 30, impl.ErrForm},
		{"a pointer to no object", 28, 0, 57, impl.ErrForm},
		{"a pointer into the other half", 28, 0, 1, impl.ErrForm},
		{"a negative pointer", 28, 0, -29, impl.ErrForm},
		{"the greatest word as a pointer", 28, 0, impl.MaxValue, impl.ErrForm},
		{"the least word as a pointer", 28, 0, -impl.MaxValue, impl.ErrForm},
	} {
		wantRefusal(t, c.what, impl.SetField(mixedArena(28, 1), c.at, c.i, c.value), c.code)
	}
	for _, value := range strange {
		if value < -impl.MaxValue || value > impl.MaxValue {
			wantRefusal(t, fmt.Sprint("a pointer ", value), impl.SetField(mixedArena(28, 0), 0, 0, value), impl.ErrRange)
			wantRefusal(t, fmt.Sprint("no pointer ", value), impl.SetField(mixedArena(28, 0), 0, 1, value), impl.ErrRange)
		}
		if value != 0 && (value < 0 || value > 2) {
			wantRefusal(t, fmt.Sprint("the field ", value), impl.SetField(mixedArena(28, 0), 0, value, 0), impl.ErrRange)
		}
	}
	for _, f := range faultyShapes() {
		for _, at := range []int64{0, 1, 28, 33} {
			for _, value := range []int64{0, 2, impl.MaxValue + 1} {
				wantRefusal(t, fmt.Sprint(f.name, ": SetField ", at, value), impl.SetField(f.arena, at, 0, value), f.code)
			}
		}
	}
}

func TestSameObjects(t *testing.T) {
	for n := range 6 {
		if a, b := mixed(28)[:n], mixed(28)[:n]; !impl.SameObjects(a, b) {
			t.Errorf("%+v is not the same as it is", a)
		}
	}
	list := mixed(0)
	others := [][]impl.Object{nil, list[:4], list[1:], append(mixed(0), list[0]), mixed(28), {list[1], list[0], list[2], list[3], list[4]}}
	for n := range list {
		for _, turn := range []func(o *impl.Object){
			func(o *impl.Object) { o.At++ },
			func(o *impl.Object) { o.Head.Size++ },
			func(o *impl.Object) { o.Head.Mask++ },
			func(o *impl.Object) { o.Head.Owner++ },
			func(o *impl.Object) { o.Head.Hash++ },
			func(o *impl.Object) { o.Fields = append(o.Fields, 0) },
		} {
			other := mixed(0)
			turn(&other[n])
			others = append(others, other)
		}
		for i := range list[n].Fields {
			turned, cut := mixed(0), mixed(0)
			turned[n].Fields[i]++
			cut[n].Fields = cut[n].Fields[:i]
			others = append(others, turned, cut)
		}
	}
	for _, other := range others {
		if impl.SameObjects(list, other) || impl.SameObjects(other, list) {
			t.Errorf("%+v is the same as %+v", list, other)
		}
	}
}

func TestSameObjectsIsAskedOfAny(t *testing.T) {
	if !impl.SameObjects(nil, nil) || !impl.SameObjects(nil, []impl.Object{}) || !impl.SameObjects([]impl.Object{}, nil) {
		t.Error("no objects are not the same as none")
	}
	if impl.SameObjects(nil, []impl.Object{{}}) || impl.SameObjects([]impl.Object{{}}, nil) {
		t.Error("an object is the same as none")
	}
	if !impl.SameObjects([]impl.Object{{Fields: []int64{}}}, []impl.Object{{}}) {
		t.Error("an empty list of fields is not the same as nil")
	}
	for _, n := range strange {
		a := impl.Object{At: n, Head: impl.Head{Size: n, Mask: n, Owner: n, Hash: n}, Fields: []int64{n}}
		b := impl.Object{At: n, Head: a.Head, Fields: []int64{n}}
		if !impl.SameObjects([]impl.Object{a, b}, []impl.Object{b, a}) {
			t.Errorf("%+v is not the same as it is", a)
		}
		b.Fields = []int64{n ^ 1}
		if impl.SameObjects([]impl.Object{a}, []impl.Object{b}) {
			t.Errorf("%+v is the same as %+v", a, b)
		}
	}
}

// told is all that an answer of a function of this chapter and of the next one can have.
type told struct {
	code    int64
	objects []impl.Object
	arena   impl.Arena
	list    []int64
	numbers [2]int64
}

// objectCalls are calls of every function of this chapter that is asked of an arena.
func objectCalls(at, i, value int64) map[string]func(a impl.Arena) told {
	h := impl.Head{Size: i, Mask: value, Owner: 2, Hash: 5}
	return map[string]func(a impl.Arena) told{
		"ObjectsIn": func(a impl.Arena) told {
			r := impl.ObjectsIn(a)
			return told{code: r.Code, objects: r.Objects}
		},
		"ShapeFault": func(a impl.Arena) told { return told{code: impl.ShapeFault(a)} },
		"ObjectAt": func(a impl.Arena) told {
			r := impl.ObjectAt(a, at)
			return told{code: r.Code, objects: []impl.Object{r.Object}}
		},
		"PutObject": func(a impl.Arena) told {
			r := impl.PutObject(a, h)
			return told{code: r.Code, arena: r.Arena, numbers: [2]int64{r.At}}
		},
		"FieldAt": func(a impl.Arena) told {
			r := impl.FieldAt(a, at, i)
			return told{code: r.Code, numbers: [2]int64{r.Value}}
		},
		"SetField": func(a impl.Arena) told {
			r := impl.SetField(a, at, i, value)
			return told{code: r.Code, arena: r.Arena, numbers: [2]int64{r.At}}
		},
	}
}

func equalTold(a, b told) bool {
	return a.code == b.code && a.numbers == b.numbers && equalArenas(a.arena, b.arena) &&
		slices.Equal(a.list, b.list) && slices.EqualFunc(a.objects, b.objects, equalObjects)
}

func TestObjectFunctionsAnswerAlikeAndChangeNoArgument(t *testing.T) {
	arenas := []impl.Arena{mixedArena(28, 0), mixedArena(43, 1), laid(8, 1), marked(8, 1, 4)}
	for _, f := range faultyShapes() {
		arenas = append(arenas, f.arena)
	}
	for _, a := range arenas {
		before := copied(a)
		for _, at := range []int64{math.MinInt64, -1, 0, 1, 28, 43, 50, math.MaxInt64} {
			for _, i := range []int64{math.MinInt64, 0, 1, 12, 13, math.MaxInt64} {
				for _, value := range []int64{math.MinInt64, -1, 0, 1, 44, math.MaxInt64} {
					for name, call := range objectCalls(at, i, value) {
						first, second := call(a), call(a)
						if !equalTold(first, second) {
							t.Errorf("%s %d %d %d of %+v answers %+v and then %+v", name, at, i, value, a, first, second)
						}
						if !equalArenas(a, before) {
							t.Fatalf("%s %d %d %d turned %+v into %+v", name, at, i, value, before, a)
						}
					}
				}
			}
		}
	}
}

func TestAnswersOfObjectFunctionsShareNoMemory(t *testing.T) {
	for _, active := range []int64{0, 1} {
		a := mixedArena(43, active)
		b := active * 43
		a.Words = slices.Grow(a.Words, 50) // so that an answer that is appended to would be seen there
		before, again := copied(a), mixed(b)
		for name, call := range objectCalls(b, 1, 1) {
			first, second := call(a), call(a)
			spoil(first)
			if !equalTold(second, call(a)) || !equalArenas(a, before) {
				t.Errorf("%s: what was done to an answer is seen in another or in the argument", name)
			}
		}
		objects := impl.ObjectsIn(a).Objects
		for n := range objects {
			objects[n].Fields = append(objects[n].Fields, 99)
			for i := range objects[n].Fields {
				objects[n].Fields[i] = 77
			}
			if !slices.EqualFunc(objects[n+1:], again[n+1:], equalObjects) || !equalArenas(a, before) {
				t.Errorf("what was done to the fields of the object %d is seen in others: %+v", n, objects)
			}
		}
	}
}

// spoil writes on all lists of an answer and behind them.
func spoil(answer told) {
	lists := [][]int64{answer.arena.Words, answer.list}
	for _, o := range answer.objects {
		lists = append(lists, o.Fields)
	}
	for _, list := range lists {
		for i := range list[:cap(list)] {
			list[:cap(list)][i] = 55
		}
	}
	for i := range answer.objects {
		answer.objects[i] = impl.Object{At: 55}
	}
}

func TestSameObjectsChangesNothing(t *testing.T) {
	a, b := mixed(0), mixed(0)
	b[3].Fields[0]--
	if impl.SameObjects(a, b) || !slices.EqualFunc(a, mixed(0), equalObjects) || b[3].Fields[0] != impl.MaxValue-1 {
		t.Error("what was asked was turned", a, b)
	}
}

// TestManyObjectsAndFields puts objects and sets fields one behind the other, and holds the arena
// against a list of objects.
func TestManyObjectsAndFields(t *testing.T) {
	for seed := range uint64(60) {
		r := rand.New(rand.NewPCG(3, seed))
		half, active := 8+r.Int64N(193), r.Int64N(2)
		base := active * half
		a := laid(half, active)
		var objects []impl.Object
		for range 120 {
			if len(objects) == 0 || r.IntN(3) == 0 {
				size := r.Int64N(13)
				h := impl.Head{Size: size, Mask: r.Int64N(1 << size), Owner: r.Int64N(4), Hash: r.Int64N(100000)}
				got := impl.PutObject(a, h)
				if a.Bump+2+size > half {
					wantRefusal(t, "a full half", got, impl.ErrFull)
					continue
				}
				objects = placed(base, append(objects, impl.Object{Head: h, Fields: make([]int64, size)})...)
				wantArena(t, "PutObject", got, laid(half, active, objects...), objects[len(objects)-1].At)
				a = got.Arena
				continue
			}
			o := objects[r.IntN(len(objects))]
			target := objects[r.IntN(len(objects))].At + 1
			i, value := r.Int64N(13), target-r.Int64N(2)*r.Int64N(3)
			got := impl.SetField(a, o.At, i, value)
			switch {
			case i >= o.Head.Size:
				wantRefusal(t, "no field", got, impl.ErrRange)
			case isPointerField(o.Head, i) && !mayPoint(objects, o.Head.Owner, value):
				wantRefusal(t, "no pointer", got, impl.ErrForm)
			default:
				o.Fields[i] = value
				wantArena(t, "SetField", got, laid(half, active, objects...), 0)
				a = got.Arena
			}
			if code := impl.ShapeFault(a); code != impl.OK {
				t.Fatalf("the code %d of %+v", code, a)
			}
			wantObjects(t, "ObjectsIn", impl.ObjectsIn(a), impl.OK, objects...)
		}
	}
}
