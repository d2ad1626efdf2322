package tests

import (
	"slices"
	"testing"

	"loop.example/g00723/impl"
)

// made is an object of these fields that stands nowhere yet.
func made(owner, mask, hash int64, fields ...int64) impl.Object {
	return impl.Object{Head: impl.Head{Size: int64(len(fields)), Mask: mask, Owner: owner, Hash: hash}, Fields: fields}
}

// placed tells these objects their places, one behind the other, and has copies of their fields.
func placed(base int64, objects ...impl.Object) []impl.Object {
	list := make([]impl.Object, len(objects))
	for i, o := range objects {
		o.At, o.Fields = base, slices.Clone(o.Fields)
		list[i] = o
		base += 2 + int64(len(o.Fields))
	}
	return list
}

// laid is an arena with these objects one behind the other; it does not use the program.
func laid(half, active int64, objects ...impl.Object) impl.Arena {
	var taken []int64
	for _, o := range objects {
		h := o.Head
		taken = append(taken, 1+2*(h.Size+16*(h.Mask+4096*h.Owner)), h.Hash)
		taken = append(taken, o.Fields...)
	}
	a := impl.Arena{Half: half, Active: active, Bump: int64(len(taken)), Words: make([]int64, 2*half)}
	copy(a.Words[active*half:], taken)
	return a
}

// mixed are objects that take 28 words, at whatever base they stand: one that leads to itself and
// to one behind it, one of no fields, one that leads ahead, one more, and one of 12 pointers.
func mixed(base int64) []impl.Object {
	twelve := make([]int64, 12)
	twelve[0], twelve[11] = base+15, base+15
	return placed(base,
		made(0, 5, 7, base+1, -impl.MaxValue, base+11),
		made(1, 0, 99999),
		made(1, 1, 0, base+6),
		made(0, 2, 8, impl.MaxValue, base+1),
		made(3, 4095, 9, twelve...),
	)
}

// mixedPlaces are how far from the base the objects of mixed stand.
var mixedPlaces = []int64{0, 5, 7, 10, 14}

// mixedArena is just full, if half is 28.
func mixedArena(half, active int64) impl.Arena {
	return laid(half, active, mixed(active*half)...)
}

func withBump(a impl.Arena, bump int64) impl.Arena {
	a = copied(a)
	a.Bump = bump
	return a
}

func isTaken(a impl.Arena, at int64) bool {
	base := a.Active * a.Half
	return at >= base && at < base+a.Bump
}

// formlessArenas have no ArenaFault, but what is taken there is not objects alone. In some of them
// a pointer or a word that is not taken would be a fault, too.
func formlessArenas(half, active int64) []faultyArena {
	good, empty := mixedArena(half, active), laid(half, active)
	base, other := int(active*half), int((1-active)*half)
	list := []faultyArena{
		{name: "one word of a head", arena: withBump(laid(half, active, made(0, 0, 0)), 1)},
		{name: "one word of 0", arena: withBump(empty, 1)},
		{name: "two words of 0", arena: withBump(empty, 2)},
		{name: "all words are taken and 0", arena: withBump(empty, half)},
		{name: "a word is left behind an object of 11 fields", arena: withWord(good, base+14, 23)},
		{name: "a Size above what is left", arena: withWord(good, base+10, 25+16)},
		{name: "a forward word", arena: withWord(good, base, 2)},
		{name: "a forward word behind others", arena: withWord(good, base+5, 16)},
		{name: "a first word of 0", arena: withWord(good, base+7, 0)},
		{name: "a negative first word", arena: withWord(good, base+7, -35)},
		{name: "a Size above 12", arena: withWord(good, base+14, 27)},
		{name: "a Mask above its Size", arena: withWord(good, base+5, 33)},
		{name: "an Owner of 4", arena: withWord(good, base+5, 1+1<<19)},
		{name: "a negative hash", arena: withWord(good, base+1, -1)},
		{name: "a hash that is 1 too great", arena: withWord(good, base+15, 100000)},
		{name: "no head, and a pointer astray", arena: withWord(withWord(good, base+2, 2), base+14, 0)},
		{name: "no head, and a word that is not taken", arena: withWord(withWord(good, base+14, 0), other+5, 5)},
	}
	for i := range list {
		list[i].code = impl.ErrForm
	}
	return list
}

// misledArenas hold objects alone, but a pointer or a word that is not taken is a fault.
func misledArenas(half, active int64) []faultyArena {
	good, base, other := mixedArena(half, active), active*half, (1-active)*half
	var list []faultyArena
	for _, c := range []struct {
		name string
		word int64
	}{
		{"to an object of another Owner", base + 5 + 1},
		{"to the last object, of another Owner", base + 14 + 1},
		{"to the second word of an object", base + 1 + 1},
		{"to a field", base + 10 + 2 + 1},
		{"to the place just behind an object", base + 4 + 1},
		{"that is the place of an object", base + 10},
		{"to where the next object would be", base + 28 + 1},
		{"into the other half", other + 10 + 1},
		{"behind all words", 2*half + 1},
		{"that is negative", -1},
		{"that is an object's, but for its sign", -(base + 10 + 1)},
		{"that is the greatest word", impl.MaxValue},
		{"that is the least word", -impl.MaxValue},
	} {
		for _, at := range []int64{base + 2, base + 4, base + 13} {
			list = append(list, faultyArena{"a pointer " + c.name, withWord(good, int(at), c.word), impl.ErrState})
		}
	}
	for at := range 2 * half {
		if !isTaken(good, at) {
			list = append(list, faultyArena{"a word that is not taken", withWord(good, int(at), 1-2*(at%2)), impl.ErrState})
		}
	}
	list = append(list,
		faultyArena{"a pointer of one to another of 12 fields", withWord(good, int(base+27), base+1), impl.ErrState},
		faultyArena{"nothing is taken, and a word is not 0", withWord(laid(half, active), int(base), 1), impl.ErrState},
		faultyArena{"a head that is not taken", withBump(good, 14), impl.ErrState},
	)
	return list
}

// faultyShapes are all arenas of which ShapeFault has a code.
func faultyShapes() []faultyArena {
	list := faultyArenas()
	for _, active := range []int64{0, 1} {
		for _, half := range []int64{28, 33} {
			list = append(list, formlessArenas(half, active)...)
			list = append(list, misledArenas(half, active)...)
		}
	}
	return list
}

func equalObjects(a, b impl.Object) bool {
	return a.At == b.At && a.Head == b.Head && slices.Equal(a.Fields, b.Fields)
}

func wantObjects(t *testing.T, what string, got impl.ObjectsResult, code int64, want ...impl.Object) {
	t.Helper()
	if got.Code != code || !slices.EqualFunc(got.Objects, want, equalObjects) {
		t.Errorf("%s: got %+v, want the code %d and %+v", what, got, code, want)
	}
}

func wantObject(t *testing.T, what string, got impl.ObjectResult, code int64, want impl.Object) {
	t.Helper()
	if got.Code != code || !equalObjects(got.Object, want) {
		t.Errorf("%s: got %+v, want the code %d and %+v", what, got, code, want)
	}
}

// mayPoint tells, of a pointer of an object of this owner, whether it may have this value.
func mayPoint(objects []impl.Object, owner, value int64) bool {
	if value == 0 {
		return true
	}
	return slices.ContainsFunc(objects, func(o impl.Object) bool {
		return o.Head.Owner == owner && o.At == value-1
	})
}

// isPointerField tells it in another way than the program does.
func isPointerField(h impl.Head, i int64) bool {
	left := h.Mask
	for range i {
		left /= 2
	}
	return left%2 == 1
}
