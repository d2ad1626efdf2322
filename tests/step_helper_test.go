package tests

import (
	"fmt"
	"slices"
	"testing"

	"loop.example/g00723/impl"
)

// moment is what there is behind a number of steps of a copying.
type moment struct {
	copied      impl.CopyResult
	ways        []impl.Way
	grey, black []int64
}

func equalCopies(a, b impl.CopyResult) bool {
	return a.Code == b.Code && slices.Equal(a.Words, b.Words) && a.Next == b.Next && a.Scan == b.Scan && a.Free == b.Free && a.Done == b.Done
}

func wantMoment(t *testing.T, what string, a impl.Arena, roots []int64, n int64, want moment) {
	t.Helper()
	what = fmt.Sprint(what, ", behind ", n, " steps")
	if got := impl.CopyAfter(a, roots, n); !equalCopies(got, want.copied) {
		t.Errorf("%s: CopyAfter: got %+v, want %+v", what, got, want.copied)
	}
	if got := impl.WaysAfter(a, roots, n); got.Code != impl.OK || !slices.Equal(got.Ways, want.ways) {
		t.Errorf("%s: WaysAfter: got %+v, want %v", what, got, want.ways)
	}
	wantInts(t, what+": GreyAfter", impl.GreyAfter(a, roots, n), impl.OK, want.grey...)
	wantInts(t, what+": BlackAfter", impl.BlackAfter(a, roots, n), impl.OK, want.black...)
}

// wantStepsRefused asks that each function that is asked of a number of steps has this code, and
// nothing beside it.
func wantStepsRefused(t *testing.T, what string, a impl.Arena, roots []int64, n, code int64) {
	t.Helper()
	wantMomentRefused := func(name string, gotCode int64, isNothing bool) {
		t.Helper()
		if gotCode != code || !isNothing {
			t.Errorf("%s, %d steps: %s has the code %d (and nothing beside it: %v), want %d", what, n, name, gotCode, isNothing, code)
		}
	}
	c := impl.CopyAfter(a, roots, n)
	wantMomentRefused("CopyAfter", c.Code, len(c.Words) == 0 && c.Next == 0 && c.Scan == 0 && c.Free == 0 && !c.Done)
	w := impl.WaysAfter(a, roots, n)
	wantMomentRefused("WaysAfter", w.Code, len(w.Ways) == 0)
	g := impl.GreyAfter(a, roots, n)
	wantMomentRefused("GreyAfter", g.Code, len(g.List) == 0)
	b := impl.BlackAfter(a, roots, n)
	wantMomentRefused("BlackAfter", b.Code, len(b.List) == 0)
}

// stepCounts are numbers of steps that are right, and such that are none.
var stepCounts = slices.Concat([]int64{0, 1, 3, 499, 500}, noStepCounts)

// wantCopyingRefused asks it of all functions that have roots, whatever the number of steps.
func wantCopyingRefused(t *testing.T, what string, a impl.Arena, roots []int64, code int64) {
	t.Helper()
	for _, n := range stepCounts {
		wantStepsRefused(t, what, a, roots, n, code)
	}
	wantWord(t, what+": CopySteps", impl.CopySteps(a, roots), code, 0)
	got := impl.FinishCopy(a, roots)
	if got.Code != code || got.Moved != 0 || len(got.Roots) != 0 || !isZeroArena(got.Arena) {
		t.Errorf("%s: FinishCopy: got %+v, want the code %d and nothing beside it", what, got, code)
	}
}

// targetsOf are the places to which the pointers of an object lead, in order.
func targetsOf(o impl.Object) []int64 {
	var targets []int64
	for i, word := range o.Fields {
		if isPointerField(o.Head, int64(i)) && word != 0 {
			targets = append(targets, word-1)
		}
	}
	return targets
}

func withoutRepeats(list []int64) []int64 {
	var once []int64
	for _, n := range list {
		if !slices.Contains(once, n) {
			once = append(once, n)
		}
	}
	return once
}

// modelBrought are the places of what is brought over behind n steps, in the order in which it is,
// and how many of them were looked through.
func modelBrought(objects []impl.Object, roots []int64, n int64) (brought []int64, black int) {
	brought = withoutRepeats(roots[:min(n, int64(len(roots)))])
	for left := n - int64(len(roots)); left > 0 && black < len(brought); left-- {
		targets := targetsOf(objectOf(objects, brought[black]))
		brought = withoutRepeats(slices.Concat(brought, targets))
		black++
	}
	return brought, black
}

// modelMoment lays what there is behind n steps at once, without doing any of them.
func modelMoment(objects []impl.Object, half, active int64, roots []int64, n int64) moment {
	brought, black := modelBrought(objects, roots, n)
	var there []impl.Object
	for _, at := range brought {
		there = append(there, objectOf(objects, at))
	}
	base := (1 - active) * half
	there = placed(base, there...)
	m := moment{copied: impl.CopyResult{Next: min(n, int64(len(roots))), Scan: base, Free: base + wordsIn(there)}}
	words := laid(half, active, objects...).Words
	for i, o := range there {
		words[brought[i]] = 2 + 2*o.At
		m.ways = append(m.ways, impl.Way{From: brought[i], To: o.At})
		if i >= black {
			m.grey = append(m.grey, o.At)
			continue
		}
		m.black = append(m.black, o.At)
		m.copied.Scan = o.At + 2 + int64(len(o.Fields))
		for j, word := range o.Fields {
			if isPointerField(o.Head, int64(j)) && word != 0 {
				o.Fields[j] = 1 + there[slices.Index(brought, word-1)].At
			}
		}
	}
	copy(words[base:base+half], laid(half, 1-active, there...).Words[base:])
	m.copied.Words = words
	m.copied.Done = m.copied.Next == int64(len(roots)) && black == len(brought)
	slices.SortFunc(m.ways, func(v, w impl.Way) int { return int(v.From - w.From) })
	return m
}

// stepsToLookAt are 0 to two behind the last step, and far behind it.
func stepsToLookAt(last int) []int64 {
	var steps []int64
	for n := range last + 3 {
		steps = append(steps, int64(n))
	}
	return append(steps, 250, 499, 500)
}

// checkSteps holds each step of a copying against what a model tells.
func checkSteps(t *testing.T, objects []impl.Object, half, active int64, roots []int64) {
	t.Helper()
	a := laid(half, active, objects...)
	what := fmt.Sprintf("%+v from %v", a, roots)
	last := len(roots) + len(modelReach(objects, roots))
	wantWord(t, "CopySteps "+what, impl.CopySteps(a, roots), impl.OK, int64(last))
	for _, n := range stepsToLookAt(last) {
		wantMoment(t, what, a, roots, n, modelMoment(objects, half, active, roots, n))
	}
}

// wantFinished asks that what is left in the end is what a collection leaves.
func wantFinished(t *testing.T, what string, a impl.Arena, roots []int64) {
	t.Helper()
	got, want := impl.FinishCopy(a, roots), impl.Collect(a, roots)
	if got.Code != impl.OK || want.Code != impl.OK {
		t.Errorf("%s: FinishCopy has the code %d, and Collect %d", what, got.Code, want.Code)
	}
	wantCollected(t, what+": FinishCopy", got, want.Arena, want.Roots)
	if got.Moved != want.Moved {
		t.Errorf("%s: FinishCopy moved %d words, and Collect %d", what, got.Moved, want.Moved)
	}
	wantAlike(t, what+": FinishCopy", a, roots, got.Arena, got.Roots, true)
	if code := impl.ShapeFault(got.Arena); code != impl.OK {
		t.Errorf("%s: FinishCopy: ShapeFault %d", what, code)
	}
}

// wantDoneBehind asks that it is done behind as many steps as there are roots and objects that are
// reached, and not one ahead of that.
func wantDoneBehind(t *testing.T, what string, a impl.Arena, roots []int64) {
	t.Helper()
	last := int64(len(roots) + len(impl.ReachFrom(a, roots).List))
	wantWord(t, what+": CopySteps", impl.CopySteps(a, roots), impl.OK, last)
	for _, n := range stepsToLookAt(int(last)) {
		if got := impl.CopyAfter(a, roots, n); got.Done != (n >= last) {
			t.Errorf("%s: behind %d steps of %d: %+v", what, n, last, got)
		}
	}
	end := impl.CopyAfter(a, roots, last)
	for _, n := range []int64{last + 1, 500} {
		if got := impl.CopyAfter(a, roots, n); !equalCopies(got, end) {
			t.Errorf("%s: it is done behind %d steps, but %d make %+v of %+v", what, last, n, got, end)
		}
	}
}

// wantOnce asks that each object is brought over once, and that the ways tell where it is now.
func wantOnce(t *testing.T, what string, a impl.Arena, c impl.CopyResult, ways []impl.Way, there []impl.Object) {
	t.Helper()
	before := modelObjects(a)
	var from, to []int64
	for _, w := range ways {
		if slices.Contains(from, w.From) || slices.Contains(to, w.To) {
			t.Errorf("%s: more than one way from or to one place: %v", what, ways)
		}
		from, to = append(from, w.From), append(to, w.To)
		old, now := objectOf(before, w.From), objectOf(there, w.To)
		if c.Words[w.From] != 2+2*w.To || old.Head != now.Head || c.Words[w.From+1] != now.Head.Hash {
			t.Errorf("%s: the way %v does not tell where the object is: %+v", what, w, c)
		}
		if !slices.Equal(c.Words[w.From+2:w.From+2+old.Head.Size], old.Fields) {
			t.Errorf("%s: more than the first word at %d is turned: %+v", what, w.From, c)
		}
	}
	if !slices.IsSorted(from) || len(ways) != len(there) {
		t.Errorf("%s: these ways do not lead to %+v in order: %v", what, there, ways)
	}
	for _, o := range before {
		if !slices.Contains(from, o.At) && c.Words[o.At] != a.Words[o.At] {
			t.Errorf("%s: what was not brought over at %d is turned: %+v", what, o.At, c)
		}
	}
}

// wantColours asks that what is black leads to what was brought over alone, and that what is grey
// has the fields that it had.
func wantColours(t *testing.T, what string, a impl.Arena, ways []impl.Way, there []impl.Object, black, grey []int64) {
	t.Helper()
	before := modelObjects(a)
	var all []int64
	for _, o := range there {
		all = append(all, o.At)
	}
	if !slices.Equal(slices.Concat(black, grey), all) {
		t.Errorf("%s: %v and %v are not all of %v", what, black, grey, all)
	}
	for _, w := range ways {
		old, now := objectOf(before, w.From), objectOf(there, w.To)
		if slices.Contains(grey, w.To) {
			if !slices.Equal(old.Fields, now.Fields) {
				t.Errorf("%s: what is grey at %d is not as it was: %+v", what, w.To, there)
			}
			continue
		}
		for i, word := range old.Fields {
			if isPointerField(old.Head, int64(i)) && word != 0 {
				lead := slices.IndexFunc(ways, func(w impl.Way) bool { return w.From == word-1 })
				if lead < 0 {
					t.Errorf("%s: what is black at %d leads to what is not brought over: %+v", what, w.To, there)
					continue
				}
				word = 1 + ways[lead].To
			}
			if now.Fields[i] != word {
				t.Errorf("%s: the field %d of what is black at %d is not %d: %+v", what, i, w.To, word, there)
			}
		}
	}
}

// wantPromised asks what is promised of a copying, of the program's own answers.
func wantPromised(t *testing.T, what string, a impl.Arena, roots []int64) {
	t.Helper()
	wantDoneBehind(t, what, a, roots)
	wantFinished(t, what, a, roots)
	base := (1 - a.Active) * a.Half
	for _, n := range stepsToLookAt(int(impl.CopySteps(a, roots).Value)) {
		what := fmt.Sprint(what, ", behind ", n, " steps")
		c, ways := impl.CopyAfter(a, roots, n), impl.WaysAfter(a, roots, n).Ways
		black, grey := impl.BlackAfter(a, roots, n).List, impl.GreyAfter(a, roots, n).List
		there := modelObjects(impl.Arena{Half: a.Half, Words: c.Words, Active: 1 - a.Active, Bump: c.Free - base})
		wantOnce(t, what, a, c, ways, there)
		wantColours(t, what, a, ways, there, black, grey)
		for at := c.Free; at < base+a.Half; at++ {
			if c.Words[at] != 0 {
				t.Errorf("%s: the word at %d, behind Free, is not 0: %+v", what, at, c)
			}
		}
	}
}
