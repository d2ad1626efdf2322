package tests

import (
	"fmt"
	"math"
	"slices"
	"testing"

	"loop.example/g00723/impl"
)

func TestHeadConstants(t *testing.T) {
	if impl.MaxFields != 12 || impl.MaxTenants != 4 || impl.MaxHash != 99999 || impl.HeadWords != 2 {
		t.Error("bounds", impl.MaxFields, impl.MaxTenants, impl.MaxHash, impl.HeadWords)
	}
}

func TestHeadFaultOfRightHeads(t *testing.T) {
	for _, hash := range []int64{0, 1, 50000, 99999} {
		everyHead(hash, func(h impl.Head) {
			if code := impl.HeadFault(h); code != impl.OK {
				t.Fatalf("%+v: the code %d", h, code)
			}
		})
	}
}

func TestHeadFaultCodes(t *testing.T) {
	for _, h := range faultyHeads() {
		if code := impl.HeadFault(h); code != impl.ErrRange {
			t.Errorf("%+v: the code %d", h, code)
		}
	}
}

func TestHeadFaultOfAny(t *testing.T) {
	near := []int64{math.MinInt64, -4096, -1, 0, 1, 2, 3, 4, 11, 12, 13, 2047, 2048, 4095, 4096, 99999, 100000, math.MaxInt64}
	for _, size := range near {
		for _, mask := range near {
			for _, owner := range near {
				for _, hash := range near {
					h := impl.Head{Size: size, Mask: mask, Owner: owner, Hash: hash}
					if (impl.HeadFault(h) == impl.OK) != isHead(h) {
						t.Fatalf("%+v: the code %d", h, impl.HeadFault(h))
					}
				}
			}
		}
	}
}

func TestPackHead(t *testing.T) {
	for _, c := range []struct {
		head  impl.Head
		first int64
	}{
		{impl.Head{}, 1},
		{impl.Head{Size: 2, Mask: 1, Hash: 5}, 37},
		{impl.Head{Size: 1, Mask: 1, Owner: 1, Hash: 1}, 131107},
		{impl.Head{Owner: 3, Hash: 7}, 393217},
		{impl.Head{Size: 12}, 25},
		{impl.Head{Size: 12, Mask: 1}, 57},
		{impl.Head{Size: 12, Owner: 3}, 393241},
		{impl.Head{Size: 12, Mask: 4095, Hash: 99999}, 131065},
		{impl.Head{Size: 12, Mask: 4095, Owner: 3, Hash: 99999}, 524281},
	} {
		wantInts(t, fmt.Sprintf("PackHead %+v", c.head), impl.PackHead(c.head), impl.OK, c.first, c.head.Hash)
		wantHead(t, fmt.Sprintf("ReadHead %d %d", c.first, c.head.Hash), impl.ReadHead([]int64{c.first, c.head.Hash}), impl.OK, c.head)
	}
}

func TestFaultyHeadsAreRefused(t *testing.T) {
	for _, h := range faultyHeads() {
		wantInts(t, fmt.Sprintf("PackHead %+v", h), impl.PackHead(h), impl.ErrRange)
		wantWord(t, fmt.Sprintf("WordsOf %+v", h), impl.WordsOf(h), impl.ErrRange, 0)
		for i := int64(-1); i < 14; i++ {
			if impl.IsPointer(h, i) {
				t.Errorf("IsPointer %+v %d", h, i)
			}
		}
		for _, i := range strange {
			if impl.IsPointer(h, i) {
				t.Errorf("IsPointer %+v %d", h, i)
			}
		}
	}
}

func TestHeadsAreToldBackByTheirWords(t *testing.T) {
	seen := map[int64]impl.Head{}
	everyHead(4711, func(h impl.Head) {
		packed := impl.PackHead(h)
		first := 1 + 2*(h.Size+16*(h.Mask+4096*h.Owner))
		wantInts(t, fmt.Sprintf("PackHead %+v", h), packed, impl.OK, first, 4711)
		wantHead(t, fmt.Sprintf("ReadHead of the words of %+v", h), impl.ReadHead(packed.List), impl.OK, h)
		if other, ok := seen[first]; ok {
			t.Errorf("%+v and %+v have the same words", h, other)
		}
		seen[first] = h
	})
	for hash := range int64(impl.MaxHash + 1) {
		h := impl.Head{Size: 12, Mask: 4095, Owner: 3, Hash: hash}
		wantHead(t, fmt.Sprintf("ReadHead of the words of %+v", h), impl.ReadHead(impl.PackHead(h).List), impl.OK, h)
	}
}

// TestNoWordTellsBoth goes through all words that are not far from those that tell something.
func TestNoWordTellsBoth(t *testing.T) {
	heads, forwards := map[int64]impl.Head{}, map[int64]int64{}
	everyHead(3, func(h impl.Head) { heads[impl.PackHead(h).List[0]] = h })
	for at := range int64(2 * impl.MaxHalf) {
		forwards[impl.ForwardWord(at).Value] = at
	}
	if len(heads) != 8191*4 || len(forwards) != 400 {
		t.Fatalf("%d heads and %d forward words", len(heads), len(forwards))
	}
	for word := int64(-2000); word < 1200000; word++ {
		h, isHead := heads[word]
		at, isForward := forwards[word]
		if isHead && isForward {
			t.Errorf("the word %d tells %+v and %d", word, h, at)
		}
		headCode, forwardCode := int64(impl.ErrForm), int64(impl.ErrForm)
		if isHead {
			headCode = impl.OK
		}
		if isForward {
			forwardCode = impl.OK
		}
		if got := impl.ReadHead([]int64{word, 3}); got.Code != headCode || got.Head != h {
			t.Errorf("ReadHead %d 3: got %+v, want %+v", word, got, h)
		}
		if got := impl.ReadForward(word); got.Code != forwardCode || got.Value != at {
			t.Errorf("ReadForward %d: got %+v, want %d", word, got, at)
		}
	}
}

func TestReadHeadOfWordsThatAreNoHead(t *testing.T) {
	list := append(slices.Clone(oddWords), 0, 2, 36, 524280, 524282, math.MinInt64, math.MaxInt64-1)
	for k := 19; k < 63; k++ {
		list = append(list, 37+1<<k, 37-1<<k) // the least bits of the word of a head
	}
	for _, first := range list {
		for _, hash := range []int64{0, 5, 99999, -1, 100000, math.MinInt64, math.MaxInt64} {
			wantHead(t, fmt.Sprint("ReadHead ", first, hash), impl.ReadHead([]int64{first, hash}), impl.ErrForm, impl.Head{})
		}
	}
	for _, hash := range strange {
		if hash < 0 || hash > 99999 {
			wantHead(t, fmt.Sprint("ReadHead 37 ", hash), impl.ReadHead([]int64{37, hash}), impl.ErrForm, impl.Head{})
		}
	}
	wantHead(t, "a hash that is 1 too great", impl.ReadHead([]int64{37, 100000}), impl.ErrForm, impl.Head{})
	wantHead(t, "a hash just below 0", impl.ReadHead([]int64{37, -1}), impl.ErrForm, impl.Head{})
}

func TestReadHeadOfTooManyOrTooFewWords(t *testing.T) {
	for _, words := range [][]int64{
		nil, {}, {37}, {37, 5, 0}, {37, 5, 37, 5}, make([]int64, 400),
		{36}, {36, 5, 0}, {math.MinInt64}, {37, -1, math.MaxInt64}, // which are no head, too
	} {
		wantHead(t, fmt.Sprint("ReadHead ", words), impl.ReadHead(words), impl.ErrMany, impl.Head{})
	}
	room := []int64{1, 37, 5, 9}
	wantHead(t, "two words of a longer list", impl.ReadHead(room[1:3]), impl.OK, impl.Head{Size: 2, Mask: 1, Hash: 5})
	wantHead(t, "one word of a longer list", impl.ReadHead(room[1:2]), impl.ErrMany, impl.Head{})
}

func TestWordsOf(t *testing.T) {
	everyHead(0, func(h impl.Head) {
		wantWord(t, fmt.Sprintf("WordsOf %+v", h), impl.WordsOf(h), impl.OK, h.Size+2)
	})
	wantWord(t, "WordsOf no fields", impl.WordsOf(impl.Head{Owner: 3, Hash: 9}), impl.OK, 2)
	wantWord(t, "WordsOf all fields", impl.WordsOf(impl.Head{Size: 12, Mask: 4095, Owner: 3, Hash: 99999}), impl.OK, 14)
}

func TestIsPointer(t *testing.T) {
	everyHead(99999, func(h impl.Head) {
		left := h.Mask
		for i := range h.Size {
			if impl.IsPointer(h, i) != (left%2 == 1) {
				t.Fatalf("IsPointer %+v %d", h, i)
			}
			left /= 2
		}
	})
	for size := range int64(13) {
		all := impl.Head{Size: size, Mask: 1<<size - 1, Owner: 3}
		for _, i := range append([]int64{size, size + 1, 12, 13, 62, 63, 64, 65, -63, -64}, strange...) {
			if want := i >= 0 && i < size; impl.IsPointer(all, i) != want {
				t.Errorf("IsPointer %+v %d is not %v", all, i, want)
			}
		}
	}
}

func TestForwardWords(t *testing.T) {
	wantWord(t, "ForwardWord 7", impl.ForwardWord(7), impl.OK, 16)
	wantWord(t, "ForwardWord 0", impl.ForwardWord(0), impl.OK, 2)
	wantWord(t, "ForwardWord 399", impl.ForwardWord(399), impl.OK, 800)
	for at := range int64(400) {
		word := impl.ForwardWord(at)
		wantWord(t, fmt.Sprint("ForwardWord ", at), word, impl.OK, 2*at+2)
		wantWord(t, fmt.Sprint("ReadForward ", word.Value), impl.ReadForward(word.Value), impl.OK, at)
	}
	for _, at := range strange {
		if at < 0 || at > 399 {
			wantWord(t, fmt.Sprint("ForwardWord ", at), impl.ForwardWord(at), impl.ErrRange, 0)
		}
	}
}

func TestReadForwardOfWordsThatTellNoPlace(t *testing.T) {
	list := append([]int64{0, -2, -1, 1, 3, 17, 37, 799, 801, 802, 803, math.MinInt64 + 2, math.MinInt64 + 16, math.MaxInt64 - 1}, oddWords...)
	for k := 10; k < 63; k++ {
		list = append(list, 16+1<<k, 16-1<<k)
	}
	for _, word := range strange {
		if word%2 != 0 || word < 2 || word > 800 {
			list = append(list, word)
		}
	}
	for _, word := range list {
		wantWord(t, fmt.Sprint("ReadForward ", word), impl.ReadForward(word), impl.ErrForm, 0)
	}
}

func TestReadHeadChangesNoWords(t *testing.T) {
	for _, words := range [][]int64{{37, 5, 9, 9}, {36, 5, 9, 9}, {math.MinInt64, math.MaxInt64, 9, 9}, {-1, -1, 9, 9}} {
		before := slices.Clone(words)
		for n := range 5 {
			first, second := impl.ReadHead(words[:n]), impl.ReadHead(words[:n])
			if first != second {
				t.Errorf("ReadHead %v answers %+v and then %+v", words[:n], first, second)
			}
			if !slices.Equal(words, before) {
				t.Errorf("ReadHead turned %v into %v", before, words)
			}
		}
	}
}

func TestPackedHeadsShareNoMemory(t *testing.T) {
	h := impl.Head{Size: 12, Mask: 4095, Owner: 3, Hash: 5}
	first := impl.PackHead(h).List
	second := impl.PackHead(h).List
	first[0], first[1] = 8, 8
	_ = append(first, 8)
	if !slices.Equal(second, []int64{524281, 5}) {
		t.Error("what was done to one answer is seen in another:", second)
	}
	wantInts(t, "PackHead again", impl.PackHead(h), impl.OK, 524281, 5)
}

func TestHeadFunctionsAnswerAlikeAtEveryArgument(t *testing.T) {
	list := append(slices.Clone(strange), oddWords...)
	for _, x := range list {
		if impl.ForwardWord(x) != impl.ForwardWord(x) || impl.ReadForward(x) != impl.ReadForward(x) {
			t.Errorf("%d is answered in two ways", x)
		}
		for _, y := range list {
			words := []int64{x, y}
			if impl.ReadHead(words) != impl.ReadHead(words) || words[0] != x || words[1] != y {
				t.Errorf("ReadHead %v", words)
			}
			h := impl.Head{Size: x, Mask: y, Owner: y, Hash: x}
			if impl.HeadFault(h) != impl.HeadFault(h) || impl.WordsOf(h) != impl.WordsOf(h) || impl.IsPointer(h, y) != impl.IsPointer(h, y) {
				t.Errorf("%+v is answered in two ways", h)
			}
			first, second := impl.PackHead(h), impl.PackHead(h)
			if first.Code != second.Code || !slices.Equal(first.List, second.List) {
				t.Errorf("PackHead %+v answers %+v and then %+v", h, first, second)
			}
		}
	}
}
