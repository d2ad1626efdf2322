package impl

import "slices"

const OK = 0
const ErrForm = 1
const ErrMany = 2
const ErrRange = 3
const ErrNone = 4
const ErrText = 5
const ErrHandle = 6
const ErrFull = 7
const ErrState = 8
const ErrQuota = 9
const MinHalf = 8
const MaxHalf = 200
const MaxValue = 1000000000

type Arena struct {
	Half   int64
	Words  []int64
	Active int64
	Bump   int64
}
type IntResult struct {
	Code  int64
	Value int64
}
type IntsResult struct {
	Code int64
	List []int64
}
type ArenaResult struct {
	Code  int64
	Arena Arena
	At    int64
}

type bound struct {
	value    int64
	least    int64
	greatest int64
}

// halves are copies of an arena's words, so that what is written there is
// never seen in an argument.
type halves [2][]int64

func isOutside(bounds ...bound) bool {
	for _, b := range bounds {
		if b.value < b.least || b.value > b.greatest {
			return true
		}
	}
	return false
}

func wordBound(word int64) bound {
	return bound{word, -MaxValue, MaxValue}
}

func placeBound(a Arena, at int64) bound {
	return bound{at, 0, 2*a.Half - 1}
}

func baseOf(a Arena) int64 {
	return a.Active * a.Half
}

func halvesOf(a Arena) halves {
	return halves{slices.Clone(a.Words[:a.Half]), slices.Clone(a.Words[a.Half:])}
}

func (h halves) put(at int64, word int64) {
	half := int64(len(h[0]))
	h[at/half][at%half] = word
}

func withHalves(a Arena, h halves) Arena {
	a.Words = slices.Concat(h[0], h[1])
	return a
}

func ArenaFault(a Arena) int64 {
	if isOutside(bound{a.Half, MinHalf, MaxHalf}, bound{a.Active, 0, 1}, bound{a.Bump, 0, a.Half}) {
		return ErrRange
	}
	if int64(len(a.Words)) != 2*a.Half {
		return ErrMany
	}
	for _, word := range a.Words {
		if isOutside(wordBound(word)) {
			return ErrRange
		}
	}
	return OK
}

func NewArena(half int64) ArenaResult {
	if isOutside(bound{half, MinHalf, MaxHalf}) {
		return ArenaResult{Code: ErrRange}
	}
	h := halves{make([]int64, half), make([]int64, half)}
	return ArenaResult{Arena: withHalves(Arena{Half: half}, h)}
}

func ReadAt(a Arena, at int64) IntResult {
	if code := ArenaFault(a); code != OK {
		return IntResult{Code: code}
	}
	if isOutside(placeBound(a, at)) {
		return IntResult{Code: ErrRange}
	}
	return IntResult{Value: a.Words[at]}
}

func WriteAt(a Arena, at int64, value int64) ArenaResult {
	if code := ArenaFault(a); code != OK {
		return ArenaResult{Code: code}
	}
	if isOutside(placeBound(a, at), wordBound(value)) {
		return ArenaResult{Code: ErrRange}
	}
	h := halvesOf(a)
	h.put(at, value)
	return ArenaResult{Arena: withHalves(a, h)}
}

func ZeroRange(a Arena, from int64, n int64) ArenaResult {
	if code := ArenaFault(a); code != OK {
		return ArenaResult{Code: code}
	}
	end := 2 * a.Half
	// n is asked apart, since end - from could overflow ahead of from's own bound.
	if isOutside(bound{from, 0, end}) || isOutside(bound{n, 0, end - from}) {
		return ArenaResult{Code: ErrRange}
	}
	h := halvesOf(a)
	for i := range n {
		h.put(from+i, 0)
	}
	return ArenaResult{Arena: withHalves(a, h)}
}

func TakeWords(a Arena, n int64) ArenaResult {
	if code := ArenaFault(a); code != OK {
		return ArenaResult{Code: code}
	}
	if isOutside(bound{n, 1, a.Half}) {
		return ArenaResult{Code: ErrRange}
	}
	if a.Bump+n > a.Half {
		return ArenaResult{Code: ErrFull}
	}
	taken := withHalves(a, halvesOf(a))
	taken.Bump += n
	return ArenaResult{Arena: taken, At: baseOf(a) + a.Bump}
}

func FlipArena(a Arena) ArenaResult {
	if code := ArenaFault(a); code != OK {
		return ArenaResult{Code: code}
	}
	h := halvesOf(a)
	clear(h[a.Active])
	flipped := withHalves(a, h)
	flipped.Active = 1 - a.Active
	flipped.Bump = 0
	return ArenaResult{Arena: flipped}
}

// SameArenas is asked of arenas with faults, too.
func SameArenas(a Arena, b Arena) bool {
	return a.Half == b.Half && a.Active == b.Active && a.Bump == b.Bump && slices.Equal(a.Words, b.Words)
}
