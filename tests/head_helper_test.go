package tests

import (
	"math"
	"slices"
	"testing"

	"loop.example/g00723/impl"
)

// oddWords are first words of no head, though some of their bits alone would tell one.
var oddWords = []int64{
	math.MinInt64 + 1, math.MinInt64 + 37, math.MinInt64/2 + 1, math.MinInt64/4 + 1, math.MaxInt64, math.MaxInt64 - 2, math.MaxInt64/2 - 26,
	-1, -3, -37, -impl.MaxValue - 1, -impl.MaxValue + 1, impl.MaxValue - 1, impl.MaxValue + 1,
	27, 29, 31, // Size 13 to 15
	33, 35 + 64, // Mask just above what its Size allows
	524283, 524287, 524289, 524289 + 36, 1<<31 + 37, 1<<32 + 37, 1<<62 + 37,
}

// everyHead goes through the heads with all sizes, masks and owners, and this hash.
func everyHead(hash int64, visit func(h impl.Head)) {
	limit := int64(1)
	for size := range int64(13) {
		for mask := range limit {
			for owner := range int64(4) {
				visit(impl.Head{Size: size, Mask: mask, Owner: owner, Hash: hash})
			}
		}
		limit *= 2
	}
}

// isHead tells in another way than the program what is right: there is no bit of Mask from Size on.
func isHead(h impl.Head) bool {
	if h.Size < 0 || h.Size > 12 || h.Owner < 0 || h.Owner > 3 || h.Hash < 0 || h.Hash > 99999 || h.Mask < 0 {
		return false
	}
	left := h.Mask
	for range h.Size {
		left /= 2
	}
	return left == 0
}

// faultyHeads has each fault of a head alone, just outside its bound and far from it, and such in
// which more than one is so.
func faultyHeads() []impl.Head {
	list := []impl.Head{
		{Size: 13}, {Size: -1}, {Size: 16}, {Size: 63, Mask: 1}, {Size: 64}, {Size: 65, Mask: 1},
		{Mask: 1}, {Size: 1, Mask: 2}, {Size: 2, Mask: 4}, {Size: 11, Mask: 2048}, {Size: 12, Mask: 4096}, {Size: 12, Mask: -1}, {Mask: -1},
		{Size: 3, Mask: 1 << 32}, {Size: 13, Mask: 4096}, {Size: 13, Mask: 1},
		{Owner: 4}, {Owner: -1}, {Size: 12, Mask: 4095, Owner: 4}, {Hash: 100000}, {Hash: -1}, {Size: 12, Mask: 4095, Owner: 3, Hash: 100000},
		{Size: 13, Mask: 8192, Owner: 4, Hash: -1},
	}
	for _, n := range strange {
		for _, h := range []impl.Head{{Size: n}, {Size: n, Mask: 1}, {Mask: n}, {Size: 12, Mask: n}, {Owner: n}, {Hash: n}, {Size: n, Mask: n, Owner: n, Hash: n}} {
			if !isHead(h) {
				list = append(list, h)
			}
		}
	}
	return list
}

func wantInts(t *testing.T, what string, got impl.IntsResult, code int64, list ...int64) {
	t.Helper()
	if got.Code != code || !slices.Equal(got.List, list) {
		t.Errorf("%s: got %+v, want the code %d and %v", what, got, code, list)
	}
}

func wantHead(t *testing.T, what string, got impl.HeadResult, code int64, h impl.Head) {
	t.Helper()
	if got.Code != code || got.Head != h {
		t.Errorf("%s: got %+v, want the code %d and %+v", what, got, code, h)
	}
}
