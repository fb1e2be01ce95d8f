package tests

import (
	"bytes"
	"math"
	"slices"
	"testing"
)

// mark fills the spare room behind a text; as the second byte of a rune it would make one whole.
const mark = 0xa3

// roomy gives b again with spare room behind it, full of marks.
func roomy(b []byte) []byte {
	all := slices.Concat(b, bytes.Repeat([]byte{mark}, 8))
	return all[:len(b)]
}

// untouched fails if b, made by roomy of was, or the spare room behind it was written into.
func untouched(t *testing.T, name string, b []byte, was []byte) {
	t.Helper()
	if !bytes.Equal(b[:cap(b)][:len(was)+8], slices.Concat(was, bytes.Repeat([]byte{mark}, 8))) {
		t.Fatalf("%s wrote into its argument % x", name, was)
	}
}

// strange has numbers that are no runes, some of which are runes when cut to 32 bits.
func strange() []int {
	list := []int{math.MinInt, math.MinInt + 1, -65296, -2406, -48, -9, -1, 55296, 55297, 57342, 57343,
		1114112, 1114113, 1<<31 - 1, 1 << 31, math.MaxInt - 1, math.MaxInt}
	for _, r := range []int{0, 9, 32, 43, 45, 48, 57, 97, 160, 1632, 1776, 2406, 8201, 8722, 12288, 65291, 65293, 65296, 65533} {
		list = append(list, r+1<<32, r-1<<32, r+1<<48, r+1<<21)
	}
	return list
}
