package hash_test

import (
	"bytes"
	"encoding/binary"
	"math"
	"slices"
	"strings"
	"testing"

	"meresman/hash"
)

// The expected hashes were computed from the text of the chapter by a program of another language.

func TestSumOfLabelsAndWords(t *testing.T) { // P1.1
	for _, c := range []struct {
		label string
		words []int
		want  uint64
	}{
		{"", nil, 0},
		{"", []int{0}, 0x9c60c22591400851},
		{"a", nil, 0x80b5f6f3a21f8298},
		{"a", []int{}, 0x80b5f6f3a21f8298},
		{"a", []int{5}, 0xdbbe367e93b58544},
		{"a", []int{6}, 0x49fc8178b938ecaf},
		{"pair", []int{1, 2}, 0xd5e6a2a3a39a5df8},
		{"abcdefgh", []int{1}, 0xf7d2778465f94f8f},
		{"abcdefghi", []int{1, 2, 3}, 0x64b540f187a31dd9},
		{"\xff\x00\x80", []int{-1}, 0x30de3fa6a8e603c1},
		{"n", []int{math.MinInt, math.MaxInt, 0}, 0x9590104c65e91787},
		{"abcdefgh12345678z", []int{-7, 0, 7}, 0x637085d888d7b963},
	} {
		if got := hash.Sum(c.label, c.words...); got != c.want {
			t.Errorf("Sum(%q, %v) = %#x, want %#x", c.label, c.words, got, c.want)
		}
	}
}

func TestBytesOfSlices(t *testing.T) { // P1.2
	for _, c := range []struct {
		label string
		b     []byte
		want  uint64
	}{
		{"", nil, 0x9c60c22591400851},
		{"a", []byte{1, 2}, 0x5cd85cbd93fd0838},
		{"b", nil, 0xaae1dffa869322ae},
		{"b", []byte{}, 0xaae1dffa869322ae},
		{"b", []byte{0}, 0x8a28cfb863514dde},
		{"b", counted(8), 0x890ccfeebd60a7c4},
		{"b", counted(9), 0xb16843c2dd351188},
		{"b", bytes.Repeat([]byte{255}, 8), 0x819aa97f56c9a611},
		{"b", bytes.Repeat([]byte{255}, 16), 0x2540097d6884ae1a},
		{"label of a slice", counted(256), 0x4a62336b25e057cf},
	} {
		if got := hash.Bytes(c.label, c.b); got != c.want {
			t.Errorf("Bytes(%q, %v) = %#x, want %#x", c.label, c.b, got, c.want)
		}
	}
}

func TestBytesIsTheSumOfItsWords(t *testing.T) { // P1.2
	for n := range 50 {
		b := counted(n)
		padded := append(slices.Clone(b), make([]byte, 8)...)
		var words []int
		for i := 0; i < n; i += 8 {
			words = append(words, int(binary.LittleEndian.Uint64(padded[i:])))
		}
		if hash.Bytes("words", b) != hash.Sum("words", append(words, n)...) {
			t.Errorf("%d bytes: not the sum of their words", n)
		}
	}
}

func TestPairIsASum(t *testing.T) { // P1.2
	for _, c := range []struct{ a, b, want uint64 }{
		{0, 0, 0xa37203a6cd944451},
		{1, 2, 0xd5e6a2a3a39a5df8},
		{2, 1, 0x9a705c9df9b46602},
		{math.MaxUint64, 0, 0x53ab7154474e5d4f},
		{1 << 63, 5, 0xd2e16b299fbc35d0},
		{0x0123456789abcdef, 0xfedcba9876543210, 0x36f89bfc7a902d58},
	} {
		if got := hash.Pair(c.a, c.b); got != c.want {
			t.Errorf("Pair(%#x, %#x) = %#x, want %#x", c.a, c.b, got, c.want)
		}
		if hash.Pair(c.a, c.b) != hash.Sum("pair", int(c.a), int(c.b)) {
			t.Errorf("Pair(%#x, %#x) is not the sum of both", c.a, c.b)
		}
	}
}

func TestMixingCanBeUndone(t *testing.T) { // P1.3
	for n := range 6 {
		start := unmixed(hash.Sum("label", make([]int, n)...), make([]int, n))
		for _, extreme := range []int{1, -1, math.MaxInt, math.MinInt, 1 << 32, 1<<32 - 1} {
			for at := range n {
				words := make([]int, n)
				words[at] = extreme
				if unmixed(hash.Sum("label", words...), words) != start {
					t.Errorf("the state before the words %v depends on them", words)
				}
			}
		}
	}
}

func TestOneOtherWordHasAnotherSum(t *testing.T) { // P1.3
	words := []int{0, -1, math.MaxInt, 12345}
	for at := range words {
		sums := sumsSeen{}
		sums.note(t, hash.Sum("x", words...))
		for bit := range 64 {
			other := slices.Clone(words)
			other[at] ^= 1 << bit
			sums.note(t, hash.Sum("x", other...))
		}
	}
	sums := sumsSeen{}
	for n := -5000; n < 5000; n++ {
		sums.note(t, hash.Sum("x", 3, n, 3))
	}
}

func TestOneOtherGroupHasAnotherHash(t *testing.T) { // P1.3
	for _, n := range []int{1, 7, 8, 9, 15, 16, 17, 23} {
		for start := 0; start < n; start += 8 {
			ofBytes, ofLabels := sumsSeen{}, sumsSeen{}
			for _, b := range variants(counted(n), start) {
				ofBytes.note(t, hash.Bytes("x", b))
				ofLabels.note(t, hash.Sum(string(b), 1, 2))
			}
		}
	}
}

func TestPaddingIsNotContent(t *testing.T) { // P1.1, P1.2
	for _, whole := range []int{0, 8, 16} {
		zeros, labels := sumsSeen{}, sumsSeen{}
		for n := whole + 1; n <= whole+8; n++ {
			zeros.note(t, hash.Bytes("zeros", make([]byte, n)))
			labels.note(t, hash.Sum(strings.Repeat("\x00", n), 1))
		}
	}
}

func TestPairIsInjectiveInEachArgument(t *testing.T) { // P1.4
	for _, fixed := range []uint64{0, 1, 1 << 63, math.MaxUint64, 0x9E3779B97F4A7C15} {
		first, second := sumsSeen{}, sumsSeen{}
		for _, x := range distinctWords() {
			first.note(t, hash.Pair(x, fixed))
			second.note(t, hash.Pair(fixed, x))
		}
	}
}

func TestExamples(t *testing.T) {
	if hash.Sum("a", 5) == hash.Sum("a", 6) {
		t.Error("the sums of 5 and 6 are equal")
	}
	if hash.Bytes("a", []byte{1, 2}) != hash.Sum("a", 513, 2) {
		t.Error("the hash of two bytes is not the sum of their word and length")
	}
}

func TestArgumentsStayAsTheyAre(t *testing.T) { // R1, R3
	room := []byte{1, 2, 3, 4, 5, 6, 7, 8, 9, 10, 11, 12}
	words := []int{3, -4, 5, 6}
	first := [2]uint64{hash.Bytes("x", room[:3]), hash.Sum("x", words[:2]...)}
	if !bytes.Equal(room, []byte{1, 2, 3, 4, 5, 6, 7, 8, 9, 10, 11, 12}) {
		t.Errorf("Bytes has changed its argument: %v", room)
	}
	if !slices.Equal(words, []int{3, -4, 5, 6}) {
		t.Errorf("Sum has changed its argument: %v", words)
	}
	again := [2]uint64{hash.Bytes("x", []byte{1, 2, 3}), hash.Sum("x", 3, -4)}
	if first != again {
		t.Errorf("the same arguments have the hashes %x and %x", first, again)
	}
}

func FuzzAllArguments(f *testing.F) { // P1
	f.Add("", []byte(nil), uint64(0), uint64(0))
	f.Add("\xff\xfe", []byte("some bytes"), uint64(1<<63), uint64(math.MaxUint64))
	f.Fuzz(func(t *testing.T, label string, b []byte, x, y uint64) {
		if x != y && hash.Sum(label, int(x), len(b)) == hash.Sum(label, int(y), len(b)) {
			t.Errorf("the sums of %d and %d are equal", x, y)
		}
		if hash.Bytes(label, b) != hash.Bytes(label, slices.Clone(b)) {
			t.Errorf("equal bytes have different hashes")
		}
		if x != y && hash.Pair(x, 7) == hash.Pair(y, 7) {
			t.Errorf("the pairs with %d and %d are equal", x, y)
		}
	})
}

// sumsSeen reports hashes that are there twice.
type sumsSeen map[uint64]bool

func (s sumsSeen) note(t *testing.T, h uint64) {
	t.Helper()
	if s[h] {
		t.Errorf("the hash %#x is there twice", h)
	}
	s[h] = true
}

// counted returns n bytes, counted from 0 on.
func counted(n int) []byte {
	b := make([]byte, n)
	for i := range b {
		b[i] = byte(i)
	}
	return b
}

// variants returns b, and b with each single bit and with all bits of the group at start inverted.
func variants(b []byte, start int) [][]byte {
	end := min(start+8, len(b))
	all := slices.Clone(b)
	l := [][]byte{b}
	for i := start; i < end; i++ {
		all[i] ^= 255
		for bit := range 8 {
			other := slices.Clone(b)
			other[i] ^= 1 << bit
			l = append(l, other)
		}
	}
	return append(l, all)
}

// distinctWords returns single bits, their complements, and small numbers.
func distinctWords() []uint64 {
	var l []uint64
	for bit := range 64 {
		l = append(l, 1<<bit, ^uint64(1<<bit))
	}
	for n := range uint64(1000) {
		l = append(l, n, ^n)
	}
	slices.Sort(l)
	return slices.Compact(l)
}

// unmixed returns the state from which mixing in the words, and the 0 at the end, has led to a sum.
func unmixed(state uint64, words []int) uint64 {
	const inverse = 0xF1DE83E19937733D // of the factor, modulo 2^64
	words = append(slices.Clone(words), 0)
	for _, word := range slices.Backward(words) {
		state = (state^state>>32)*inverse ^ uint64(word)
	}
	return state
}
