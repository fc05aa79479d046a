package wide

import (
	"cmp"
	"math"
	"math/bits"
)

// The functions of this file calculate with numbers without a sign: words of 32 bits, the lowest one first.
// A number is trimmed if its highest word is not 0; 0 has no words then.

const wordBits = 32

// trimmed returns a number without the zeros that stand above its highest word.
func trimmed(words []uint32) []uint32 {
	for len(words) > 0 && words[len(words)-1] == 0 {
		words = words[:len(words)-1]
	}
	return words
}

func copied(words []uint32) []uint32 {
	c := make([]uint32, len(words))
	copy(c, words)
	return c
}

// wordAt returns a word of a number, which is 0 above the highest one.
func wordAt(words []uint32, i int) uint32 {
	if i < len(words) {
		return words[i]
	}
	return 0
}

// wordsOf returns n as a number of two words.
func wordsOf(n uint64) []uint32 {
	return []uint32{uint32(n), uint32(n >> wordBits)}
}

// lowest returns the two lowest words of a number.
func lowest(words []uint32) uint64 {
	return uint64(wordAt(words, 1))<<wordBits | uint64(wordAt(words, 0))
}

// compareWords compares two trimmed numbers, or two of equal length.
func compareWords(a, b []uint32) int {
	if len(a) != len(b) {
		return cmp.Compare(len(a), len(b))
	}
	for i := len(a) - 1; i >= 0; i-- {
		if a[i] != b[i] {
			return cmp.Compare(a[i], b[i])
		}
	}
	return 0
}

// adding returns a function that adds two words, and the carry of the words before.
func adding() func(a, b uint32) uint32 {
	var carry uint64
	return func(a, b uint32) uint32 {
		total := uint64(a) + uint64(b) + carry
		carry = total >> wordBits
		return uint32(total)
	}
}

// subtracting returns a function that subtracts b from a, and what the words before have borrowed.
func subtracting() func(a, b uint32) uint32 {
	var borrowed uint64
	return func(a, b uint32) uint32 {
		left := uint64(a) - uint64(b) - borrowed
		// Below 0 it wraps around, to a number with all of its upper bits set.
		borrowed = left >> (2*wordBits - 1)
		return uint32(left)
	}
}

// multiplying returns a function that adds b to the product of a and a factor, and the carry of the words before.
func multiplying(factor uint32) func(a, b uint32) uint32 {
	var carry uint64
	return func(a, b uint32) uint32 {
		// With m for the greatest word, m * m + m + m is still less than 2^64.
		total := uint64(a)*uint64(factor) + uint64(b) + carry
		carry = total >> wordBits
		return uint32(total)
	}
}

// sum returns a + b.
func sum(a, b []uint32) []uint32 {
	total := make([]uint32, max(len(a), len(b))+1)
	next := adding()
	for i := range total {
		total[i] = next(wordAt(a, i), wordAt(b, i))
	}
	return total
}

// difference returns a - b; a is not less than b.
func difference(a, b []uint32) []uint32 {
	left := copied(a)
	subtract(left, b)
	return left
}

// subtract takes b from a, in its place; a is not less than b.
func subtract(a, b []uint32) {
	next := subtracting()
	for i := range a {
		a[i] = next(a[i], wordAt(b, i))
	}
}

// product returns a * b.
func product(a, b []uint32) []uint32 {
	total := make([]uint32, len(a)+len(b))
	for i, factor := range a {
		next := multiplying(factor)
		for j, word := range b {
			total[i+j] = next(word, total[i+j])
		}
		total[i+len(b)] = next(0, 0)
	}
	return total
}

// times returns a * factor + more, with one word more than a.
func times(a []uint32, factor, more uint32) []uint32 {
	total := make([]uint32, len(a)+1)
	total[0] = more
	next := multiplying(factor)
	for i := range total {
		total[i] = next(wordAt(a, i), total[i])
	}
	return total
}

// shorten divides a by a word, in its place, and returns the rest.
func shorten(a []uint32, divisor uint32) uint32 {
	var rest uint64
	for i := len(a) - 1; i >= 0; i-- {
		part := rest<<wordBits | uint64(a[i])
		a[i] = uint32(part / uint64(divisor))
		rest = part % uint64(divisor)
	}
	return uint32(rest)
}

// divided returns the trimmed quotient and rest of two trimmed numbers; b is not 0.
func divided(a, b []uint32) (quotient, rest []uint32) {
	if len(a) < len(b) {
		return nil, copied(a)
	}
	// Both numbers times the same have the same quotient. With the highest bit of b set, guesses are at most 2 too great.
	factor := uint32(1) << bits.LeadingZeros32(b[len(b)-1])
	rest, b = times(a, factor, 0), trimmed(times(b, factor, 0))
	quotient = make([]uint32, len(rest)-len(b))
steps:
	for at := len(quotient) - 1; at >= 0; at-- {
		part := rest[at : at+len(b)+1]
		for word := guess(part, b); ; word-- {
			if multiple := times(b, word, 0); compareWords(multiple, part) <= 0 {
				subtract(part, multiple)
				quotient[at] = word
				continue steps
			}
		}
	}
	shorten(rest, factor)
	return trimmed(quotient), trimmed(rest)
}

// guess returns no less than the quotient of part and b, if that is a word; part has one word more than b.
func guess(part, b []uint32) uint32 {
	n := len(b)
	head := uint64(part[n])<<wordBits | uint64(part[n-1])
	return uint32(min(head/uint64(b[n-1]), math.MaxUint32))
}
