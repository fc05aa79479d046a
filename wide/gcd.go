package wide

import "math/bits"

// commonDivisor returns the greatest common divisor of two trimmed numbers.
func commonDivisor(a, b []uint32) []uint32 {
	if compareWords(a, b) < 0 {
		a, b = b, a
	}
	for len(b) > 2 {
		a, b = reduced(a, b)
	}
	if len(b) == 0 {
		return copied(a)
	}
	_, rest := divided(a, b)
	m, n := lowest(b), lowest(rest)
	for n > 0 {
		m, n = n, m%n
	}
	return wordsOf(m)
}

// reduced takes steps of Euclid's algorithm; a is not less than b, which has three words at least.
// The steps that the highest bits tell are taken together, since it is going through all words that takes time.
func reduced(a, b []uint32) (_, _ []uint32) {
	last, next, odd := certainSteps(highest(a, b))
	switch {
	case last == row{1, 0}:
		_, rest := divided(a, b)
		return b, rest
	case odd:
		return combined(b, last.b, a, last.a), combined(a, next.a, b, next.b)
	default:
		return combined(a, last.a, b, last.b), combined(b, next.b, a, next.a)
	}
}

// highest returns the 64 highest bits of a, and the bits of b at the same places; a has three words at least.
func highest(a, b []uint32) (uint64, uint64) {
	n := len(a)
	shift := bits.LeadingZeros32(a[n-1])
	part := func(words []uint32) uint64 {
		two := uint64(wordAt(words, n-1))<<wordBits | uint64(wordAt(words, n-2))
		return two<<shift | uint64(wordAt(words, n-3))>>(wordBits-shift)
	}
	return part(a), part(b)
}

// row says how often a and b are contained in a rest r of Euclid's algorithm:
// r = row.a * a - row.b * b after an even number of steps, and the opposite of this after an odd one.
type row struct{ a, b uint64 }

// certainSteps takes those steps of Euclid's algorithm that are the same for all a and b whose highest bits are m and n.
// It returns the rows of the last two rests, and whether the number of steps is odd.
func certainSteps(m, n uint64) (last, next row, odd bool) {
	last, next = row{1, 0}, row{0, 1}
	for n > 0 {
		quotient, rest := m/n, m%n
		after := row{last.a + quotient*next.a, last.b + quotient*next.b}
		// The bits of a and b below those of m and n change a rest by less than its row.b, which is not less than its
		// row.a. So the step is right for all of them if the rest stays above 0, and below the one before it.
		if rest < after.b || n-rest < next.b+after.b {
			break
		}
		m, n = n, rest
		last, next, odd = next, after, !odd
	}
	return last, next, odd
}

// combined returns a * p - b * q, which is from 0 to the greater one of a and b.
// The factors fit in words: row.b is less than the rest before, and not greater than m divided by it.
func combined(a []uint32, p uint64, b []uint32, q uint64) []uint32 {
	left := make([]uint32, max(len(a), len(b)))
	plus, minus := multiplying(uint32(p)), multiplying(uint32(q))
	next := subtracting()
	for i := range left {
		left[i] = next(plus(wordAt(a, i), 0), minus(wordAt(b, i), 0))
	}
	return trimmed(left)
}
