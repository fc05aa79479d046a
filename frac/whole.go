package frac

import (
	"cmp"
	"math/bits"

	"meresman/api"
	"meresman/wide"
)

// The functions of this file calculate with integers.

func isOne(x wide.Int) bool {
	n, _ := x.Small()
	return n == 1
}

// commonDivisor returns the greatest common divisor.
func commonDivisor(x, y wide.Int) wide.Int {
	// Most coordinates are whole: their denominators need no search.
	if isOne(x) || isOne(y) {
		return wide.From(1)
	}
	return wide.Gcd(x, y)
}

// divided returns x divided by one of its divisors, which is not 0.
func divided(x, divisor wide.Int) wide.Int {
	if isOne(divisor) {
		return x
	}
	quotient, _, _ := wide.Div(x, divisor)
	return quotient
}

// product returns the product of integers, or ErrLimit if it is out of range.
// No factor makes a product smaller, unless it is 0: so a product on the way is in range if the whole one is.
func product(x wide.Int, factors ...wide.Int) (wide.Int, api.Errno) {
	for _, factor := range factors {
		var e api.Errno
		if x, e = wide.Mul(x, factor); e != api.OK {
			return wide.Int{}, e
		}
	}
	return x, api.OK
}

// power returns the product of n factors x, or ErrLimit if it is out of range.
func power(x wide.Int, n int) (wide.Int, api.Errno) {
	result := wide.From(1)
	size := bits.Len(uint(n))
	for i := range size {
		// The exponent grows by one bit of n, from the highest one on, and is never greater than n: so no power on the
		// way is out of range if the last one is not. (If x is 0, the result is 0 or 1, and so are the products.)
		factors := []wide.Int{result}
		if n>>(size-1-i)&1 == 1 {
			factors = append(factors, x)
		}
		var e api.Errno
		if result, e = product(result, factors...); e != api.OK {
			return wide.Int{}, e
		}
	}
	return result, api.OK
}

// compareByParts compares p/q with r/s, where q and s are positive, without any integer greater than the given ones.
func compareByParts(p, q, r, s wide.Int) int {
	for {
		left, pRest, _ := wide.Div(p, q)
		right, rRest, _ := wide.Div(r, s)
		if order := wide.Compare(left, right); order != 0 {
			return order
		}
		if wide.Sign(pRest) == 0 || wide.Sign(rRest) == 0 {
			return cmp.Compare(wide.Sign(pRest), wide.Sign(rRest))
		}
		// With equal whole parts, pRest/q and rRest/s decide: like s/rRest and q/pRest.
		p, q, r, s = s, rRest, q, pRest
	}
}

// firstError returns the first of several results that is an error, or OK.
func firstError(list ...api.Errno) api.Errno {
	for _, e := range list {
		if e != api.OK {
			return e
		}
	}
	return api.OK
}
