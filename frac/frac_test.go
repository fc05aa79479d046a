package frac_test

import (
	"math"
	"math/big"
	"math/rand/v2"
	"slices"
	"strconv"
	"strings"
	"testing"

	"meresman/api"
	"meresman/frac"
	"meresman/wide"
)

// Expected results are computed by math/big, or stand in the text of the chapter.

func TestOf(t *testing.T) { // P4.1
	for _, c := range []struct {
		p, q int
		want string
	}{
		{6, -8, "-3/4"},
		{-6, 8, "-3/4"},
		{-6, -8, "3/4"},
		{6, 8, "3/4"},
		{0, 5, "0"},
		{0, -5, "0"},
		{0, math.MinInt, "0"},
		{5, 1, "5"},
		{5, -1, "-5"},
		{5, 5, "1"},
		{-5, 5, "-1"},
		{1, -1, "-1"},
		{-1, 7, "-1/7"},
		{1, -7, "-1/7"},
		{12, 4, "3"},
		{4, 12, "1/3"},
		{math.MinInt, -1, "9223372036854775808"},
		{math.MinInt, 1, "-9223372036854775808"},
		{1, math.MinInt, "-1/9223372036854775808"},
		{math.MinInt, math.MinInt, "1"},
		{math.MinInt, math.MaxInt, "-9223372036854775808/9223372036854775807"},
		{math.MaxInt, math.MinInt, "-9223372036854775807/9223372036854775808"},
		{math.MinInt, 6, "-4611686018427387904/3"},
		{math.MaxInt, 49, "188232082384791343"},
	} {
		a, e := frac.Of(c.p, c.q)
		expect(t, "Of("+strconv.Itoa(c.p)+", "+strconv.Itoa(c.q)+")", a, e, c.want, api.OK)
	}
	for _, p := range ints() {
		for _, q := range ints() {
			a, e := frac.Of(p, q)
			if q == 0 {
				expect(t, "Of by 0", a, e, "0", api.ErrArg)
			} else {
				expectRat(t, "Of", a, e, big.NewRat(1, 1).SetFrac(big.NewInt(int64(p)), big.NewInt(int64(q))))
			}
		}
	}
}

func TestMake(t *testing.T) { // P4.1
	list := []*big.Int{new(big.Int), power(2, 16383), power(2, 8192), power(6, 6000), power(10, 4932), greatest()}
	source := rand.New(rand.NewPCG(4, 1))
	for range 30 {
		list = append(list, someInteger(source, 1+source.IntN(8)))
	}
	for _, x := range slices.Clone(list) {
		list = append(list, new(big.Int).Neg(x))
	}
	wides := make([]wide.Int, len(list))
	for i, x := range list {
		wides[i] = wideOf(t, x)
	}
	for i, p := range list {
		for j, q := range list {
			a, e := frac.Make(wides[i], wides[j])
			if q.Sign() == 0 {
				expect(t, "Make by 0", a, e, "0", api.ErrArg)
			} else {
				expectRat(t, "Make", a, e, new(big.Rat).SetFrac(p, q))
			}
		}
	}
	for i, x := range list { // R3: the arguments have not changed
		if got := wides[i].String(); got != x.String() {
			t.Errorf("%.40s has changed to %.40s", x, got)
		}
	}
}

func TestZeroValue(t *testing.T) { // "The zero value of Frac stands for 0.": P4.1 to P4.6
	var zero frac.Frac
	third := parsed(t, "-1/3")
	if zero.String() != "0" || zero.Num().String() != "0" || zero.Den().String() != "1" || frac.Sign(zero) != 0 {
		t.Errorf("the zero value is %v: %v / %v", zero, zero.Num(), zero.Den())
	}
	made, e := frac.Of(0, -3)
	if frac.Compare(zero, made) != 0 || frac.Compare(made, zero) != 0 || frac.Compare(zero, third) != 1 || frac.Compare(third, zero) != -1 || e != api.OK {
		t.Errorf("the zero value is compared as %d with 0 and %d with -1/3", frac.Compare(zero, made), frac.Compare(zero, third))
	}
	for _, c := range []struct {
		name string
		of   operation
		a, b frac.Frac
		want string
		e    api.Errno
	}{
		{"0 + 0", frac.Add, zero, zero, "0", api.OK},
		{"0 + b", frac.Add, zero, third, "-1/3", api.OK},
		{"a + 0", frac.Add, third, zero, "-1/3", api.OK},
		{"0 - 0", frac.Sub, zero, zero, "0", api.OK},
		{"0 - b", frac.Sub, zero, third, "1/3", api.OK},
		{"a - 0", frac.Sub, third, zero, "-1/3", api.OK},
		{"0 * 0", frac.Mul, zero, zero, "0", api.OK},
		{"0 * b", frac.Mul, zero, third, "0", api.OK},
		{"a * 0", frac.Mul, third, zero, "0", api.OK},
		{"0 / b", frac.Div, zero, third, "0", api.OK},
		{"0 / 0", frac.Div, zero, zero, "0", api.ErrArg},
		{"a / 0", frac.Div, third, zero, "0", api.ErrArg},
	} {
		got, e := c.of(c.a, c.b)
		expect(t, c.name, got, e, c.want, c.e)
	}
	got, e := frac.Pow(zero, 2)
	expect(t, "0 ^ 2", got, e, "0", api.OK)
	got, e = frac.Pow(zero, 0)
	expect(t, "0 ^ 0", got, e, "1", api.OK)
}

func TestArithmetic(t *testing.T) { // P4.2, P4.3, P4.5
	checkPairs(t, samples())
}

func TestArithmeticAtTheLimits(t *testing.T) { // P4.2, P4.3, P4.5
	checkPairs(t, append(limits(), new(big.Rat), big.NewRat(1, 1), big.NewRat(-2, 3)))
}

func TestArithmeticOfManySizes(t *testing.T) { // P4.2, P4.3, P4.5
	source := rand.New(rand.NewPCG(4, 2))
	for range 10000 {
		x, y := someFraction(source, 6), someFraction(source, 6)
		checkPair(t, x, y, of(t, x), of(t, y))
	}
	for range 100 { // whose sums and products are just in range or out of it
		x, y := someFraction(source, 300), someFraction(source, 300)
		checkPair(t, x, y, of(t, x), of(t, y))
	}
}

func TestArithmeticWithCommonFactors(t *testing.T) { // P4.2, P4.3
	source := rand.New(rand.NewPCG(4, 3))
	for range 10000 {
		common := someInteger(source, 3)
		x, y := someFraction(source, 3), someFraction(source, 3)
		if common.Sign() == 0 {
			continue
		}
		scale, part := new(big.Rat).SetInt(common), new(big.Rat).SetFrac(big.NewInt(1), common)
		switch source.IntN(3) {
		case 0: // of the denominators
			x, y = x.Mul(x, part), y.Mul(y, part)
		case 1: // of one numerator and the other denominator
			x, y = x.Mul(x, scale), y.Mul(y, part)
		case 2: // of the sum and both denominators
			x, y = x.Mul(x, part), y.Sub(y, x)
		}
		checkPair(t, x, y, of(t, x), of(t, y))
	}
}

func TestLimitsOfSums(t *testing.T) { // P4.2
	top := greatest()
	less := new(big.Int).Sub(top, big.NewInt(1))
	half, root := power(2, 16383), power(2, 8192)
	below, above := new(big.Int).Sub(root, big.NewInt(1)), new(big.Int).Add(root, big.NewInt(1)) // top is their product
	threeRoots := new(big.Int).Mul(big.NewInt(3), root)
	threeOthers := new(big.Int).Add(power(2, 8191), big.NewInt(3))
	threeOthers.Mul(threeOthers, big.NewInt(3))
	one, minusOne, two, three := big.NewInt(1), big.NewInt(-1), big.NewInt(2), big.NewInt(3)
	for _, c := range []struct {
		name       string
		p, q, r, s *big.Int
		fits       bool
	}{
		{"an integer, to the limit", less, one, one, one, true},
		{"an integer, out of range", top, one, one, one, false},
		{"two halves, to the limit", new(big.Int).Sub(top, two), two, one, two, true},
		{"p * (s/g), though 1/2 is left", half, one, new(big.Int).Neg(top), two, false},
		{"r * (q/g), though 1/2 is left", new(big.Int).Neg(top), two, half, one, false},
		{"the sum of halves, though it is whole", top, two, one, two, false},
		{"the sum of thirds", top, two, two, two, false},
		{"(q/g) * s, though 3 goes out of it", one, threeRoots, one, threeOthers, false},
		{"(q/g) * s, to the limit", one, below, one, above, true},
		{"(q/g) * s, beyond it", one, root, one, above, false},
		{"q * s, which does not matter", one, top, one, top, true},
		{"q * s, with opposite numerators", one, top, minusOne, top, true},
		{"a divisor of the denominator", one, top, one, below, true},
		{"a multiple of the denominator", one, above, one, top, true},
		{"the greatest denominator and an integer", one, top, one, one, false},
		{"the greatest denominator and a small integer", minusOne, top, one, one, true},
		{"the greatest denominator and 0", less, top, new(big.Int), one, true},
		{"0 and the greatest denominator", new(big.Int), one, less, top, true},
		{"thirds of great numbers", half, three, half, one, false},
	} {
		x, y := new(big.Rat).SetFrac(c.p, c.q), new(big.Rat).SetFrac(c.r, c.s)
		want := new(big.Rat).Add(x, y)
		if !c.fits {
			want = nil
		}
		sum, e := frac.Add(of(t, x), of(t, y))
		expectRat(t, c.name, sum, e, want)
		sum, e = frac.Add(of(t, y), of(t, x))
		expectRat(t, c.name+", exchanged", sum, e, want)
		difference, e := frac.Sub(of(t, x), of(t, new(big.Rat).Neg(y)))
		expectRat(t, c.name+", as a difference", difference, e, want)
	}
}

func TestLimitsOfProducts(t *testing.T) { // P4.3: shortened results count
	top := greatest().String()
	half, root := power(2, 16383).String(), power(2, 8192).String()
	below, above := new(big.Int).Sub(power(2, 8192), big.NewInt(1)).String(), new(big.Int).Add(power(2, 8192), big.NewInt(1)).String()
	for _, c := range []struct{ a, b, want string }{
		{half + "/3", "3/" + half, "1"},
		{"-" + half + "/3", "3/" + half, "-1"},
		{top + "/2", "2", top},
		{"2", top + "/2", top},
		{"2/" + top, "1/2", "1/" + top},
		{below, above, top},
		{"1/" + below, "1/" + above, "1/" + top},
		{"-1/" + below, above, "-" + above + "/" + below},
		{top + "/" + half, half + "/" + top, "1"},
		{top, "0", "0"},
		{"1/" + top, "0", "0"},
		{top, "-1", "-" + top},
		{"1/" + top, "-1", "-1/" + top},
		{root, root, ""},
		{root, "-" + root, ""},
		{"1/" + root, "1/" + root, ""},
		{root + "/3", root + "/5", ""},
		{"3/" + root, "5/" + root, ""},
		{top, "2/" + below, new(big.Int).Lsh(new(big.Int).Add(power(2, 8192), big.NewInt(1)), 1).String()},
		{top, "2", ""},
		{top, top, ""},
		{"1/" + top, "1/2", ""},
		{half, "2/3", ""},
		{"3/" + half, "1/2", ""},
	} {
		wanted := strings.Repeat("0", 1-min(1, len(c.want))) + c.want
		errno := api.OK
		if c.want == "" {
			errno = api.ErrLimit
		}
		a, b := parsed(t, c.a), parsed(t, c.b)
		product, e := frac.Mul(a, b)
		expect(t, "product", product, e, wanted, errno)
		product, e = frac.Mul(b, a)
		expect(t, "product, exchanged", product, e, wanted, errno)
		if frac.Sign(b) != 0 {
			quotient, e := frac.Div(a, of(t, new(big.Rat).Inv(ratOf(b))))
			expect(t, "quotient", quotient, e, wanted, errno)
		}
	}
}

func TestDivision(t *testing.T) { // P4.3
	for _, c := range []struct {
		a, b, want string
		e          api.Errno
	}{
		{"1", "0", "0", api.ErrArg},
		{"0", "0", "0", api.ErrArg},
		{"-7/3", "0", "0", api.ErrArg},
		{greatest().String(), "0", "0", api.ErrArg},
		{"0", "-7/3", "0", api.OK},
		{"1", "-2", "-1/2", api.OK},
		{"-1", "-2", "1/2", api.OK},
		{"1/2", "-1/2", "-1", api.OK},
		{"2/3", "4/9", "3/2", api.OK},
		{"-2/3", "4/9", "-3/2", api.OK},
		{"7", "7/5", "5", api.OK},
		{"7/5", "7", "1/5", api.OK},
		{greatest().String(), "1/2", "0", api.ErrLimit},
		{"1/" + greatest().String(), "2", "0", api.ErrLimit},
		{"1/" + greatest().String(), "-" + greatest().String(), "0", api.ErrLimit},
		{greatest().String(), "-" + greatest().String(), "-1", api.OK},
	} {
		got, e := frac.Div(parsed(t, c.a), parsed(t, c.b))
		expect(t, "a quotient", got, e, c.want, c.e)
	}
}

func TestPowers(t *testing.T) { // P4.4
	for _, x := range samples() {
		a, want := of(t, x), big.NewRat(1, 1)
		for n := range 40 {
			got, e := frac.Pow(a, n)
			if !inRange(want.Num()) || !inRange(want.Denom()) {
				want = nil
			}
			expectRat(t, "power "+strconv.Itoa(n), got, e, want)
			if want == nil {
				break
			}
			want.Mul(want, x)
		}
	}
}

func TestPowersOfExtremeExponents(t *testing.T) { // P4.4
	top := greatest().String()
	for _, c := range []struct {
		a    string
		n    int
		want string
		e    api.Errno
	}{
		{"2/3", 3, "8/27", api.OK},
		{"-2/3", 3, "-8/27", api.OK},
		{"-2/3", 4, "16/81", api.OK},
		{"5/7", 0, "1", api.OK},
		{"0", 0, "1", api.OK},
		{"0", 1, "0", api.OK},
		{"0", math.MaxInt, "0", api.OK},
		{"1", math.MaxInt, "1", api.OK},
		{"-1", math.MaxInt, "-1", api.OK},
		{"-1", math.MaxInt - 1, "1", api.OK},
		{"-1", 1 << 62, "1", api.OK},
		{"2", math.MaxInt, "0", api.ErrLimit},
		{"-1/2", math.MaxInt, "0", api.ErrLimit},
		{"2/3", 1 << 62, "0", api.ErrLimit},
		{"2", -1, "0", api.ErrArg},
		{"1", -1, "0", api.ErrArg},
		{"0", -1, "0", api.ErrArg},
		{"1/2", math.MinInt, "0", api.ErrArg},
		{top, -5, "0", api.ErrArg},
		{top, 0, "1", api.OK},
		{top, 1, top, api.OK},
		{top, 2, "0", api.ErrLimit},
		{"1/" + top, 1, "1/" + top, api.OK},
		{"1/" + top, 2, "0", api.ErrLimit},
		{"2", 16383, power(2, 16383).String(), api.OK},
		{"-2", 16383, "-" + power(2, 16383).String(), api.OK},
		{"2", 16384, "0", api.ErrLimit},
		{"-2", 16384, "0", api.ErrLimit},
		{"1/2", 16383, "1/" + power(2, 16383).String(), api.OK},
		{"1/2", 16384, "0", api.ErrLimit},
		{"3/2", 10337, power(3, 10337).String() + "/" + power(2, 10337).String(), api.OK},
		{"3/2", 10338, "0", api.ErrLimit},
		{"2/3", 10337, power(2, 10337).String() + "/" + power(3, 10337).String(), api.OK},
		{"2/3", 10338, "0", api.ErrLimit},
		{power(2, 8191).String(), 2, power(2, 16382).String(), api.OK},
		{power(2, 8192).String(), 2, "0", api.ErrLimit},
		{power(2, 5461).String(), 3, power(2, 16383).String(), api.OK},
		{"1/" + power(2, 3276).String(), 5, "1/" + power(2, 16380).String(), api.OK},
		{"1/" + power(2, 3277).String(), 5, "0", api.ErrLimit},
	} {
		got, e := frac.Pow(parsed(t, c.a), c.n)
		expect(t, "power "+strconv.Itoa(c.n), got, e, c.want, c.e)
	}
}

func TestOrder(t *testing.T) { // P4.5, P4.8
	list := append(samples(), limits()...)
	slices.SortFunc(list, (*big.Rat).Cmp)
	list = slices.CompactFunc(list, func(x, y *big.Rat) bool { return x.Cmp(y) == 0 })
	fractions := allOf(t, list)
	for i, a := range fractions {
		for j, b := range fractions {
			want := 0
			if i < j {
				want = -1
			} else if i > j {
				want = 1
			}
			if got := frac.Compare(a, b); got != want {
				t.Errorf("Compare(%.60s, %.60s) = %d, want %d", a, b, got, want)
			}
		}
		if got := frac.Sign(a); got != list[i].Sign() || got != frac.Compare(a, frac.Frac{}) {
			t.Errorf("Sign(%.60s) = %d", a, got)
		}
	}
}

// TestOrderOfNearFractions compares fractions that begin with the same quotients of Euclid's algorithm, and whose cross
// products are far out of range.
func TestOrderOfNearFractions(t *testing.T) { // P4.5
	source := rand.New(rand.NewPCG(4, 5))
	for range 300 {
		shared := someQuotients(source, source.IntN(7))
		x := ratOfQuotients(append(slices.Clone(shared), someQuotients(source, source.IntN(3))...))
		y := ratOfQuotients(append(slices.Clone(shared), someQuotients(source, 1)...))
		if source.IntN(2) == 0 {
			x.Neg(x)
			y.Neg(y)
		}
		checkOrder(t, x, y)
	}
}

func TestOrderOfNeighbours(t *testing.T) { // P4.5: whose quotients are all 1, so that they are told apart last
	p, q := big.NewInt(1), big.NewInt(2)
	for q.BitLen() < 16383 {
		p, q = q, p.Add(p, q)
	}
	next := new(big.Int).Add(p, q)
	checkOrder(t, new(big.Rat).SetFrac(p, q), new(big.Rat).SetFrac(q, next))
}

func TestOrderAtTheLimits(t *testing.T) { // P4.5: both cross products are out of range, or just one
	top := greatest()
	less, least := new(big.Int).Sub(top, big.NewInt(1)), new(big.Int).Sub(top, big.NewInt(2))
	a, b := new(big.Rat).SetFrac(top, less), new(big.Rat).SetFrac(less, least)
	checkOrder(t, a, b)
	checkOrder(t, new(big.Rat).Neg(a), new(big.Rat).Neg(b))
	checkOrder(t, new(big.Rat).Inv(a), new(big.Rat).Inv(b))
	checkOrder(t, a, new(big.Rat).Inv(b))
	checkOrder(t, a, new(big.Rat).Neg(b))
	checkOrder(t, a, big.NewRat(1, 1))
	checkOrder(t, a, big.NewRat(1, 3))
	checkOrder(t, new(big.Rat).SetInt(top), big.NewRat(7, 2))
	checkOrder(t, new(big.Rat).SetInt(top), big.NewRat(-7, 2))
	checkOrder(t, new(big.Rat).SetFrac(big.NewInt(1), top), big.NewRat(7, 2))
	checkOrder(t, new(big.Rat).SetFrac(big.NewInt(-1), top), new(big.Rat).SetFrac(big.NewInt(-1), less))
}

func TestTexts(t *testing.T) { // P4.6
	for _, x := range append(samples(), limits()...) {
		a := of(t, x)
		if got := a.String(); got != x.RatString() {
			t.Errorf("%.60s is written as %.60s", x, got)
		}
		back, e := frac.Parse(x.RatString())
		expectRat(t, "a text", back, e, x)
		if frac.Compare(a, back) != 0 {
			t.Errorf("%.60s is read as another fraction", x)
		}
	}
	longest := "-" + greatest().String() + "/" + new(big.Int).Sub(greatest(), big.NewInt(1)).String()
	if got := parsed(t, longest).String(); got != longest {
		t.Errorf("%.60s .. is read as %.60s ..", longest, got)
	}
}

func TestShortTexts(t *testing.T) { // P4.6: all of them, as far as their bytes matter
	texts := []string{""}
	for range 6 {
		var longer []string
		for _, text := range texts {
			checkText(t, text)
			for _, c := range []string{"0", "1", "2", "6", "-", "/"} {
				longer = append(longer, text+c)
			}
		}
		texts = longer
	}
}

func TestMalformedTexts(t *testing.T) { // P4.6
	out := power(2, 16384).String()
	for _, text := range []string{
		"2/4", "3/1", "", "/", "-", "-/", "1/", "/2", "-/2", "1//2", "1/2/3", "1/2/", "/1/2", "0/1", "0/2", "0/0", "1/0", "-1/0", "2/0",
		"-0", "-0/1", "-0/5", "+1/2", "1/+2", "1/-2", "-1/-2", "--1/2", "1-/2", "01/2", "1/02", "00", "1/00", "-2/4", "-5/1",
		" 1/2", "1/2 ", "1 /2", "1/ 2", "1\\2", "1:2", "0.5", "1.0/2", "1e3", "1/2e3", "0x1/2", "1_0/3", "a", "a/2", "1/a", "1/2\n", "1/2\x00",
		"1\u20442", "\u00bd", "\u0661/2", "\uff11/2", "\xff", "NaN", "Inf",
		"6/4", "12345678901234567890/10", "18446744073709551616/4294967296", "4294967296/18446744073709551616",
		"340282366920938463463374607431768211455/340282366920938463463374607431768211455",
		greatest().String() + "/" + greatest().String(), greatest().String() + "/1", greatest().String() + "/3",
		// The integers of these are no wide integers.
		out, "-" + out, "1/" + out, out + "/3", "-" + out + "/3", out + "/" + out, strings.Repeat("9", 5000), strings.Repeat("9", 5001),
		"1/" + strings.Repeat("9", 5001), strings.Repeat("7", 5001) + "/3", strings.Repeat("9", 100000), "1/" + strings.Repeat("x", 100000),
		strings.Repeat("/", 6000), strings.Repeat("1/", 6000),
	} {
		a, e := frac.Parse(text)
		expect(t, "Parse("+strconv.Quote(text[:min(len(text), 40)])+")", a, e, "0", api.ErrForm)
	}
	for c := range 256 {
		for _, form := range []string{"1%2", "%", "1/%", "%/7", "1/2%", "%1/2", "1/1%3"} {
			checkText(t, strings.Replace(form, "%", string([]byte{byte(c)}), 1))
		}
	}
}

func TestLaws(t *testing.T) { // P4.7
	source := rand.New(rand.NewPCG(4, 7))
	missing := 0
	for _, words := range []int{1, 2, 5, 60, 300} { // sums and products of those of 300 words can be out of range
		for range 60 {
			a, b, c := of(t, someFraction(source, words)), of(t, someFraction(source, words)), of(t, someFraction(source, words))
			sameResult(t, "a + b = b + a", chain(frac.Add, a, b), chain(frac.Add, b, a))
			sameResult(t, "a * b = b * a", chain(frac.Mul, a, b), chain(frac.Mul, b, a))
			sameResult(t, "(a + b) + c = a + (b + c)", chain(frac.Add, a, b, c), chain(frac.Add, b, c, a))
			sameResult(t, "(a * b) * c = a * (b * c)", chain(frac.Mul, a, b, c), chain(frac.Mul, b, c, a))
			left, right := both(chain(frac.Add, a, b), c), both(chain(frac.Mul, a, c), chain(frac.Mul, b, c)...)
			sameResult(t, "(a + b) * c = a * c + b * c", chain(frac.Mul, left...), chain(frac.Add, right...))
			sameResult(t, "(a + b) - b = a", chain(frac.Sub, both(chain(frac.Add, a, b), b)...), []frac.Frac{a})
			sameResult(t, "(a - b) + b = a", chain(frac.Add, both(chain(frac.Sub, a, b), b)...), []frac.Frac{a})
			sameResult(t, "a - a = 0", chain(frac.Sub, a, a), []frac.Frac{{}})
			if frac.Sign(b) != 0 {
				sameResult(t, "(a * b) / b = a", chain(frac.Div, both(chain(frac.Mul, a, b), b)...), []frac.Frac{a})
				sameResult(t, "(a / b) * b = a", chain(frac.Mul, both(chain(frac.Div, a, b), b)...), []frac.Frac{a})
			}
			missing += 1 - len(chain(frac.Mul, a, b, c))
		}
	}
	if missing == 0 || missing > 50 {
		t.Errorf("%d of 300 products are out of range", missing)
	}
}

func TestOrderIsKept(t *testing.T) { // P4.8
	source := rand.New(rand.NewPCG(4, 8))
	for range 3000 {
		words := 1 + source.IntN(8)
		a, b, c := of(t, someFraction(source, words)), of(t, someFraction(source, words)), of(t, someFraction(source, words))
		order := frac.Compare(a, b)
		if frac.Compare(b, a) != -order || frac.Compare(a, a) != 0 {
			t.Errorf("%v and %v: %d, exchanged %d", a, b, order, frac.Compare(b, a))
		}
		if list := []frac.Frac{a, b, c}; !isChain(list) {
			t.Errorf("not in one order: %v", list)
		}
		sums := both(chain(frac.Add, a, c), chain(frac.Add, b, c)...)
		if len(sums) != 2 || frac.Compare(sums[0], sums[1]) != order {
			t.Errorf("%v and %v: %d, and otherwise after adding %v", a, b, order, c)
		}
		products := both(chain(frac.Mul, a, c), chain(frac.Mul, b, c)...)
		if len(products) != 2 || frac.Compare(products[0], products[1]) != order*frac.Sign(c) {
			t.Errorf("%v and %v: %d, and otherwise after multiplying by %v", a, b, order, c)
		}
	}
}

func TestMediants(t *testing.T) { // P4.8
	source := rand.New(rand.NewPCG(4, 9))
	for range 3000 {
		words := 1 + source.IntN(8)
		a, b := of(t, someFraction(source, words)), of(t, someFraction(source, words))
		num, e := wide.Add(a.Num(), b.Num())
		den, e2 := wide.Add(a.Den(), b.Den())
		middle, e3 := frac.Make(num, den)
		order := frac.Compare(a, b)
		if frac.Compare(a, middle) != order || frac.Compare(middle, b) != order || e != api.OK || e2 != api.OK || e3 != api.OK {
			t.Errorf("%v does not lie between %v and %v", middle, a, b)
		}
	}
}

func TestPowersOfSums(t *testing.T) { // P4.9
	source := rand.New(rand.NewPCG(4, 10))
	for range 300 {
		a := of(t, someFraction(source, 3))
		m, n := source.IntN(60), source.IntN(60)
		whole, e := frac.Pow(a, m+n)
		first, e2 := frac.Pow(a, m)
		second, e3 := frac.Pow(a, n)
		product, e4 := frac.Mul(first, second)
		if frac.Compare(whole, product) != 0 || whole.String() != product.String() || e != api.OK || e2 != api.OK || e3 != api.OK || e4 != api.OK {
			t.Errorf("(%v)^(%d + %d) = %.60s, but the product is %.60s", a, m, n, whole, product)
		}
	}
}

func TestEquality(t *testing.T) { // P4.10
	var list []frac.Frac
	for p := -7; p <= 7; p++ {
		for q := -7; q <= 7; q++ {
			if q == 0 {
				continue
			}
			a, _ := frac.Of(p, q)
			sum, _ := frac.Add(a, a)
			square, _ := frac.Mul(a, a)
			half, _ := frac.Div(a, parsed(t, "-2"))
			list = append(list, a, sum, square, half)
		}
	}
	for _, a := range list {
		for _, b := range list {
			texts := a.String() == b.String()
			parts := wide.Compare(a.Num(), b.Num()) == 0 && wide.Compare(a.Den(), b.Den()) == 0
			if equal := frac.Compare(a, b) == 0; equal != texts || equal != parts {
				t.Errorf("%v and %v: equal %v, with equal texts %v, with equal parts %v", a, b, equal, texts, parts)
			}
		}
	}
}

func TestExamples(t *testing.T) {
	a, e := frac.Of(6, -8)
	expect(t, "Of(6, -8)", a, e, "-3/4", api.OK)
	a, e = frac.Add(parsed(t, "1/2"), parsed(t, "1/3"))
	expect(t, "1/2 + 1/3", a, e, "5/6", api.OK)
	a, e = frac.Div(parsed(t, "1"), parsed(t, "0"))
	expect(t, "1 / 0", a, e, "0", api.ErrArg)
	a, e = frac.Pow(parsed(t, "2/3"), 3)
	expect(t, "(2/3)^3", a, e, "8/27", api.OK)
	for _, text := range []string{"2/4", "3/1"} {
		a, e = frac.Parse(text)
		expect(t, "Parse of "+text, a, e, "0", api.ErrForm)
	}
}

func TestResultsStayAsTheyAre(t *testing.T) { // R1, R3: later calls change neither arguments nor results
	a, b := parsed(t, "-340282366920938463463374607431768211455/4"), parsed(t, "79228162514264337593543950335/2")
	results := func() []frac.Frac {
		sum, _ := frac.Add(a, b)
		difference, _ := frac.Sub(a, b)
		product, _ := frac.Mul(a, b)
		quotient, _ := frac.Div(a, b)
		cube, _ := frac.Pow(a, 3)
		same, _ := frac.Pow(a, 1)
		made, _ := frac.Make(a.Num(), b.Den())
		num, _ := frac.Make(a.Num(), wide.From(1))
		return []frac.Frac{a, b, sum, difference, product, quotient, cube, same, made, num}
	}
	first := results()
	texts := make([]string, len(first))
	for i, r := range first {
		texts[i] = r.String()
	}
	for _, x := range first {
		for _, y := range first {
			checkPair(t, ratOf(x), ratOf(y), x, y)
		}
	}
	for i, r := range results() {
		if first[i].String() != texts[i] || r.String() != texts[i] {
			t.Errorf("result %d was %s, is %v, and again %v", i, texts[i], first[i], r)
		}
	}
}

func FuzzAllArguments(f *testing.F) { // P1, P4.1 to P4.6
	f.Add([]byte(nil), []byte{1}, []byte(nil), []byte(nil), uint8(0), 0, "")
	f.Add([]byte{6}, []byte{8}, []byte("some bytes"), []byte{255, 255, 255, 255, 255}, uint8(3), 3, "-3/4")
	f.Add(make([]byte, 2048), []byte("some bytes, and many more of them"), []byte{1}, []byte{2}, uint8(6), -1, "1/02")
	f.Add([]byte{1, 0}, []byte{1}, []byte{255}, []byte{255, 0}, uint8(15), math.MaxInt, "12/18")
	f.Fuzz(func(t *testing.T, p, q, r, s []byte, signs uint8, n int, text string) {
		integers := [4]*big.Int{}
		for i, b := range [4][]byte{p, q, r, s} {
			if integers[i] = new(big.Int).SetBytes(b[:min(len(b), 2048)]); signs>>i&1 == 1 {
				integers[i].Neg(integers[i])
			}
		}
		checkText(t, text)
		a, e := frac.Make(wideOf(t, integers[0]), wideOf(t, integers[1]))
		b, e2 := frac.Make(wideOf(t, integers[2]), wideOf(t, integers[3]))
		if (e == api.ErrArg) != (integers[1].Sign() == 0) || (e2 == api.ErrArg) != (integers[3].Sign() == 0) || e != api.OK && frac.Sign(a) != 0 {
			t.Errorf("errors %d and %d", e, e2)
		}
		if e != api.OK || e2 != api.OK {
			return
		}
		x, y := new(big.Rat).SetFrac(integers[0], integers[1]), new(big.Rat).SetFrac(integers[2], integers[3])
		expectRat(t, "Make", a, e, x)
		checkPair(t, x, y, a, b)
		checkPower(t, x, a, n)
		checkPower(t, x, a, n%50)
	})
}

type operation = func(a, b frac.Frac) (frac.Frac, api.Errno)

// checkPairs compares all operations on all pairs of a list with those of math/big.
func checkPairs(t *testing.T, list []*big.Rat) {
	t.Helper()
	fractions := allOf(t, list)
	for i, x := range list {
		for j, y := range list {
			checkPair(t, x, y, fractions[i], fractions[j])
		}
	}
	for i, x := range list { // R3: the arguments have not changed
		if got := fractions[i].String(); got != x.RatString() {
			t.Errorf("%.40s has changed to %.40s", x, got)
		}
	}
}

// checkPair compares all operations on two fractions with those of math/big.
func checkPair(t *testing.T, x, y *big.Rat, a, b frac.Frac) {
	t.Helper()
	sum, e := frac.Add(a, b)
	expectRat(t, "sum", sum, e, wantedSum(x, y))
	difference, e := frac.Sub(a, b)
	expectRat(t, "difference", difference, e, wantedSum(x, new(big.Rat).Neg(y)))
	product, e := frac.Mul(a, b)
	expectRat(t, "product", product, e, wantedProduct(x, y))
	quotient, e := frac.Div(a, b)
	if y.Sign() == 0 {
		expect(t, "quotient by 0", quotient, e, "0", api.ErrArg)
	} else {
		expectRat(t, "quotient", quotient, e, wantedProduct(x, new(big.Rat).Inv(y)))
	}
	if got := frac.Compare(a, b); got != x.Cmp(y) {
		t.Errorf("Compare(%.60s, %.60s) = %d", x, y, got)
	}
}

func checkOrder(t *testing.T, x, y *big.Rat) {
	t.Helper()
	a, b := of(t, x), of(t, y)
	want := x.Cmp(y)
	if there, back := frac.Compare(a, b), frac.Compare(b, a); there != want || back != -want {
		t.Errorf("%.60s .. and %.60s ..: %d and %d, want %d", x, y, there, back, want)
	}
}

func checkText(t *testing.T, text string) {
	t.Helper()
	a, e := frac.Parse(text)
	x, ok := new(big.Rat), len(text) < 12000 // no text in range is longer
	if ok && !strings.ContainsAny(text, "eEpP") {
		x, ok = x.SetString(text)
	} else {
		ok = false
	}
	if ok = ok && x.RatString() == text && inRange(x.Num()) && inRange(x.Denom()); ok {
		expectRat(t, "Parse("+strconv.Quote(text)+")", a, e, x)
	} else {
		expect(t, "Parse("+strconv.Quote(text)+")", a, e, "0", api.ErrForm)
	}
}

func checkPower(t *testing.T, x *big.Rat, a frac.Frac, n int) {
	t.Helper()
	got, e := frac.Pow(a, n)
	size := max(x.Num().BitLen(), x.Denom().BitLen())
	switch {
	case n < 0:
		expect(t, "power", got, e, "0", api.ErrArg)
	case size == 1: // 0, 1 or -1
		expectRat(t, "power", got, e, smallPower(x, min(n, 2+n%2)))
	case n > 16384/(size-1):
		expect(t, "power", got, e, "0", api.ErrLimit)
	default:
		expectRat(t, "power", got, e, smallPower(x, n))
	}
}

// smallPower returns nil if the power is out of range.
func smallPower(x *big.Rat, n int) *big.Rat {
	num := new(big.Int).Exp(x.Num(), big.NewInt(int64(n)), nil)
	den := new(big.Int).Exp(x.Denom(), big.NewInt(int64(n)), nil)
	if !inRange(num) || !inRange(den) {
		return nil
	}
	return new(big.Rat).SetFrac(num, den)
}

// wantedSum returns x + y, or nil if one of the integers that P4.2 names is out of range.
func wantedSum(x, y *big.Rat) *big.Rat {
	divisor := new(big.Int).GCD(nil, nil, x.Denom(), y.Denom())
	first, second := new(big.Int).Div(x.Denom(), divisor), new(big.Int).Div(y.Denom(), divisor)
	left, right := new(big.Int).Mul(x.Num(), second), new(big.Int).Mul(y.Num(), first)
	sum, den := new(big.Int).Add(left, right), new(big.Int).Mul(first, y.Denom())
	if !inRange(left) || !inRange(right) || !inRange(sum) || !inRange(den) {
		return nil
	}
	return new(big.Rat).SetFrac(sum, den)
}

// wantedProduct returns x * y, or nil if it is out of range.
func wantedProduct(x, y *big.Rat) *big.Rat {
	product := new(big.Rat).Mul(x, y)
	if !inRange(product.Num()) || !inRange(product.Denom()) {
		return nil
	}
	return product
}

func inRange(x *big.Int) bool {
	return x.BitLen() <= 16384
}

// expectRat reports a fraction that is not the expected one, or not ErrLimit if this is nil.
func expectRat(t *testing.T, name string, got frac.Frac, e api.Errno, want *big.Rat) {
	t.Helper()
	if want == nil {
		expect(t, name, got, e, "0", api.ErrLimit)
		return
	}
	expect(t, name, got, e, want.RatString(), api.OK)
	if got.Num().String() != want.Num().String() || got.Den().String() != want.Denom().String() || frac.Sign(got) != want.Sign() {
		t.Fatalf("%.60s: %.60s / %.60s with the sign %d, want %.60s / %.60s", name, got.Num(), got.Den(), frac.Sign(got), want.Num(), want.Denom())
	}
}

// expect reports a fraction or an error that is not the expected one.
func expect(t *testing.T, name string, got frac.Frac, e api.Errno, want string, errno api.Errno) {
	t.Helper()
	if got.String() != want || e != errno {
		t.Fatalf("%.60s: %.60s, error %d, want %.60s, error %d", name, got, e, want, errno)
	}
	if e != api.OK && (frac.Sign(got) != 0 || got.Den().String() != "1") {
		t.Fatalf("%.60s: error %d with %.60s / %.60s", name, e, got.Num(), got.Den())
	}
}

// chain returns the result of an operation on all fractions, one after the other, or none if one is out of range.
func chain(of operation, list ...frac.Frac) []frac.Frac {
	if len(list) == 0 {
		return nil
	}
	a := list[0]
	for _, b := range list[1:] {
		var e api.Errno
		if a, e = of(a, b); e != api.OK {
			return nil
		}
	}
	return []frac.Frac{a}
}

// both returns a result and other fractions, or none if one of the two is missing.
func both(result []frac.Frac, others ...frac.Frac) []frac.Frac {
	if len(result) == 0 || len(others) == 0 {
		return nil
	}
	return slices.Concat(result, others)
}

// sameResult reports two results that differ; one that is out of range differs from none.
func sameResult(t *testing.T, law string, a, b []frac.Frac) {
	t.Helper()
	if len(a) == 1 && len(b) == 1 && (frac.Compare(a[0], b[0]) != 0 || a[0].String() != b[0].String()) {
		t.Errorf("not %s: %.60s and %.60s", law, a[0], b[0])
	}
}

// isChain reports whether Compare puts three fractions in one order.
func isChain(list []frac.Frac) bool {
	slices.SortFunc(list, frac.Compare)
	return frac.Compare(list[0], list[1]) <= 0 && frac.Compare(list[1], list[2]) <= 0 && frac.Compare(list[0], list[2]) <= 0
}

func parsed(t *testing.T, text string) frac.Frac {
	t.Helper()
	a, e := frac.Parse(text)
	if e != api.OK {
		t.Fatalf("Parse(%.60s): error %d", text, e)
	}
	return a
}

func wideOf(t *testing.T, x *big.Int) wide.Int {
	t.Helper()
	w, e := wide.Parse(x.String())
	if e != api.OK {
		t.Fatalf("wide.Parse(%.60s): error %d", x, e)
	}
	return w
}

// of makes the fraction by Make, apart from Parse.
func of(t *testing.T, x *big.Rat) frac.Frac {
	t.Helper()
	a, e := frac.Make(wideOf(t, x.Num()), wideOf(t, x.Denom()))
	if e != api.OK {
		t.Fatalf("Make(%.60s): error %d", x, e)
	}
	return a
}

func allOf(t *testing.T, list []*big.Rat) []frac.Frac {
	t.Helper()
	fractions := make([]frac.Frac, len(list))
	for i, x := range list {
		fractions[i] = of(t, x)
	}
	return fractions
}

func ratOf(a frac.Frac) *big.Rat {
	x, _ := new(big.Rat).SetString(a.String())
	return x
}

func power(x, n int64) *big.Int {
	return new(big.Int).Exp(big.NewInt(x), big.NewInt(n), nil)
}

// greatest returns the greatest wide integer.
func greatest() *big.Int {
	return new(big.Int).Sub(power(2, 16384), big.NewInt(1))
}

// ints returns small numbers, and numbers at the ends of the range of ints and words.
func ints() []int {
	l := []int{math.MaxInt, math.MaxInt - 1, math.MinInt, math.MinInt + 1, 1 << 32, 1<<32 - 1, -1 << 32, 1 << 62, 600851475143}
	for n := -12; n <= 12; n++ {
		l = append(l, n)
	}
	return l
}

// samples returns fractions of small and middle sizes, of both signs.
func samples() []*big.Rat {
	l := []*big.Rat{new(big.Rat)}
	parts := []*big.Int{big.NewInt(1), big.NewInt(2), big.NewInt(3), big.NewInt(4), big.NewInt(6), big.NewInt(math.MaxUint32),
		power(2, 32), power(2, 63), power(2, 64), power(6, 40), power(10, 30)}
	for _, p := range parts {
		for _, q := range parts {
			x := new(big.Rat).SetFrac(p, q)
			l = append(l, x, new(big.Rat).Neg(x))
		}
	}
	return l
}

// limits returns fractions whose parts are as great as possible, or a little less.
func limits() []*big.Rat {
	top := greatest()
	less := new(big.Int).Sub(top, big.NewInt(1))
	root := power(2, 8192)
	parts := [][2]*big.Int{
		{top, big.NewInt(1)}, {big.NewInt(1), top}, {top, less}, {less, top}, {top, big.NewInt(2)}, {big.NewInt(2), top},
		{power(2, 16383), big.NewInt(1)}, {big.NewInt(1), power(2, 16383)}, {power(2, 16383), top},
		{root, big.NewInt(1)}, {big.NewInt(1), root}, {root, new(big.Int).Sub(root, big.NewInt(1))},
	}
	var l []*big.Rat
	for i, part := range parts {
		x := new(big.Rat).SetFrac(part[0], part[1])
		if l = append(l, x); i%2 == 0 {
			l = append(l, new(big.Rat).Neg(x))
		}
	}
	return l
}

// someInteger returns an integer with at most so many words, which are often all zeros or all ones.
func someInteger(source *rand.Rand, words int) *big.Int {
	x := new(big.Int)
	for range source.IntN(words) + 1 {
		word := source.Uint32()
		switch source.IntN(6) {
		case 0:
			word = 0
		case 1:
			word = math.MaxUint32
		case 2:
			word >>= source.IntN(32)
		}
		x.Lsh(x, 32).Or(x, big.NewInt(int64(word)))
	}
	if source.IntN(2) == 0 {
		x.Neg(x)
	}
	return x
}

// someFraction returns a fraction of integers with at most so many words.
func someFraction(source *rand.Rand, words int) *big.Rat {
	p, q := someInteger(source, words), someInteger(source, words)
	if q.Sign() == 0 || source.IntN(8) == 0 {
		q = big.NewInt(1)
	}
	return new(big.Rat).SetFrac(p, q)
}

// someQuotients returns quotients of Euclid's algorithm, of about 2000 bits each, or small ones.
func someQuotients(source *rand.Rand, n int) []*big.Int {
	l := make([]*big.Int, n)
	for i := range l {
		l[i] = new(big.Int).Abs(someInteger(source, 55))
		if source.IntN(4) == 0 {
			l[i] = big.NewInt(source.Int64N(3))
		}
		l[i].Add(l[i], big.NewInt(1))
	}
	return l
}

// ratOfQuotients returns the fraction with these quotients; 0 if there is none.
func ratOfQuotients(list []*big.Int) *big.Rat {
	x := new(big.Rat)
	for _, quotient := range slices.Backward(list) {
		if x.Sign() != 0 {
			x.Inv(x)
		}
		x.Add(x, new(big.Rat).SetInt(quotient))
	}
	return x
}
