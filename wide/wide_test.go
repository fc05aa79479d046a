package wide_test

import (
	"math"
	"math/big"
	"math/rand/v2"
	"slices"
	"strconv"
	"strings"
	"testing"

	"meresman/api"
	"meresman/wide"
)

// Expected results are computed by math/big, or stand in the text of the chapter.

func TestIntsAndBack(t *testing.T) { // P3.1
	for _, n := range ints() {
		x := wide.From(n)
		if got := x.String(); got != strconv.Itoa(n) {
			t.Errorf("From(%d) is %s", n, got)
		}
		if got, ok := x.Small(); got != n || !ok {
			t.Errorf("Small of %d: %d, %v", n, got, ok)
		}
	}
}

func TestSmall(t *testing.T) { // P3.1
	for _, c := range []struct {
		text string
		want int
		ok   bool
	}{
		{"0", 0, true},
		{"9223372036854775807", math.MaxInt, true},
		{"9223372036854775808", 0, false},
		{"-9223372036854775807", -math.MaxInt, true},
		{"-9223372036854775808", math.MinInt, true},
		{"-9223372036854775809", 0, false},
		{"18446744073709551615", 0, false},
		{"-18446744073709551615", 0, false},
		{"18446744073709551616", 0, false}, // its lower 64 bits are 0
		{"-18446744073709551616", 0, false},
		{"18446744073709551621", 0, false}, // and 5
		{"79228162514264337593543950336", 0, false},
		{"-79228162514264337593543950337", 0, false},
		{greatest().String(), 0, false},
		{"-" + greatest().String(), 0, false},
	} {
		if got, ok := parsed(t, c.text).Small(); got != c.want || ok != c.ok {
			t.Errorf("Small of %.40s: %d, %v, want %d, %v", c.text, got, ok, c.want, c.ok)
		}
	}
}

func TestSmallOfResults(t *testing.T) { // P3.1: of integers that have become smaller by calculating
	for _, n := range ints() {
		far, e := wide.Add(wide.From(n), of(t, power(2, 300)))
		back, e2 := wide.Sub(far, of(t, power(2, 300)))
		if got, ok := back.Small(); got != n || !ok || e != api.OK || e2 != api.OK {
			t.Errorf("%d, there and back: %d, %v, errors %d, %d", n, got, ok, e, e2)
		}
	}
}

func TestZeroValue(t *testing.T) { // "The zero value of Int stands for 0."
	var zero wide.Int
	five := wide.From(5)
	if n, ok := zero.Small(); n != 0 || !ok {
		t.Errorf("Small: %d, %v", n, ok)
	}
	if zero.String() != "0" || wide.Sign(zero) != 0 || wide.Compare(zero, wide.From(0)) != 0 || wide.Compare(zero, five) != -1 || wide.Compare(five, zero) != 1 {
		t.Errorf("the zero value is %v", zero)
	}
	if got := wide.Neg(zero); wide.Compare(got, zero) != 0 || got.String() != "0" {
		t.Errorf("Neg: %v", got)
	}
	if wide.Gcd(zero, zero).String() != "0" || wide.Gcd(zero, wide.From(-5)).String() != "5" || wide.Gcd(five, zero).String() != "5" {
		t.Errorf("Gcd: %v, %v, %v", wide.Gcd(zero, zero), wide.Gcd(zero, wide.From(-5)), wide.Gcd(five, zero))
	}
	for _, y := range []wide.Int{zero, five, wide.From(-5)} {
		sum, e := wide.Add(zero, y)
		expect(t, "0 + y", sum, e, y.String(), api.OK)
		sum, e = wide.Add(y, zero)
		expect(t, "y + 0", sum, e, y.String(), api.OK)
		difference, e := wide.Sub(y, zero)
		expect(t, "y - 0", difference, e, y.String(), api.OK)
		difference, e = wide.Sub(zero, y)
		expect(t, "0 - y", difference, e, wide.Neg(y).String(), api.OK)
		product, e := wide.Mul(zero, y)
		expect(t, "0 * y", product, e, "0", api.OK)
		product, e = wide.Mul(y, zero)
		expect(t, "y * 0", product, e, "0", api.OK)
	}
	q, r, e := wide.Div(zero, five)
	expect(t, "0 / 5", q, e, "0", api.OK)
	expect(t, "rest of 0 / 5", r, e, "0", api.OK)
}

func TestThereIsOneZero(t *testing.T) { // P3.2, P3.6: no result is a zero with a sign
	minus := wide.From(-7)
	zeros := []wide.Int{wide.Neg(wide.From(0)), wide.From(0)}
	sum, _ := wide.Add(minus, wide.From(7))
	difference, _ := wide.Sub(minus, minus)
	product, _ := wide.Mul(minus, wide.From(0))
	quotient, _, _ := wide.Div(wide.From(3), minus)
	_, rest, _ := wide.Div(minus, minus)
	for _, x := range append(zeros, sum, difference, product, quotient, rest) {
		if x.String() != "0" || wide.Sign(x) != 0 || wide.Compare(x, wide.Int{}) != 0 || wide.Compare(wide.Int{}, x) != 0 || wide.Sign(wide.Neg(x)) != 0 {
			t.Errorf("a zero is %v, with the sign %d", x, wide.Sign(x))
		}
	}
}

func TestTexts(t *testing.T) { // P3.2
	for _, text := range []string{
		"0", "1", "-1", "9", "10", "-10", "99", "100",
		"999999999", "1000000000", "-1000000000", "1000000001", "9999999999",
		"999999999999999999", "1000000000000000000", "1000000000000000001", "1000000001000000000",
		"4294967295", "4294967296", "-4294967297", "18446744073709551615", "18446744073709551616",
		"123456789012345678901234567890", "-100000000000000000000000000000000000000000000000001",
		"1" + strings.Repeat("0", 4932), "-1" + strings.Repeat("0", 4931), strings.Repeat("9", 4932),
		"-" + strings.Repeat("123456789", 500), strings.Repeat("1000000000", 493),
	} {
		if got := parsed(t, text).String(); got != text {
			t.Errorf("%.40s is read and written as %.40s", text, got)
		}
	}
	for _, x := range samples() {
		if got := of(t, x).String(); got != x.String() {
			t.Errorf("%.40s is written as %.40s", x, got)
		}
	}
}

func TestTextsHaveTheirValues(t *testing.T) { // P3.2: apart from String
	for _, n := range ints() {
		if got, ok := parsed(t, strconv.Itoa(n)).Small(); got != n || !ok {
			t.Errorf("Parse of %d: %d, %v", n, got, ok)
		}
	}
	ten, value := wide.From(10), wide.Int{}
	text := ""
	for i := range 200 {
		digit := i * i % 10
		if i == 0 {
			digit = 3
		}
		text += strconv.Itoa(digit)
		more, e := wide.Mul(value, ten)
		more, e2 := wide.Add(more, wide.From(digit))
		if value = more; e != api.OK || e2 != api.OK || wide.Compare(parsed(t, text), value) != 0 || value.String() != text {
			t.Fatalf("%s is read as %v, calculated as %v", text, parsed(t, text), value)
		}
	}
}

func TestMalformedTexts(t *testing.T) { // P3.2
	for _, text := range []string{
		"", "-", "--", "--1", "+", "+1", "+0", "-+1", "-0", "00", "-00", "01", "-01", "007", "0000000000000",
		" 1", "1 ", "1 2", "\n1", "1\n", "1-", "1-2", "1.0", "1,000", "1_000", "1e3", "0x10", "a", "1a", "a1", "1a1",
		"12345678x", "123456789x", "x123456789", "1/", "1:", "/", ":", "\x00", "1\x00", "\xff", "1\xff2",
		"\u0661", "1\u0661", "\u22121", "\uff11", "NaN", "nil",
		strings.Repeat("0", 5000), "-" + strings.Repeat("0", 4999), "0" + greatest().String(),
		strings.Repeat("9", 4999) + "x", "x" + strings.Repeat("9", 4999), strings.Repeat("9", 4999) + "-",
		strings.Repeat("9", 2500) + " " + strings.Repeat("9", 2499), strings.Repeat("x", 5000), strings.Repeat("-", 5000),
	} {
		x, e := wide.Parse(text)
		expect(t, "Parse("+strconv.Quote(text)+")", x, e, "0", api.ErrForm)
	}
	for c := range 256 { // every byte, alone and within
		digit := '0' <= c && c <= '9'
		alone, e := wide.Parse(string([]byte{byte(c)}))
		within, e2 := wide.Parse(string([]byte{'1', byte(c), '3'}))
		if digit != (e == api.OK) || digit != (e2 == api.OK) || !digit && (e != api.ErrForm || e2 != api.ErrForm || wide.Sign(alone) != 0 || wide.Sign(within) != 0) {
			t.Errorf("the byte %d: %v, error %d; within: %v, error %d", c, alone, e, within, e2)
		}
	}
}

func TestLongTexts(t *testing.T) { // P3.2: errors in their order
	least := new(big.Int).Add(greatest(), big.NewInt(1)).String() // that is out of range
	for _, text := range []string{
		least, "-" + least, strings.Repeat("9", 4933), strings.Repeat("9", 5000), "-" + strings.Repeat("9", 4999),
		"1" + strings.Repeat("0", 4999), "-1" + strings.Repeat("0", 4998), "1" + strings.Repeat("0", 4933),
		// Longer than 5000 bytes, and malformed as well.
		strings.Repeat("0", 5001), strings.Repeat("x", 5001), strings.Repeat("1", 5001), "-" + strings.Repeat("1", 5000),
		"-" + strings.Repeat("0", 5000), strings.Repeat("-", 5001), strings.Repeat("7", 100000),
	} {
		x, e := wide.Parse(text)
		expect(t, "Parse of a text of "+strconv.Itoa(len(text))+" bytes", x, e, "0", api.ErrLimit)
	}
	for _, text := range []string{greatest().String(), "-" + greatest().String()} {
		x, e := wide.Parse(text)
		expect(t, "Parse of the greatest integer", x, e, text, api.OK)
	}
}

func TestArithmetic(t *testing.T) { // P3.3 to P3.6
	list := samples()
	wides := make([]wide.Int, len(list))
	for i, x := range list {
		wides[i] = of(t, x)
	}
	for i, x := range list {
		for j, y := range list {
			checkPair(t, x, y, wides[i], wides[j])
		}
	}
	for i, x := range list { // the arguments have not changed
		if got := wides[i].String(); got != x.String() {
			t.Errorf("%.40s has changed to %.40s", x, got)
		}
	}
}

func TestArithmeticOfManySizes(t *testing.T) { // P3.3 to P3.6
	source := rand.New(rand.NewPCG(3, 3))
	for range 20000 {
		x, y := someInteger(source, 12), someInteger(source, 12)
		checkPair(t, x, y, of(t, x), of(t, y))
	}
	for range 60 {
		x, y := someInteger(source, 512), someInteger(source, 512)
		checkPair(t, x, y, of(t, x), of(t, y))
	}
}

func TestLimits(t *testing.T) { // P3.3
	top, one, two := of(t, greatest()), wide.From(1), wide.From(2)
	half, root := of(t, power(2, 16383)), of(t, power(2, 8192))
	below := of(t, new(big.Int).Sub(power(2, 8192), big.NewInt(1)))
	zero := wide.Int{}
	type operation = func(x, y wide.Int) (wide.Int, api.Errno)
	for _, c := range []struct {
		name string
		of   operation
		x, y wide.Int
		want *big.Int // nil if it is out of range
	}{
		{"top + 0", wide.Add, top, zero, greatest()},
		{"top + 1", wide.Add, top, one, nil},
		{"1 + top", wide.Add, one, top, nil},
		{"top + top", wide.Add, top, top, nil},
		{"-top - 1", wide.Add, wide.Neg(top), wide.From(-1), nil},
		{"top + -1", wide.Add, top, wide.From(-1), new(big.Int).Sub(greatest(), big.NewInt(1))},
		{"top + -top", wide.Add, top, wide.Neg(top), new(big.Int)},
		{"half + half", wide.Add, half, half, nil},
		{"half + (half - 1)", wide.Add, half, minus(t, half, one), greatest()},
		{"-half + -(half - 1)", wide.Add, wide.Neg(half), minus(t, one, half), new(big.Int).Neg(greatest())},
		{"top - -1", wide.Sub, top, wide.From(-1), nil},
		{"-top - 1", wide.Sub, wide.Neg(top), one, nil},
		{"-top - 0", wide.Sub, wide.Neg(top), zero, new(big.Int).Neg(greatest())},
		{"0 - top", wide.Sub, zero, top, new(big.Int).Neg(greatest())},
		{"top - top", wide.Sub, top, top, new(big.Int)},
		{"top - -top", wide.Sub, top, wide.Neg(top), nil},
		{"top * 1", wide.Mul, top, one, greatest()},
		{"top * -1", wide.Mul, top, wide.From(-1), new(big.Int).Neg(greatest())},
		{"-1 * top", wide.Mul, wide.From(-1), top, new(big.Int).Neg(greatest())},
		{"top * 0", wide.Mul, top, zero, new(big.Int)},
		{"top * 2", wide.Mul, top, two, nil},
		{"-2 * top", wide.Mul, wide.From(-2), top, nil},
		{"top * top", wide.Mul, top, top, nil},
		{"half * 2", wide.Mul, half, two, nil},
		{"half * -2", wide.Mul, half, wide.From(-2), nil},
		{"root * root", wide.Mul, root, root, nil},
		{"root * -root", wide.Mul, root, wide.Neg(root), nil},
		{"root * (root - 1)", wide.Mul, root, below, new(big.Int).Sub(power(2, 16384), power(2, 8192))},
		{"-root * (root - 1)", wide.Mul, wide.Neg(root), below, new(big.Int).Sub(power(2, 8192), power(2, 16384))},
		{"(root - 1) * (root + 1)", wide.Mul, below, minus(t, root, wide.From(-1)), greatest()},
	} {
		got, e := c.of(c.x, c.y)
		if c.want == nil {
			expect(t, c.name, got, e, "0", api.ErrLimit)
		} else {
			expect(t, c.name, got, e, c.want.String(), api.OK)
		}
	}
}

func TestDivisions(t *testing.T) { // P3.4
	top := greatest().String()
	for _, c := range []struct{ x, y, quotient, rest string }{
		{"7", "2", "3", "1"},
		{"-7", "2", "-4", "1"},
		{"7", "-2", "-3", "1"},
		{"-7", "-2", "4", "1"},
		{"6", "2", "3", "0"},
		{"-6", "2", "-3", "0"},
		{"6", "-2", "-3", "0"},
		{"-6", "-2", "3", "0"},
		{"0", "5", "0", "0"},
		{"0", "-5", "0", "0"},
		{"3", "5", "0", "3"},
		{"-3", "5", "-1", "2"},
		{"3", "-5", "0", "3"},
		{"-3", "-5", "1", "2"},
		{"-1", "18446744073709551616", "-1", "18446744073709551615"},
		{"-1", "-18446744073709551616", "1", "18446744073709551615"},
		{"-18446744073709551616", "4294967296", "-4294967296", "0"},
		{"-9223372036854775808", "-1", "9223372036854775808", "0"},
		{top, "1", top, "0"},
		{top, "-1", "-" + top, "0"},
		{"-" + top, "1", "-" + top, "0"},
		{"-" + top, "-1", top, "0"},
		{top, top, "1", "0"},
		{top, "-" + top, "-1", "0"},
		{"-1", top, "-1", new(big.Int).Sub(greatest(), big.NewInt(1)).String()},
		{"-" + top, "2", "-" + power(2, 16383).String(), "1"},
		{"-" + top, "-2", power(2, 16383).String(), "1"},
	} {
		q, r, e := wide.Div(parsed(t, c.x), parsed(t, c.y))
		if q.String() != c.quotient || r.String() != c.rest || e != api.OK {
			t.Errorf("%.40s / %.40s: %.40s with the rest %.40s, error %d", c.x, c.y, q, r, e)
		}
	}
}

func TestDivisionByZero(t *testing.T) { // P3.4
	for _, text := range []string{"0", "1", "-1", "4294967296", "-123456789012345678901234567890", greatest().String()} {
		for _, zero := range []wide.Int{{}, wide.From(0), wide.Neg(wide.From(0))} {
			q, r, e := wide.Div(parsed(t, text), zero)
			expect(t, "quotient by 0", q, e, "0", api.ErrArg)
			expect(t, "rest by 0", r, e, "0", api.ErrArg)
		}
	}
}

// TestDivisionsOfExtremeWords goes through those dividends and divisors for which the highest words tell least of a quotient.
func TestDivisionsOfExtremeWords(t *testing.T) { // P3.4
	words := []uint32{0, 1, 1<<31 - 1, 1 << 31, 1<<31 + 1, math.MaxUint32 - 1, math.MaxUint32}
	var divisors, dividends []*big.Int
	for _, a := range words {
		for _, b := range words {
			divisors = append(divisors, ofWords(a), ofWords(a, b))
			for _, c := range words {
				dividends = append(dividends, ofWords(a, b, c), ofWords(a, b, c, 0), ofWords(0, a, b, c), ofWords(a, b, b, c))
				divisors = append(divisors, ofWords(a, b, c))
			}
		}
	}
	quotients := ofAll(t, dividends)
	for j, y := range ofAll(t, divisors) {
		if wide.Sign(y) == 0 {
			continue
		}
		for i, x := range quotients {
			q, r, e := wide.Div(x, y)
			wantQ, wantR := new(big.Int).DivMod(dividends[i], divisors[j], new(big.Int))
			if q.String() != wantQ.String() || r.String() != wantR.String() || e != api.OK {
				t.Fatalf("%v / %v: %v with the rest %v, error %d", x, y, q, r, e)
			}
		}
	}
}

func TestCommonDivisors(t *testing.T) { // P3.5
	for _, c := range []struct{ x, y, want string }{
		{"0", "0", "0"},
		{"0", "1", "1"},
		{"0", "-6", "6"},
		{"-6", "0", "6"},
		{"1", "0", "1"},
		{"12", "18", "6"},
		{"-12", "18", "6"},
		{"12", "-18", "6"},
		{"-12", "-18", "6"},
		{"17", "5", "1"},
		{"5", "17", "1"},
		{"5", "5", "5"},
		{"-5", "5", "5"},
		{"-9223372036854775808", "-9223372036854775808", "9223372036854775808"},
		{"18446744073709551616", "6", "2"},
		{"6", "18446744073709551616", "2"},
		{"79228162514264337593543950336", "79228162514264337593543950336", "79228162514264337593543950336"},
		{"-79228162514264337593543950336", "0", "79228162514264337593543950336"},
		{power(6, 6000).String(), power(10, 4932).String(), power(2, 4932).String()},
		{greatest().String(), new(big.Int).Sub(power(2, 8192), big.NewInt(1)).String(), new(big.Int).Sub(power(2, 8192), big.NewInt(1)).String()},
		{greatest().String(), "-" + greatest().String(), greatest().String()},
	} {
		if got := wide.Gcd(parsed(t, c.x), parsed(t, c.y)); got.String() != c.want {
			t.Errorf("Gcd(%.40s, %.40s) = %.40s, want %.40s", c.x, c.y, got, c.want)
		}
	}
}

func TestCommonDivisorsOfNeighbours(t *testing.T) { // P3.5: of numbers whose quotients are all 1
	x, y := big.NewInt(0), big.NewInt(1)
	factor := big.NewInt(1_000_003)
	for n := 0; y.BitLen() < 16300; n++ {
		x, y = y, x.Add(x, y)
		if n%97 != 0 && n > 400 {
			continue
		}
		checkGcd(t, x, y)
		checkGcd(t, new(big.Int).Mul(x, factor), new(big.Int).Mul(y, factor))
	}
}

// TestCommonDivisorsOfExtremeWords goes through numbers whose highest bits are just not enough to tell their quotients.
func TestCommonDivisorsOfExtremeWords(t *testing.T) { // P3.5
	words := []uint32{0, 1, 2, 1 << 31, math.MaxUint32 - 1, math.MaxUint32}
	var list []*big.Int
	for _, a := range words {
		for _, b := range words {
			for _, c := range words {
				list = append(list, ofWords(a, b, c, 1), ofWords(c, b, a, a))
			}
		}
	}
	for _, x := range list {
		for _, y := range list {
			checkGcd(t, x, y)
		}
	}
}

func TestCommonDivisorsOfManyQuotients(t *testing.T) { // P3.5
	source := rand.New(rand.NewPCG(3, 5))
	for range 3000 {
		// From the last rest of Euclid's algorithm back to numbers with given quotients.
		x, y := someInteger(source, 1+source.IntN(3)), big.NewInt(0)
		x.Abs(x)
		want := x.String()
		for range 20 + source.IntN(300) {
			quotient := big.NewInt(1 + source.Int64N(1<<source.IntN(40)))
			x, y = y.Add(y, quotient.Mul(quotient, x)), x
		}
		if x.BitLen() > 16384 {
			continue
		}
		if got := wide.Gcd(of(t, x), of(t, y)); got.String() != want {
			t.Fatalf("Gcd(%.60s, %.60s) = %.60s, want %.60s", x, y, got, want)
		}
	}
}

func TestOrder(t *testing.T) { // P3.6
	list := samples()
	slices.SortFunc(list, (*big.Int).Cmp)
	list = slices.CompactFunc(list, func(x, y *big.Int) bool { return x.Cmp(y) == 0 })
	wides := ofAll(t, list)
	for i, x := range wides {
		for j, y := range wides {
			want := 0
			if i < j {
				want = -1
			} else if i > j {
				want = 1
			}
			if got := wide.Compare(x, y); got != want {
				t.Errorf("Compare(%.40s, %.40s) = %d, want %d", x, y, got, want)
			}
		}
		if got := wide.Sign(x); got != list[i].Sign() || got != wide.Compare(x, wide.Int{}) {
			t.Errorf("Sign(%.40s) = %d", x, got)
		}
		minus := wide.Neg(x)
		if minus.String() != new(big.Int).Neg(list[i]).String() || wide.Sign(minus) != -list[i].Sign() || wide.Compare(wide.Neg(minus), x) != 0 {
			t.Errorf("Neg(%.40s) = %.40s", x, minus)
		}
	}
}

func TestRing(t *testing.T) { // P3.7
	source := rand.New(rand.NewPCG(3, 7))
	for _, words := range []int{1, 2, 5, 40, 171} { // three factors with 171 words are just out of range at times
		for range 200 {
			x, y, z := of(t, someInteger(source, words)), of(t, someInteger(source, words)), of(t, someInteger(source, words))
			sameResult(t, "x + y = y + x", chain(wide.Add, x, y), chain(wide.Add, y, x))
			sameResult(t, "x * y = y * x", chain(wide.Mul, x, y), chain(wide.Mul, y, x))
			sameResult(t, "(x + y) + z = x + (y + z)", chain(wide.Add, x, y, z), chain(wide.Add, y, z, x))
			sameResult(t, "(x * y) * z = (y * z) * x", chain(wide.Mul, x, y, z), chain(wide.Mul, y, z, x))
			left, right := both(chain(wide.Add, x, y), z), both(chain(wide.Mul, x, z), chain(wide.Mul, y, z)...)
			sameResult(t, "(x + y) * z = x * z + y * z", chain(wide.Mul, left...), chain(wide.Add, right...))
			sameResult(t, "x + y - y = x", chain(wide.Sub, both(chain(wide.Add, x, y), y)...), []wide.Int{x})
			sameResult(t, "x - y = x + -y", chain(wide.Sub, x, y), chain(wide.Add, x, wide.Neg(y)))
			difference, e := wide.Sub(x, y)
			if (wide.Sign(difference) == 0) != (wide.Compare(x, y) == 0) || e != api.OK {
				t.Errorf("%.40s - %.40s is %.40s, error %d", x, y, difference, e)
			}
			if zero, e := wide.Sub(x, x); wide.Sign(zero) != 0 || e != api.OK {
				t.Errorf("%.40s - itself is %.40s, error %d", x, zero, e)
			}
		}
	}
}

func TestDivisorsDivide(t *testing.T) { // P3.8, P3.4
	source := rand.New(rand.NewPCG(3, 8))
	for _, words := range []int{1, 2, 3, 8, 60} {
		for range 300 {
			common := someInteger(source, words)
			x := of(t, new(big.Int).Mul(common, someInteger(source, words)))
			y := of(t, new(big.Int).Mul(common, someInteger(source, words)))
			if wide.Sign(y) == 0 {
				continue
			}
			divisor := wide.Gcd(x, y)
			xPart, xRest, e := wide.Div(x, divisor)
			yPart, yRest, e2 := wide.Div(y, divisor)
			if wide.Sign(xRest) != 0 || wide.Sign(yRest) != 0 || e != api.OK || e2 != api.OK || wide.Sign(divisor) != 1 {
				t.Fatalf("Gcd(%.40s, %.40s) = %.40s does not divide both", x, y, divisor)
			}
			if left := wide.Gcd(xPart, yPart); left.String() != "1" {
				t.Fatalf("divided by Gcd(%.40s, %.40s), they have the common divisor %.40s", x, y, left)
			}
			_, rest, _ := wide.Div(x, y)
			if wide.Compare(divisor, wide.Gcd(y, rest)) != 0 || wide.Compare(divisor, wide.Gcd(y, x)) != 0 {
				t.Fatalf("Gcd(%.40s, %.40s) is not that of the second and the rest", x, y)
			}
		}
	}
}

func TestTextsOfAllLengths(t *testing.T) { // P3.9
	source := rand.New(rand.NewPCG(3, 9))
	for n := 1; n < 4933; n += 1 + n/20 {
		for range 5 {
			text := someDigits(source, n)
			if source.IntN(2) == 0 {
				text = "-" + text
			}
			if got := parsed(t, text).String(); got != text {
				t.Fatalf("%.60s .. is read and written as %.60s ..", text, got)
			}
		}
	}
}

func TestDigitsOfProducts(t *testing.T) { // P3.9
	source := rand.New(rand.NewPCG(3, 10))
	counts := [2]int{}
	for range 2000 {
		m, n := 1+source.IntN(100), 1+source.IntN(100)
		x, y := someDigits(source, m), someDigits(source, n)
		product, e := wide.Mul(parsed(t, x), parsed(t, y))
		missing := m + n - len(product.String())
		if missing != 0 && missing != 1 || e != api.OK {
			t.Fatalf("%s * %s = %v, error %d", x, y, product, e)
		}
		counts[missing]++
	}
	if counts[0] == 0 || counts[1] == 0 {
		t.Errorf("products with all digits and with one less: %v", counts)
	}
}

func TestExamples(t *testing.T) {
	q, r, e := wide.Div(wide.From(-7), wide.From(2))
	if q.String() != "-4" || r.String() != "1" || e != api.OK {
		t.Errorf("-7 / 2: %v with the rest %v, error %d", q, r, e)
	}
	q, r, e = wide.Div(wide.From(7), wide.From(-2))
	if q.String() != "-3" || r.String() != "1" || e != api.OK {
		t.Errorf("7 / -2: %v with the rest %v, error %d", q, r, e)
	}
	x := wide.From(4294967296)
	square, e := wide.Mul(x, x)
	expect(t, "the square of 4294967296", square, e, "18446744073709551616", api.OK)
	if n, ok := square.Small(); n != 0 || ok {
		t.Errorf("Small of the square: %d, %v", n, ok)
	}
	for _, text := range []string{"-0", "01"} {
		x, e := wide.Parse(text)
		expect(t, "Parse of "+text, x, e, "0", api.ErrForm)
	}
}

func TestResultsStayAsTheyAre(t *testing.T) { // R1, R3: later calls change neither arguments nor results
	x, y := parsed(t, "-340282366920938463463374607431768211455"), parsed(t, "79228162514264337593543950335")
	results := func() []wide.Int {
		sum, _ := wide.Add(x, y)
		difference, _ := wide.Sub(x, y)
		product, _ := wide.Mul(x, y)
		quotient, rest, _ := wide.Div(x, y)
		return []wide.Int{x, y, sum, difference, product, quotient, rest, wide.Gcd(x, y), wide.Gcd(x, wide.Int{}), wide.Neg(x), wide.Neg(y)}
	}
	first := results()
	texts := make([]string, len(first))
	for i, r := range first {
		texts[i] = r.String()
	}
	for _, a := range first {
		for _, b := range first {
			checkPair(t, bigOf(a), bigOf(b), a, b)
		}
	}
	for i, r := range results() {
		if first[i].String() != texts[i] || r.String() != texts[i] {
			t.Errorf("result %d was %s, is %v, and again %v", i, texts[i], first[i], r)
		}
	}
}

func FuzzAllArguments(f *testing.F) { // P1, P3.1 to P3.6
	f.Add([]byte(nil), []byte(nil), false, false, "")
	f.Add([]byte{255, 255, 255, 255, 255, 255, 255, 255, 255}, []byte{128, 0, 0, 0, 1}, true, false, "-12345678901234567890")
	f.Add(make([]byte, 2048), []byte("some bytes, and many more of them"), true, true, "0012")
	f.Fuzz(func(t *testing.T, a, b []byte, minusA, minusB bool, text string) {
		x, y := ofBytes(a, minusA), ofBytes(b, minusB)
		checkPair(t, x, y, of(t, x), of(t, y))
		if n, ok := of(t, x).Small(); ok != x.IsInt64() || ok && int64(n) != x.Int64() {
			t.Errorf("Small of %s: %d, %v", x, n, ok)
		}
		z, e := wide.Parse(text)
		expect(t, "Parse", z, e, bigOf(z).String(), wantOfText(text))
		if e == api.OK && z.String() != text {
			t.Errorf("%q is read as %v", text, z)
		}
	})
}

// checkPair compares all operations on two integers with those of math/big.
func checkPair(t *testing.T, x, y *big.Int, a, b wide.Int) {
	t.Helper()
	sum, e := wide.Add(a, b)
	expectBig(t, "+", a, b, sum, e, new(big.Int).Add(x, y))
	difference, e := wide.Sub(a, b)
	expectBig(t, "-", a, b, difference, e, new(big.Int).Sub(x, y))
	product, e := wide.Mul(a, b)
	expectBig(t, "*", a, b, product, e, new(big.Int).Mul(x, y))
	quotient, rest, e := wide.Div(a, b)
	if y.Sign() == 0 {
		expect(t, "quotient by 0", quotient, e, "0", api.ErrArg)
		expect(t, "rest by 0", rest, e, "0", api.ErrArg)
	} else {
		wantQ, wantR := new(big.Int).DivMod(x, y, new(big.Int))
		expectBig(t, "/", a, b, quotient, e, wantQ)
		expectBig(t, "rest of /", a, b, rest, e, wantR)
	}
	expectBig(t, "Gcd", a, b, wide.Gcd(a, b), api.OK, new(big.Int).GCD(nil, nil, new(big.Int).Abs(x), new(big.Int).Abs(y)))
	if got := wide.Compare(a, b); got != x.Cmp(y) {
		t.Errorf("Compare(%.60s, %.60s) = %d", x, y, got)
	}
}

func checkGcd(t *testing.T, x, y *big.Int) {
	t.Helper()
	a, b := of(t, x), of(t, y)
	want := new(big.Int).GCD(nil, nil, x, y).String()
	if there, back := wide.Gcd(a, b).String(), wide.Gcd(b, a).String(); there != want || back != want {
		t.Fatalf("Gcd of %.60s and %.60s: %.60s and %.60s, want %.60s", x, y, there, back, want)
	}
}

// expectBig reports a result that is not the expected one, or not ErrLimit if this is out of range.
func expectBig(t *testing.T, name string, a, b, got wide.Int, e api.Errno, want *big.Int) {
	t.Helper()
	text, errno := want.String(), api.OK
	if want.BitLen() > 16384 {
		text, errno = "0", api.ErrLimit
	}
	if got.String() != text || e != errno {
		t.Fatalf("%.60s %s %.60s: %.60s, error %d, want %.60s, error %d", a, name, b, got, e, text, errno)
	}
}

func expect(t *testing.T, name string, got wide.Int, e api.Errno, want string, errno api.Errno) {
	t.Helper()
	if got.String() != want || e != errno {
		t.Errorf("%.60s: %.60s, error %d, want %.60s, error %d", name, got, e, want, errno)
	}
}

// chain returns the result of an operation on all integers, one after the other, or none if one is out of range.
func chain(operation func(x, y wide.Int) (wide.Int, api.Errno), list ...wide.Int) []wide.Int {
	if len(list) == 0 {
		return nil
	}
	x := list[0]
	for _, y := range list[1:] {
		var e api.Errno
		if x, e = operation(x, y); e != api.OK {
			return nil
		}
	}
	return []wide.Int{x}
}

// both returns a result and other integers, or none if one of the two is missing.
func both(result []wide.Int, others ...wide.Int) []wide.Int {
	if len(result) == 0 || len(others) == 0 {
		return nil
	}
	return slices.Concat(result, others)
}

// sameResult reports two results that differ; one that is out of range differs from none.
func sameResult(t *testing.T, law string, a, b []wide.Int) {
	t.Helper()
	if len(a) == 1 && len(b) == 1 && wide.Compare(a[0], b[0]) != 0 {
		t.Errorf("not %s: %.60s and %.60s", law, a[0], b[0])
	}
}

// wantOfText returns the error with which a text is read.
func wantOfText(text string) api.Errno {
	x, ok := new(big.Int).SetString(text, 10)
	switch {
	case len(text) > 5000:
		return api.ErrLimit
	case !ok || x.String() != text:
		return api.ErrForm
	case x.BitLen() > 16384:
		return api.ErrLimit
	default:
		return api.OK
	}
}

func parsed(t *testing.T, text string) wide.Int {
	t.Helper()
	x, e := wide.Parse(text)
	if e != api.OK {
		t.Fatalf("Parse(%.60s): error %d", text, e)
	}
	return x
}

func of(t *testing.T, x *big.Int) wide.Int {
	t.Helper()
	return parsed(t, x.String())
}

func ofAll(t *testing.T, list []*big.Int) []wide.Int {
	t.Helper()
	wides := make([]wide.Int, len(list))
	for i, x := range list {
		wides[i] = of(t, x)
	}
	return wides
}

func bigOf(x wide.Int) *big.Int {
	b, _ := new(big.Int).SetString(x.String(), 10)
	return b
}

func minus(t *testing.T, x, y wide.Int) wide.Int {
	t.Helper()
	difference, e := wide.Sub(x, y)
	if e != api.OK {
		t.Fatalf("%.60s - %.60s: error %d", x, y, e)
	}
	return difference
}

// ofWords returns the integer with words of 32 bits, the highest one first.
func ofWords(words ...uint32) *big.Int {
	x := new(big.Int)
	for _, word := range words {
		x.Lsh(x, 32).Or(x, big.NewInt(int64(word)))
	}
	return x
}

// ofBytes returns an integer in range.
func ofBytes(b []byte, minus bool) *big.Int {
	x := new(big.Int).SetBytes(b[:min(len(b), 2048)])
	if minus {
		x.Neg(x)
	}
	return x
}

func power(x, n int64) *big.Int {
	return new(big.Int).Exp(big.NewInt(x), big.NewInt(n), nil)
}

// greatest returns the greatest integer in range.
func greatest() *big.Int {
	return new(big.Int).Sub(power(2, 16384), big.NewInt(1))
}

// ints returns numbers near powers of two and ten, and their opposites.
func ints() []int {
	l := []int{math.MaxInt, math.MinInt}
	for bit := range 63 {
		for d := -2; d <= 2; d++ {
			l = append(l, 1<<bit+d, -1<<bit+d)
		}
	}
	for n := 1; n < math.MaxInt/10; n *= 10 {
		for d := -2; d <= 2; d++ {
			l = append(l, n+d, -n+d)
		}
	}
	return l
}

// samples returns integers of all sizes, among them those next to powers of two and ten, of both signs.
func samples() []*big.Int {
	l := []*big.Int{new(big.Int)}
	add := func(x *big.Int) {
		l = append(l, x, new(big.Int).Neg(x))
	}
	for _, bits := range []int64{0, 1, 31, 32, 33, 63, 64, 65, 96, 127, 128} {
		for d := int64(-1); d <= 1; d++ {
			add(new(big.Int).Add(power(2, bits), big.NewInt(d)))
		}
	}
	for _, digits := range []int64{9, 18, 19, 27, 40} {
		add(power(10, digits))
		add(new(big.Int).Sub(power(10, digits), big.NewInt(1)))
	}
	add(power(2, 8192))
	add(power(2, 16383))
	add(greatest())
	add(big.NewInt(600851475143))
	add(ofWords(math.MaxUint32, 0, math.MaxUint32, 0))
	add(ofWords(1, 0, 0, 0, math.MaxUint32))
	return l
}

// someInteger returns an integer with at most so many words, which are often all zeros or all ones.
func someInteger(source *rand.Rand, words int) *big.Int {
	x := new(big.Int)
	for range source.IntN(words) + 1 {
		word := source.Uint32()
		switch source.IntN(6) {
		case 0:
			word = 0
		case 1:
			word = math.MaxUint32
		case 2:
			word >>= source.IntN(32)
		}
		x.Lsh(x, 32).Or(x, big.NewInt(int64(word)))
	}
	if source.IntN(2) == 0 {
		x.Neg(x)
	}
	return x
}

// someDigits returns a text of n digits without a leading zero.
func someDigits(source *rand.Rand, n int) string {
	digits := []byte{'1' + byte(source.IntN(9))}
	for len(digits) < n {
		switch source.IntN(4) {
		case 0: // a run that fills a group
			digits = append(digits, strings.Repeat("0", min(12, n-len(digits)))...)
		default:
			digits = append(digits, '0'+byte(source.IntN(10)))
		}
	}
	return string(digits)
}
