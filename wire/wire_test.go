package wire_test

import (
	"bytes"
	"encoding/binary"
	"math"
	"math/bits"
	"math/rand/v2"
	"slices"
	"strings"
	"testing"

	"meresman/api"
	"meresman/wire"
)

func TestEncodings(t *testing.T) { // P2.1
	for _, c := range []struct {
		v    any
		want []byte
	}{
		{uint64(0), []byte{0}},
		{uint64(1), []byte{1}},
		{uint64(127), []byte{127}},
		{uint64(128), []byte{128, 1}},
		{uint64(255), []byte{255, 1}},
		{uint64(300), []byte{172, 2}},
		{uint64(16383), []byte{255, 127}},
		{uint64(16384), []byte{128, 128, 1}},
		{uint64(1 << 63), []byte{128, 128, 128, 128, 128, 128, 128, 128, 128, 1}},
		{uint64(math.MaxUint64), []byte{255, 255, 255, 255, 255, 255, 255, 255, 255, 1}},
		{0, []byte{0}},
		{-1, []byte{1}},
		{1, []byte{2}},
		{-2, []byte{3}},
		{63, []byte{126}},
		{-64, []byte{127}},
		{64, []byte{128, 1}},
		{-65, []byte{129, 1}},
		{math.MaxInt, []byte{254, 255, 255, 255, 255, 255, 255, 255, 255, 1}},
		{math.MinInt, []byte{255, 255, 255, 255, 255, 255, 255, 255, 255, 1}},
		{false, []byte{0}},
		{true, []byte{1}},
		{"", []byte{0}},
		{"ab", []byte{2, 97, 98}},
		{"\x00\xff\x80", []byte{3, 0, 255, 128}},
		{"\u00e9", []byte{2, 0xc3, 0xa9}},
		{[]byte(nil), []byte{0}},
		{[]byte{}, []byte{0}},
		{[]byte{0, 255, 7}, []byte{3, 0, 255, 7}},
		{[]int(nil), []byte{0}},
		{[]int{}, []byte{0}},
		{[]int{-1, 64, 0}, []byte{3, 1, 128, 1, 0}},
	} {
		if got := encoded(c.v); !bytes.Equal(got, c.want) {
			t.Errorf("%T %#v is encoded as %v, want %v", c.v, c.v, got, c.want)
		}
	}
}

func TestLongValuesHaveLongLengths(t *testing.T) { // P2.1
	for _, n := range []int{127, 128, 300, 16383, 16384} {
		length := binary.AppendUvarint(nil, uint64(n))
		text := strings.Repeat("x", n)
		if got := encoded(text); !bytes.Equal(got, append(slices.Clone(length), text...)) {
			t.Errorf("a text of %d bytes is encoded as %v ..", n, got[:min(4, len(got))])
		}
		if got := encoded([]byte(text)); !bytes.Equal(got, append(slices.Clone(length), text...)) {
			t.Errorf("a slice of %d bytes is encoded as %v ..", n, got[:min(4, len(got))])
		}
		if got := encoded(make([]int, n)); !bytes.Equal(got, append(slices.Clone(length), make([]byte, n)...)) {
			t.Errorf("a list of %d numbers is encoded as %v ..", n, got[:min(4, len(got))])
		}
	}
}

func TestNumbersOfAllSizes(t *testing.T) { // P2.1, P2.8
	for _, n := range numbers() {
		unsigned := encoded(n)
		if want := binary.AppendUvarint(nil, n); !bytes.Equal(unsigned, want) {
			t.Errorf("Uint(%d) appends %v, want %v", n, unsigned, want)
		}
		if want := max(1, (bits.Len64(n)+6)/7); len(unsigned) != want {
			t.Errorf("Uint(%d) appends %d bytes, want %d", n, len(unsigned), want)
		}
		signed := encoded(int(n))
		if want := binary.AppendVarint(nil, int64(n)); !bytes.Equal(signed, want) {
			t.Errorf("Int(%d) appends %v, want %v", int(n), signed, want)
		}
		if got := wire.Read(unsigned).Uint(); got != n {
			t.Errorf("Uint reads %d from the varint of %d", got, n)
		}
		if got := wire.Read(signed).Int(); got != int(n) {
			t.Errorf("Int reads %d from the encoding of %d", got, int(n))
		}
	}
}

func TestWriterAppends(t *testing.T) { // P2.1
	var w wire.Writer
	if got := w.Done(); len(got) != 0 {
		t.Errorf("the zero Writer contains %v", got)
	}
	var want []byte
	for range 3 { // often enough for the space of the writer to grow
		for _, v := range samples() {
			write(&w, v)
			want = append(want, encoded(v)...)
			if got := w.Done(); !bytes.Equal(got, want) {
				t.Fatalf("after %T %#v: %#v, want %#v", v, v, got, want)
			}
		}
	}
	if got := w.Done(); !bytes.Equal(got, want) {
		t.Errorf("a second Done returns %v, want %v", got, want)
	}
}

func TestDoneReturnsNewSlices(t *testing.T) { // P2.1, R3
	for n := range 40 {
		var w wire.Writer
		w.Raw(make([]byte, n))
		first := w.Done()
		kept := slices.Clone(first)
		w.Bool(true)
		second := w.Done()
		if !bytes.Equal(first, kept) || !bytes.Equal(second, append(slices.Clone(kept), 1)) {
			t.Errorf("after one more byte: %v and %v", first, second)
		}
		first[0]++
		_ = append(first, 9, 9, 9)
		_ = append(second, 8, 8, 8)
		w.Bool(false)
		if got := w.Done(); !bytes.Equal(got, append(slices.Clone(kept), 1, 0)) {
			t.Errorf("after changes of results the writer contains %v", got)
		}
		if !bytes.Equal(second, append(slices.Clone(kept), 1)) {
			t.Errorf("two results share memory: %v", second)
		}
	}
}

func TestWritersAreApart(t *testing.T) { // P2.1
	var a, b wire.Writer
	a.Int(1)
	b.Text("b")
	a.Uint(5)
	if got := a.Done(); !bytes.Equal(got, []byte{2, 5}) {
		t.Errorf("the first writer contains %v", got)
	}
	if got := b.Done(); !bytes.Equal(got, []byte{1, 98}) {
		t.Errorf("the second writer contains %v", got)
	}
}

func TestWriterKeepsNoArgument(t *testing.T) { // P2.1, R3
	var w wire.Writer
	raw, ints := []byte{1, 2, 3, 4}, []int{5, -6, 7}
	w.Raw(raw[:2])
	w.Ints(ints[:2])
	if !bytes.Equal(raw, []byte{1, 2, 3, 4}) || !slices.Equal(ints, []int{5, -6, 7}) {
		t.Errorf("the arguments have changed: %v, %v", raw, ints)
	}
	raw[0], ints[0] = 9, 9
	if got := w.Done(); !bytes.Equal(got, []byte{2, 1, 2, 2, 10, 11}) {
		t.Errorf("after changes of the arguments the writer contains %v", got)
	}
}

func TestReaderReadsOneValueAfterTheOther(t *testing.T) { // P2.2
	var all []byte
	for _, v := range samples() {
		all = append(all, encoded(v)...)
	}
	r := wire.Read(all)
	for _, v := range samples() {
		if e := r.End(); e != api.ErrForm {
			t.Errorf("End before %T %#v: %d, want ErrForm", v, v, e)
		}
		if got := readLike(r, v); !same(got, v) {
			t.Fatalf("read %T %#v, want %#v", v, got, v)
		}
	}
	for range 2 {
		if e := r.End(); e != api.OK {
			t.Errorf("End after all values: %d", e)
		}
	}
	if r.Bool(); r.End() != api.ErrMore {
		t.Errorf("one value too many: %d, want ErrMore", r.End())
	}
}

func TestReadersOfNoBytes(t *testing.T) { // P2.2
	for _, b := range [][]byte{nil, {}} {
		if e := wire.Read(b).End(); e != api.OK {
			t.Errorf("End of no bytes: %d", e)
		}
		for _, zero := range zeros() {
			r := wire.Read(b)
			if got := readLike(r, zero); !same(got, zero) || r.End() != api.ErrMore {
				t.Errorf("no bytes are read as %T %#v, error %d", zero, got, r.End())
			}
		}
	}
}

func TestReaderHasItsOwnBytes(t *testing.T) { // P2.2, R3
	b := []byte{2, 3, 1, 7, 1, 9, 0}
	kept := slices.Clone(b)
	r, other := wire.Read(b), wire.Read(b[:6])
	if got := other.Ints(); !slices.Equal(got, []int{-2, -1}) {
		t.Errorf("the second reader reads %v", got)
	}
	if !bytes.Equal(b, kept) {
		t.Errorf("reading has changed the bytes: %v", b)
	}
	clear(b)
	if got := r.Raw(); !bytes.Equal(got, []byte{3, 1}) {
		t.Errorf("after a change of the bytes the reader reads %v", got)
	}
	if got := []uint64{r.Uint(), r.Uint(), r.Uint(), r.Uint()}; !slices.Equal(got, []uint64{7, 1, 9, 0}) || r.End() != api.OK {
		t.Errorf("the rest is read as %v, error %d", got, r.End())
	}
}

func TestResultsHaveTheirOwnBytes(t *testing.T) { // P2.5, R3
	b := []byte{2, 1, 2, 2, 3, 4, 0, 1, 5}
	r := wire.Read(b)
	first := r.Raw()
	first[0] = 99
	first = append(first, 99, 99, 99)
	second := r.Raw()
	third := append(r.Raw(), 99, 99)
	fourth := r.Raw()
	if !bytes.Equal(second, []byte{3, 4}) || !bytes.Equal(fourth, []byte{5}) || r.End() != api.OK {
		t.Errorf("after changes of %v and %v: read %v and %v, error %d", first, third, second, fourth, r.End())
	}
	if !bytes.Equal(b, []byte{2, 1, 2, 2, 3, 4, 0, 1, 5}) {
		t.Errorf("a change of a result has changed the bytes: %v", b)
	}
	r = wire.Read([]byte{1, 2, 1, 4})
	one := r.Ints()
	two := append(r.Ints(), 7)
	if one = append(one, 8); !slices.Equal(one, []int{1, 8}) || !slices.Equal(two, []int{2, 7}) {
		t.Errorf("two lists share memory: %v, %v", one, two)
	}
}

func TestFirstErrorStays(t *testing.T) { // P2.2
	for _, c := range []struct {
		v    any
		b    []byte
		want api.Errno
	}{
		// What comes after the error could be read, or would lead to the other error.
		{uint64(0), []byte{128, 0, 1, 1, 1}, api.ErrForm},
		{uint64(0), []byte{128, 0}, api.ErrForm},
		{0, []byte{130, 0, 1, 1, 1}, api.ErrForm},
		{0, []byte{130, 0}, api.ErrForm},
		{false, []byte{2, 1, 1, 1}, api.ErrForm},
		{false, []byte{2}, api.ErrForm},
		{"", []byte{129, 0, 1, 1}, api.ErrForm},
		{"", []byte{4, 1, 1, 1}, api.ErrMore},
		{"", []byte{4, 130, 0, 2}, api.ErrMore},
		{[]byte{}, []byte{129, 0, 1, 1}, api.ErrForm},
		{[]byte{}, []byte{4, 1, 1, 1}, api.ErrMore},
		{[]byte{}, []byte{4, 130, 0, 2}, api.ErrMore},
		{[]int{}, []byte{2, 1, 129, 0, 1, 1}, api.ErrForm},
		{[]int{}, []byte{3, 129, 0, 128, 0}, api.ErrForm},
		{[]int{}, []byte{4, 1, 1, 1}, api.ErrMore},
		{[]int{}, []byte{4, 130, 0, 2}, api.ErrMore},
		{[]int{}, []byte{2, 1, 128}, api.ErrMore},
	} {
		r := wire.Read(c.b)
		if got := readLike(r, c.v); !same(got, c.v) || r.End() != c.want {
			t.Errorf("%v is read as %T %#v, error %d, want %d", c.b, c.v, got, r.End(), c.want)
		}
		for _, zero := range append(zeros(), zeros()...) {
			if got := readLike(r, zero); !same(got, zero) || r.End() != c.want {
				t.Errorf("%v, after the error %d: %T %#v, error %d", c.b, c.want, zero, got, r.End())
			}
		}
	}
}

func TestEndOfBytesThatAreLeft(t *testing.T) { // P2.2
	r := wire.Read([]byte{5, 1, 3})
	for _, v := range []any{uint64(5), true, -2} {
		for range 2 {
			if e := r.End(); e != api.ErrForm {
				t.Errorf("End before %v: %d, want ErrForm", v, e)
			}
		}
		if got := readLike(r, v); !same(got, v) {
			t.Errorf("after End: read %#v, want %#v", got, v)
		}
	}
	if e := r.End(); e != api.OK {
		t.Errorf("End of all bytes: %d", e)
	}
}

func TestMalformedVarints(t *testing.T) { // P2.3, P2.4, P2.5
	for _, c := range malformedVarints() {
		for _, zero := range []any{uint64(0), 0, "", []byte{}, []int{}} { // the last three have it as their length
			r := wire.Read(c.b)
			if got := readLike(r, zero); !same(got, zero) || r.End() != c.want {
				t.Errorf("%v is read as %T %#v, error %d, want %d", c.b, zero, got, r.End(), c.want)
			}
		}
		if c.want == api.ErrForm { // as the second of twelve elements
			r := wire.Read(slices.Concat([]byte{12, 1}, c.b, make([]byte, 12)))
			if got := r.Ints(); len(got) != 0 || r.End() != api.ErrForm {
				t.Errorf("a list with %v is read as %v, error %d, want ErrForm", c.b, got, r.End())
			}
		}
	}
}

func TestLongestVarints(t *testing.T) { // P2.3, P2.4
	for _, c := range []struct {
		first, last byte
		want        uint64
	}{
		{128, 1, 1 << 63},
		{129, 1, 1<<63 + 1},
		{255, 1, 1<<63 + 127},
	} {
		b := slices.Concat([]byte{c.first}, bytes.Repeat([]byte{128}, 8), []byte{c.last, 1})
		r := wire.Read(b)
		if got := r.Uint(); got != c.want || !r.Bool() || r.End() != api.OK {
			t.Errorf("%v is read as %d, error %d, want %d", b, got, r.End(), c.want)
		}
	}
	r := wire.Read(append(bytes.Repeat([]byte{255}, 9), 1))
	if got := r.Int(); got != math.MinInt || r.End() != api.OK {
		t.Errorf("the longest varint is read as %d, error %d", got, r.End())
	}
}

func TestTruthValues(t *testing.T) { // P2.4
	for n := range 256 {
		want := api.OK
		if n > 1 {
			want = api.ErrForm
		}
		r := wire.Read([]byte{byte(n)})
		if got := r.Bool(); got != (n == 1) || r.End() != want {
			t.Errorf("Bool reads %v from %d, error %d, want %d", got, n, r.End(), want)
		}
	}
	r := wire.Read([]byte{1, 0, 1})
	if !r.Bool() || r.Bool() || !r.Bool() || r.End() != api.OK {
		t.Errorf("three truth values are read with the error %d", r.End())
	}
}

func TestLengthsAndBytesThatAreLeft(t *testing.T) { // P2.5
	for _, left := range []int{0, 1, 5, 127, 128, 300} {
		for _, length := range []uint64{0, 1, uint64(left), uint64(left) + 1, 1 << 31, 1 << 32, 1<<32 + 1, 1 << 62, math.MaxInt64, 1 << 63, 1<<63 + 1, math.MaxUint64 - 1, math.MaxUint64} {
			b := append(encoded(length), make([]byte, left)...)
			n, want := 0, api.ErrMore
			if length <= uint64(left) {
				n, want = int(length), api.OK
			}
			for _, v := range []any{strings.Repeat("\x00", n), make([]byte, n), make([]int, n)} {
				r := wire.Read(b)
				if got := readLike(r, v); !same(got, v) || !endsWith(r, want, left-n) {
					t.Errorf("the length %d before %d bytes: %T %#v, error %d, want %d", length, left, v, got, r.End(), want)
				}
			}
		}
	}
}

func TestListsOfMalformedNumbers(t *testing.T) { // P2.5
	for _, c := range []struct {
		b    []byte
		want api.Errno
	}{
		{[]byte{1, 128}, api.ErrMore},
		{[]byte{2, 2, 128}, api.ErrMore},
		{[]byte{2, 128, 1}, api.ErrMore},    // the second one is missing
		{[]byte{3, 2, 128, 1}, api.ErrMore}, // the third one
		{[]byte{3, 2, 2}, api.ErrMore},      // the length is too great already
		{[]byte{3, 128, 0}, api.ErrMore},    // and is examined before the numbers
		{[]byte{2, 128, 0}, api.ErrForm},    // it is not here
		{[]byte{3, 2, 2, 129, 0}, api.ErrForm},
		{[]byte{3, 129, 0, 128}, api.ErrForm}, // the first error
		{[]byte{128, 0}, api.ErrForm},
		{[]byte{128}, api.ErrMore},
		{nil, api.ErrMore},
	} {
		r := wire.Read(c.b)
		if got := r.Ints(); len(got) != 0 || r.End() != c.want {
			t.Errorf("%v is read as %v, error %d, want %d", c.b, got, r.End(), c.want)
		}
	}
}

// TestAllShortInputs compares the reader with the text of the chapter, for each two values read from each few bytes.
func TestAllShortInputs(t *testing.T) { // P2.2 to P2.5, P2.7
	forEachInput(5, func(b []byte) {
		for _, one := range zeros() {
			for _, two := range zeros() {
				r := wire.Read(b)
				model := reading{left: b}
				var w wire.Writer
				for _, zero := range []any{one, two} {
					got, want := readLike(r, zero), model.value(zero)
					if !same(got, want) {
						t.Fatalf("%v, read as %T and %T: %#v, want %#v", b, one, two, got, want)
					}
					write(&w, got)
				}
				if got := r.End(); got != model.end() {
					t.Fatalf("%v, read as %T and %T: error %d, want %d", b, one, two, got, model.end())
				}
				if r.End() == api.OK && !bytes.Equal(w.Done(), b) {
					t.Fatalf("%v is read as %T and %T, and written as %v", b, one, two, w.Done())
				}
			}
		}
	})
}

func TestRoundTrip(t *testing.T) { // P2.6, P2.7
	source := rand.New(rand.NewPCG(2, 6))
	for range 2000 {
		values := someValues(source)
		b := encodedAll(values)
		r := wire.Read(b)
		for _, v := range values {
			if got := readLike(r, v); !same(got, v) {
				t.Fatalf("%#v: read %T %#v, want %#v", values, v, got, v)
			}
		}
		if e := r.End(); e != api.OK {
			t.Fatalf("%#v: error %d at the end", values, e)
		}
	}
}

func TestOneEncoding(t *testing.T) { // P2.7
	source := rand.New(rand.NewPCG(2, 7))
	read := 0
	for range 20000 {
		values := someValues(source)
		b := encodedAll(values)
		for range source.IntN(3) {
			b = changed(source, b)
		}
		if again, e := rewritten(b, values); e == api.OK {
			read++
			if !bytes.Equal(again, b) {
				t.Fatalf("%v is read without an error, and written as %v", b, again)
			}
		}
	}
	if read < 5000 {
		t.Errorf("only %d inputs were read", read)
	}
}

func TestPrefixesAreIncomplete(t *testing.T) { // P2.8
	source := rand.New(rand.NewPCG(2, 8))
	for _, v := range samples() {
		checkPrefixes(t, []any{v})
	}
	for range 500 {
		checkPrefixes(t, someValues(source))
	}
}

func TestExamples(t *testing.T) {
	for _, c := range []struct {
		v    any
		want []byte
	}{
		{uint64(300), []byte{172, 2}},
		{-1, []byte{1}},
		{"ab", []byte{2, 97, 98}},
	} {
		if got := encoded(c.v); !bytes.Equal(got, c.want) {
			t.Errorf("%v is encoded as %v, want %v", c.v, got, c.want)
		}
	}
	r := wire.Read([]byte{128, 0})
	if n := r.Int(); n != 0 || r.End() != api.ErrForm {
		t.Errorf("128, 0 is read as %d, error %d", n, r.End())
	}
}

func FuzzAllArguments(f *testing.F) { // P1, P2.2 to P2.5, P2.7
	f.Add([]byte(nil), []byte(nil))
	f.Add([]byte{0, 1, 2, 3, 4, 5}, []byte{172, 2, 1, 1, 2, 97, 98, 1, 7, 2, 1, 2})
	f.Add([]byte{5}, []byte{255, 255, 255, 255, 255, 255, 255, 255, 255, 1})
	f.Fuzz(func(t *testing.T, kinds, b []byte) {
		r := wire.Read(b)
		model := reading{left: b}
		var w wire.Writer
		for _, kind := range kinds {
			zero := zeros()[int(kind)%len(zeros())]
			got, want := readLike(r, zero), model.value(zero)
			if !same(got, want) {
				t.Fatalf("read %T %#v, want %#v", zero, got, want)
			}
			write(&w, got)
		}
		if r.End() != model.end() {
			t.Errorf("error %d at the end, want %d", r.End(), model.end())
		}
		if r.End() == api.OK && !bytes.Equal(w.Done(), b) {
			t.Errorf("%v is written as %v", b, w.Done())
		}
	})
}

// reading reads values as the chapter says, without any regard to speed.
type reading struct {
	left []byte
	err  api.Errno
}

func (m *reading) end() api.Errno {
	if m.err == api.OK && len(m.left) > 0 {
		return api.ErrForm
	}
	return m.err
}

// value reads a value of the type of a zero value.
func (m *reading) value(zero any) any {
	if m.err != api.OK {
		return zero
	}
	var v any
	switch zero.(type) {
	case uint64:
		v = m.varint()
	case int:
		v = m.signed()
	case bool:
		v = m.truth()
	case string:
		v = string(m.bytes(m.varint()))
	case []byte:
		v = slices.Clone(m.bytes(m.varint()))
	case []int:
		v = m.list(m.varint())
	}
	if m.err != api.OK {
		return zero
	}
	return v
}

// varint tries all lengths: the shortest encoding of some number is what the bytes have to begin with.
func (m *reading) varint() uint64 {
	for n := 1; n <= len(m.left); n++ {
		if last := m.left[n-1]; n > 1 && last == 0 || n == 10 && last > 1 {
			m.err = api.ErrForm
			return 0
		}
		if v, size := binary.Uvarint(m.left[:n]); size == n {
			m.left = m.left[n:]
			return v
		}
	}
	m.err = api.ErrMore
	return 0
}

func (m *reading) signed() int {
	n := m.varint()
	if n%2 == 1 {
		return -int(n/2) - 1
	}
	return int(n / 2)
}

func (m *reading) truth() bool {
	switch {
	case len(m.left) == 0:
		m.err = api.ErrMore
		return false
	case m.left[0] > 1:
		m.err = api.ErrForm
		return false
	}
	one := m.left[0] == 1
	m.left = m.left[1:]
	return one
}

func (m *reading) bytes(n uint64) []byte {
	if m.err == api.OK && n > uint64(len(m.left)) {
		m.err = api.ErrMore
	}
	if m.err != api.OK {
		return nil
	}
	b := m.left[:n]
	m.left = m.left[n:]
	return b
}

func (m *reading) list(n uint64) []int {
	if m.err == api.OK && n > uint64(len(m.left)) {
		m.err = api.ErrMore
	}
	var l []int
	for ; n > 0 && m.err == api.OK; n-- {
		l = append(l, m.signed())
	}
	return l
}

// write appends a value by the method for its type.
func write(w *wire.Writer, v any) {
	switch v := v.(type) {
	case int:
		w.Int(v)
	case uint64:
		w.Uint(v)
	case bool:
		w.Bool(v)
	case string:
		w.Text(v)
	case []byte:
		w.Raw(v)
	case []int:
		w.Ints(v)
	}
}

// readLike reads a value of the type of v.
func readLike(r *wire.Reader, v any) any {
	switch v.(type) {
	case int:
		return r.Int()
	case uint64:
		return r.Uint()
	case bool:
		return r.Bool()
	case string:
		return r.Text()
	case []byte:
		return r.Raw()
	default:
		return r.Ints()
	}
}

// same compares two values; nil and empty slices are equal.
func same(a, b any) bool {
	switch a := a.(type) {
	case []byte:
		b, ok := b.([]byte)
		return ok && bytes.Equal(a, b)
	case []int:
		b, ok := b.([]int)
		return ok && slices.Equal(a, b)
	default:
		return a == b
	}
}

func encoded(v any) []byte {
	return encodedAll([]any{v})
}

func encodedAll(values []any) []byte {
	var w wire.Writer
	for _, v := range values {
		write(&w, v)
	}
	return w.Done()
}

// rewritten reads values of the types of the given ones, and returns what they are written as, and the error at the end.
func rewritten(b []byte, values []any) ([]byte, api.Errno) {
	r := wire.Read(b)
	var w wire.Writer
	for _, v := range values {
		write(&w, readLike(r, v))
	}
	return w.Done(), r.End()
}

// endsWith reports whether a reader has recorded the error, or, for OK, has so many bytes of 0 left.
func endsWith(r *wire.Reader, want api.Errno, left int) bool {
	if want == api.OK {
		for range left {
			if r.End() != api.ErrForm || r.Bool() {
				return false
			}
		}
	}
	return r.End() == want
}

func checkPrefixes(t *testing.T, values []any) {
	t.Helper()
	b := encodedAll(values)
	for n := range b {
		if _, e := rewritten(b[:n], values); e != api.ErrMore {
			t.Fatalf("%d bytes of the encoding of %#v: error %d, want ErrMore", n, values, e)
		}
	}
}

// zeros returns the zero value of each type that is encoded.
func zeros() []any {
	return []any{0, uint64(0), false, "", []byte{}, []int{}}
}

// samples returns values of all types.
func samples() []any {
	values := append(zeros(), true, "ab", "\x80\xff\x00", strings.Repeat("long ", 50), []byte{0}, []byte{255, 128, 0, 1}, make([]byte, 200))
	values = append(values, []int{0}, []int{-1, 1}, []int{math.MinInt, math.MaxInt, 63, 64, -64, -65}, make([]int, 130))
	for _, n := range numbers() {
		values = append(values, n, int(n))
	}
	return values
}

// numbers returns those around each power of 2, and their complements.
func numbers() []uint64 {
	var l []uint64
	for bit := range 64 {
		n := uint64(1) << bit
		l = append(l, n-1, n, n+1, ^n, -n)
	}
	return append(l, 300, math.MaxUint64)
}

// malformedVarints returns bytes that begin with no varint.
func malformedVarints() []malformed {
	l := []malformed{{nil, api.ErrMore}}
	for n := 1; n < 10; n++ {
		for _, fill := range []byte{128, 129, 255} {
			filled := bytes.Repeat([]byte{fill}, n)
			l = append(l, malformed{filled, api.ErrMore}, malformed{append(slices.Clone(filled), 0), api.ErrForm}, malformed{append(slices.Clone(filled), 0, 1), api.ErrForm})
		}
	}
	for _, fill := range []byte{128, 255} {
		for tenth := 2; tenth < 256; tenth++ {
			long := append(bytes.Repeat([]byte{fill}, 9), byte(tenth))
			l = append(l, malformed{long, api.ErrForm}, malformed{append(slices.Clone(long), 1), api.ErrForm})
		}
	}
	return l
}

type malformed struct {
	b    []byte
	want api.Errno
}

// forEachInput goes through all sequences of up to n bytes of those that the chapter tells apart.
func forEachInput(n int, use func([]byte)) {
	var extend func(b []byte)
	extend = func(b []byte) {
		use(b)
		if len(b) == n {
			return
		}
		for _, next := range []byte{0, 1, 2, 3, 127, 128, 129, 255} {
			extend(append(slices.Clone(b), next))
		}
	}
	extend(nil)
}

// someValues returns one to six values.
func someValues(source *rand.Rand) []any {
	all := samples()
	values := make([]any, source.IntN(6)+1)
	for i := range values {
		switch source.IntN(4) {
		case 0:
			values[i] = int(source.Uint64() >> source.IntN(64))
		case 1:
			list := make([]int, source.IntN(5))
			for j := range list {
				list[j] = int(source.Uint64()>>source.IntN(64)) - 1<<20
			}
			values[i] = list
		default:
			values[i] = all[source.IntN(len(all))]
		}
	}
	return values
}

// changed returns b with one byte replaced, inserted or removed.
func changed(source *rand.Rand, b []byte) []byte {
	at := source.IntN(len(b))
	other := []byte{0, 1, 2, 127, 128, 129, 255, byte(source.IntN(256))}[source.IntN(8)]
	switch source.IntN(3) {
	case 0:
		return slices.Insert(slices.Clone(b), at, other)
	case 1:
		if len(b) > 1 {
			return slices.Delete(slices.Clone(b), at, at+1)
		}
	}
	b = slices.Clone(b)
	b[at] = other
	return b
}
