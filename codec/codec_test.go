package codec_test

import (
	"bytes"
	"hash/crc32"
	"math"
	"math/big"
	"math/rand/v2"
	"slices"
	"strings"
	"testing"

	"simulator/api"
	"simulator/codec"
)

// numberOf is the definition of the number of an integer.
func numberOf(n int) *big.Int {
	double := new(big.Int).Mul(big.NewInt(2), big.NewInt(int64(n)))
	if n >= 0 {
		return double
	}
	return double.Sub(double.Neg(double), big.NewInt(1))
}

// integerOf is the integer with a number from 0 to 2^64 - 1.
func integerOf(number *big.Int) int {
	half, odd := new(big.Int).DivMod(number, big.NewInt(2), new(big.Int))
	if odd.Sign() > 0 {
		half.Sub(half.Neg(half), big.NewInt(1))
	}
	return int(half.Int64())
}

// encodingOf is the definition of the encoding of an integer.
func encodingOf(n int) []byte {
	var groups []byte
	rest := numberOf(n)
	for len(groups) == 0 || rest.Sign() > 0 {
		group := new(big.Int)
		rest.DivMod(rest, big.NewInt(128), group)
		groups = append(groups, byte(group.Int64()))
	}
	for i := range len(groups) - 1 {
		groups[i] += 128
	}
	return groups
}

// textEncodingOf is the definition of the encoding of a text.
func textEncodingOf(s string) []byte {
	return slices.Concat(encodingOf(len(s)), []byte(s))
}

// listEncodingOf is the definition of the encoding of a list.
func listEncodingOf(l []int) []byte {
	all := encodingOf(len(l))
	for _, n := range l {
		all = slices.Concat(all, encodingOf(n))
	}
	return all
}

// intOf is the definition of Int, rule by rule.
func intOf(b []byte) (int, int, api.Errno) {
	last := slices.IndexFunc(b, func(c byte) bool { return c < 128 })
	switch {
	case len(b) < 10 && last < 0:
		return 0, 0, api.ErrShort
	case len(b) >= 10 && (last < 0 || last > 9 || last == 9 && b[9] > 1):
		return 0, 0, api.ErrForm
	case last > 0 && b[last] == 0:
		return 0, 0, api.ErrForm
	}
	number := new(big.Int)
	for i := last; i >= 0; i-- {
		number.Add(number.Mul(number, big.NewInt(128)), big.NewInt(int64(b[i]%128)))
	}
	return integerOf(number), last + 1, api.OK
}

// lengthOf is what Text and Ints do first.
func lengthOf(b []byte, most int) (int, int, api.Errno) {
	n, size, errno := intOf(b)
	if errno == api.OK && n < 0 {
		errno = api.ErrForm
	}
	if errno == api.OK && n > most {
		errno = api.ErrLong
	}
	return n, size, errno
}

// textOf is the definition of Text.
func textOf(b []byte, most int) (string, int, api.Errno) {
	n, size, errno := lengthOf(b, most)
	if errno != api.OK {
		return "", 0, errno
	}
	var text []byte
	for _, c := range b[size:] {
		if len(text) < n {
			text = append(text, c)
		}
	}
	if len(text) < n {
		return "", 0, api.ErrShort
	}
	return string(text), size + n, api.OK
}

// intsOf is the definition of Ints.
func intsOf(b []byte, most int) ([]int, int, api.Errno) {
	n, end, errno := lengthOf(b, most)
	if errno != api.OK {
		return nil, 0, errno
	}
	var list []int
	for len(list) < n {
		element, size, errno := intOf(b[end:])
		if errno != api.OK {
			return nil, 0, errno
		}
		list, end = append(list, element), end+size
	}
	return list, end, api.OK
}

// sumOf is the definition of Sum, with a register of 32 single bits, the lowest first.
func sumOf(b []byte) int {
	var register, polynomial [32]bool
	for i := range register {
		register[i], polynomial[i] = true, 0x82f63b78>>i&1 == 1
	}
	for _, c := range b {
		for i := range 8 {
			register[i] = register[i] != (c>>i&1 == 1)
		}
		for range 8 {
			out := register[0]
			copy(register[:], register[1:])
			register[31] = false
			for i := range register {
				register[i] = register[i] != (out && polynomial[i])
			}
		}
	}
	sum := 0
	for i, bit := range register {
		if !bit {
			sum += 1 << i
		}
	}
	return sum
}

// ints has small ints, the neighbours of all powers of 2 (at which encodings get a byte more), the ends of int, and random ints of all sizes.
func ints() []int {
	all := []int{300, -300, api.MaxInt, -api.MaxInt, api.MaxTime, math.MinInt, math.MinInt + 1, math.MaxInt, math.MaxInt - 1}
	for n := -260; n <= 260; n++ {
		all = append(all, n)
	}
	for i := range 63 {
		for d := -2; d <= 2; d++ {
			all = append(all, 1<<i+d, -(1<<i)+d)
		}
	}
	source := rand.New(rand.NewPCG(6, 1))
	for i := range 1000 {
		all = append(all, int(source.Uint64())>>(i%64))
	}
	return all
}

// texts has texts of any bytes, also of the lengths at which the encoding of the length gets a byte more.
func texts() []string {
	every := make([]byte, 256)
	for i := range every {
		every[i] = byte(i)
	}
	all := []string{
		"", "a", "ab", "\x00", "\x80", "\xff", "\x00\x00\x00", "\xff\xfe\xfd", "\x04ab", "käse", "世界", "a\nb\r\x00c", string(every), "\xed\xa0\x80", "\xf8\x88",
	}
	for _, n := range []int{3, 62, 63, 64, 65, 127, 128, 129, 8190, 8191, 8192, 8193, 20000, 70000} {
		all = append(all, strings.Repeat("x", n), strings.Repeat("\x80", n))
	}
	return all
}

// lists has lists of integers, also of the lengths at which the encoding of the length gets a byte more.
func lists() [][]int {
	all := [][]int{nil, {}, {0}, {-1}, {1}, {300, -1}, {300, -1, 0}, {0, 0, 0}, {math.MinInt}, {math.MaxInt}, {math.MinInt, 0, math.MaxInt}, ints()}
	for _, n := range []int{62, 63, 64, 65, 8191, 8192} {
		list := make([]int, n)
		for i := range list {
			list[i] = (i - n/2) * i * i * i
		}
		all = append(all, make([]int, n), list)
	}
	return all
}

// beginnings has slices to which encodings are appended: nil, empty ones, and ones with bytes, each with and without spare capacity.
func beginnings() [][]byte {
	memory := bytes.Repeat([]byte{77}, 64)
	return [][]byte{
		nil, {}, make([]byte, 0, 1), make([]byte, 0, 64), {0}, {128}, {255, 128, 0}, []byte("ab"),
		append(make([]byte, 0, 100), 9, 8, 7), memory[10:20], memory[:1], memory[:0], memory[63:], memory[5:9:9], memory[5:9:10], bytes.Repeat([]byte{200}, 5000),
	}
}

// endings has bytes that follow an encoding.
func endings() []string {
	return []string{"", "\x00", "\x01", "\x7f", "\x80", "\xff", "\x80\x00", "zz", strings.Repeat("\xff", 20), strings.Repeat("\x00", 20)}
}

// inputs has strings of bytes that are encodings, almost ones, or none: all of up to two bytes; all of up to four of some bytes; and long beginnings with all ends of up to three of some bytes.
func inputs() [][]byte {
	all := [][]byte{nil, {}}
	for c := range 256 {
		all = append(all, []byte{byte(c)})
		for d := range 256 {
			all = append(all, []byte{byte(c), byte(d)})
		}
	}
	ends := [][]byte{nil}
	for last := ends; len(last[0]) < 4; {
		var next [][]byte
		for _, b := range last {
			for _, c := range []byte{0, 1, 2, 3, 127, 128, 129, 255} {
				next = append(next, append(b[:len(b):len(b)], c))
			}
		}
		last, ends = next, append(ends, next...)
	}
	for _, n := range []int{0, 3, 6, 7, 8, 9, 10, 11} {
		for _, c := range []byte{128, 129, 170, 255} {
			for _, end := range ends {
				if n == 0 || len(end) < 4 {
					all = append(all, append(bytes.Repeat([]byte{c}, n), end...))
				}
			}
		}
	}
	return all
}

// mosts has the greatest lengths that are tried for an encoding of the length n.
func mosts(n int) []int {
	return []int{n, n + 1, n - 1, 0, -1, 1, 2, math.MinInt, math.MaxInt, api.MaxText, -n}
}

// P6.1

func TestPutIntIsItsDefinition(t *testing.T) {
	for _, n := range ints() {
		for _, b := range beginnings() {
			want := slices.Concat(b, encodingOf(n))
			if got := codec.PutInt(b, n); !bytes.Equal(got, want) {
				t.Fatalf("PutInt(%v, %d) = %v", b, n, got)
			}
		}
	}
}

func TestExamplesOfPutInt(t *testing.T) {
	for _, c := range []struct {
		n    int
		want []byte
	}{
		{0, []byte{0}}, {-1, []byte{1}}, {1, []byte{2}}, {-2, []byte{3}}, {2, []byte{4}},
		{63, []byte{126}}, {-64, []byte{127}}, {64, []byte{128, 1}}, {-65, []byte{129, 1}},
		{300, []byte{216, 4}}, {8191, []byte{254, 127}}, {-8192, []byte{255, 127}}, {8192, []byte{128, 128, 1}},
		{math.MaxInt, []byte{254, 255, 255, 255, 255, 255, 255, 255, 255, 1}},
		{math.MinInt, []byte{255, 255, 255, 255, 255, 255, 255, 255, 255, 1}},
		{1 << 62, []byte{128, 128, 128, 128, 128, 128, 128, 128, 128, 1}},
		{1<<62 - 1, []byte{254, 255, 255, 255, 255, 255, 255, 255, 127}},
		{-(1 << 62), []byte{255, 255, 255, 255, 255, 255, 255, 255, 127}},
	} {
		if got := codec.PutInt(nil, c.n); !bytes.Equal(got, c.want) {
			t.Errorf("PutInt(nil, %d) = %v", c.n, got)
		}
	}
}

func TestEncodingsGetLonger(t *testing.T) {
	for size := 1; size <= 9; size++ {
		// The numbers of n and -n - 1 are the greatest ones of size groups.
		n := 1<<(7*size-1) - 1
		for _, c := range []struct{ n, want int }{{n, size}, {-n - 1, size}, {n + 1, size + 1}, {-n - 2, size + 1}} {
			if got := len(codec.PutInt(nil, c.n)); got != c.want {
				t.Errorf("%d has %d bytes, not %d", c.n, got, c.want)
			}
		}
	}
}

func TestPutTextIsItsDefinition(t *testing.T) {
	for _, s := range texts() {
		for _, b := range beginnings() {
			want := slices.Concat(b, textEncodingOf(s))
			if got := codec.PutText(b, s); !bytes.Equal(got, want) {
				t.Fatalf("PutText(%v, %q) = %v", b, s, got)
			}
		}
	}
}

func TestPutIntsIsItsDefinition(t *testing.T) {
	for _, l := range lists() {
		encoding := listEncodingOf(l)
		for _, b := range beginnings() {
			if got := codec.PutInts(b, l); !bytes.Equal(got, slices.Concat(b, encoding)) {
				t.Fatalf("PutInts(%v, %v) = %v", b, l, got)
			}
		}
	}
}

func TestExamplesOfPutTextAndPutInts(t *testing.T) {
	for _, c := range []struct {
		name      string
		got, want []byte
	}{
		{"ab", codec.PutText(nil, "ab"), []byte{4, 97, 98}},
		{"no text", codec.PutText(nil, ""), []byte{0}},
		{"no text after a byte", codec.PutText([]byte{5}, ""), []byte{5, 0}},
		{"a text of two bytes that are one rune", codec.PutText([]byte{5, 6}, "ä"), []byte{5, 6, 4, 0xc3, 0xa4}},
		{"a text that is no UTF-8", codec.PutText(nil, "\xff\x00\x80"), []byte{6, 255, 0, 128}},
		{"300, -1", codec.PutInts(nil, []int{300, -1}), []byte{4, 216, 4, 1}},
		{"no list", codec.PutInts(nil, nil), []byte{0}},
		{"an empty list", codec.PutInts([]byte{5}, []int{}), []byte{5, 0}},
		{"0", codec.PutInts([]byte{5, 6}, []int{0}), []byte{5, 6, 2, 0}},
	} {
		if !bytes.Equal(c.got, c.want) {
			t.Errorf("%s: %v, not %v", c.name, c.got, c.want)
		}
	}
}

// puts has the functions that append, each with an argument.
func puts() map[string]func(b []byte) []byte {
	return map[string]func(b []byte) []byte{
		"PutInt of 0":         func(b []byte) []byte { return codec.PutInt(b, 0) },
		"PutInt of -300":      func(b []byte) []byte { return codec.PutInt(b, -300) },
		"PutInt of the least": func(b []byte) []byte { return codec.PutInt(b, math.MinInt) },
		"PutText of nothing":  func(b []byte) []byte { return codec.PutText(b, "") },
		"PutText of abc":      func(b []byte) []byte { return codec.PutText(b, "abc") },
		"PutText of 64 bytes": func(b []byte) []byte { return codec.PutText(b, strings.Repeat("y", 64)) },
		"PutInts of nothing":  func(b []byte) []byte { return codec.PutInts(b, nil) },
		"PutInts of 1, 300":   func(b []byte) []byte { return codec.PutInts(b, []int{1, 300}) },
		"PutInts of 64 zeros": func(b []byte) []byte { return codec.PutInts(b, make([]int, 64)) },
	}
}

func TestPutLeavesTheMemoryOfTheCaller(t *testing.T) {
	for name, put := range puts() {
		for _, from := range []int{0, 3} {
			for _, to := range []int{from, 4, 10, 100} {
				memory := bytes.Repeat([]byte{77}, 100)
				result := put(memory[from:to])
				if !bytes.Equal(memory, bytes.Repeat([]byte{77}, 100)) {
					t.Errorf("%s after bytes %d to %d: memory was changed", name, from, to)
				}
				for i := range result {
					result[i] = 99
				}
				if !bytes.Equal(memory, bytes.Repeat([]byte{77}, 100)) {
					t.Errorf("%s after bytes %d to %d: the result shares memory", name, from, to)
				}
			}
		}
	}
}

func TestTwoResultsOfPut(t *testing.T) {
	for name, put := range puts() {
		for _, b := range beginnings() {
			first := put(b)
			kept := slices.Clone(first)
			for _, other := range puts() {
				other(b)
				other(first)
			}
			if !bytes.Equal(first, kept) {
				t.Errorf("%s: another call changed the result", name)
			}
		}
	}
}

func TestPutIntsLeavesTheList(t *testing.T) {
	for _, l := range lists() {
		kept := slices.Clone(l)
		codec.PutInts(nil, l)
		if !slices.Equal(l, kept) {
			t.Error("the list was changed")
		}
	}
}

// P6.2

func TestIntIsItsDefinition(t *testing.T) {
	for _, b := range inputs() {
		n, size, errno := codec.Int(b)
		wantN, wantSize, want := intOf(b)
		if n != wantN || size != wantSize || errno != want {
			t.Fatalf("Int(%v) = %d, %d, %v, not %d, %d, %v", b, n, size, errno, wantN, wantSize, want)
		}
	}
}

func TestExamplesOfInt(t *testing.T) {
	nine := func(c byte, after ...byte) []byte { return append(bytes.Repeat([]byte{c}, 9), after...) }
	for _, c := range []struct {
		name    string
		b       []byte
		n, size int
		want    api.Errno
	}{
		{"300 and a byte", []byte{216, 4, 9}, 300, 2, api.OK},
		{"0", []byte{0}, 0, 1, api.OK},
		{"0 and a byte", []byte{0, 5}, 0, 1, api.OK},
		{"0 and a zero", []byte{0, 0}, 0, 1, api.OK},
		{"-1", []byte{1}, -1, 1, api.OK},
		{"a shorter one would do", []byte{128, 0}, 0, 0, api.ErrForm},
		{"a shorter one would do, after bits", []byte{255, 0}, 0, 0, api.ErrForm},
		{"a shorter one of two bytes would do", []byte{216, 132, 0}, 0, 0, api.ErrForm},
		{"a shorter one would do, bytes after it", []byte{128, 0, 1}, 0, 0, api.ErrForm},
		{"128, 128, 1", []byte{128, 128, 1}, 8192, 3, api.OK},
		{"nothing", nil, 0, 0, api.ErrShort},
		{"128", []byte{128}, 0, 0, api.ErrShort},
		{"nine bytes without an end", nine(255), 0, 0, api.ErrShort},
		{"nine times 128", nine(128), 0, 0, api.ErrShort},
		{"ten bytes without an end", nine(255, 255), 0, 0, api.ErrForm},
		{"ten times 128", nine(128, 128), 0, 0, api.ErrForm},
		{"ten times 128, and an end", nine(128, 128, 1), 0, 0, api.ErrForm},
		{"a tenth byte 2", nine(255, 2), 0, 0, api.ErrForm},
		{"a tenth byte 127", nine(255, 127), 0, 0, api.ErrForm},
		{"a tenth byte 129", nine(255, 129), 0, 0, api.ErrForm},
		{"a tenth byte 0", nine(255, 0), 0, 0, api.ErrForm},
		{"a tenth byte 1", nine(128, 1), 1 << 62, 10, api.OK},
		{"the least", nine(255, 1), math.MinInt, 10, api.OK},
		{"the least and a byte", nine(255, 1, 7), math.MinInt, 10, api.OK},
		{"the greatest", append([]byte{254}, nine(255, 1)[1:]...), math.MaxInt, 10, api.OK},
		{"nine bytes", append(bytes.Repeat([]byte{255}, 8), 127), -(1 << 62), 9, api.OK},
		{"nine bytes, the last one 0", append(bytes.Repeat([]byte{255}, 8), 0), 0, 0, api.ErrForm},
		{"nine bytes, the last one 2", append(bytes.Repeat([]byte{128}, 8), 2), 1 << 56, 9, api.OK},
	} {
		if n, size, errno := codec.Int(c.b); n != c.n || size != c.size || errno != c.want {
			t.Errorf("%s: %d, %d, %v", c.name, n, size, errno)
		}
	}
}

func TestTextIsItsDefinition(t *testing.T) {
	var all [][]byte
	for _, s := range texts() {
		encoding := textEncodingOf(s)
		all = append(all, encoding, encoding[:len(encoding)-1], append(encoding, 255, 128))
	}
	for _, b := range append(all, inputs()...) {
		n, _, _ := intOf(b)
		for _, most := range mosts(n) {
			s, size, errno := codec.Text(b, most)
			wantS, wantSize, want := textOf(b, most)
			if s != wantS || size != wantSize || errno != want {
				t.Fatalf("Text(%v, %d) = %q, %d, %v, not %q, %d, %v", b, most, s, size, errno, wantS, wantSize, want)
			}
		}
	}
}

// lengthCase has bytes that begin with a length that is not valid, and its error.
type lengthCase struct {
	name string
	b    []byte
	most int
	want api.Errno
}

// lengthCases has errors of the length that Text and Ints share, also several ones at once.
func lengthCases() []lengthCase {
	greatest := []byte{254, 255, 255, 255, 255, 255, 255, 255, 255, 1}
	least := []byte{255, 255, 255, 255, 255, 255, 255, 255, 255, 1}
	return []lengthCase{
		{"no length", nil, 9, api.ErrShort},
		{"no length, though nothing is permitted", nil, -1, api.ErrShort},
		{"half a length", []byte{130}, 0, api.ErrShort},
		{"half a length, negative so far", []byte{129}, 0, api.ErrShort},
		{"a length too long by a byte", []byte{132, 0, 97, 98}, 9, api.ErrForm},
		{"a length too long by a byte, and above most", []byte{132, 0, 97, 98}, 1, api.ErrForm},
		{"a length without an end", bytes.Repeat([]byte{255}, 30), 9, api.ErrForm},
		{"-1", []byte{1, 0, 0}, 9, api.ErrForm},
		{"-1 with most -1", []byte{1, 0, 0}, -1, api.ErrForm},
		{"-1 with most -2", []byte{1, 0, 0}, -2, api.ErrForm},
		{"-1, and nothing after it", []byte{1}, math.MaxInt, api.ErrForm},
		{"the least length", least, math.MaxInt, api.ErrForm},
		{"the least length with the least most", least, math.MinInt, api.ErrForm},
		{"2 with most 1", []byte{4, 97, 98}, 1, api.ErrLong},
		{"2 with most 0", []byte{4, 97, 98}, 0, api.ErrLong},
		{"2 with most -2", []byte{4, 97, 98}, -2, api.ErrLong},
		{"2 with the least most", []byte{4, 97, 98}, math.MinInt, api.ErrLong},
		{"0 with most -1", []byte{0}, -1, api.ErrLong},
		{"0 with the least most", []byte{0, 97}, math.MinInt, api.ErrLong},
		{"2 with most 1, and too short", []byte{4, 97}, 1, api.ErrLong},
		{"2 with most 1, and nothing after it", []byte{4}, 1, api.ErrLong},
		{"2, and one byte", []byte{4, 97}, 2, api.ErrShort},
		{"2, and nothing", []byte{4}, 2, api.ErrShort},
		{"300, and two bytes", []byte{216, 4, 97, 98}, 300, api.ErrShort},
		{"the greatest length", greatest, math.MaxInt - 1, api.ErrLong},
		{"the greatest length, and nothing", greatest, math.MaxInt, api.ErrShort},
		{"the greatest length, and bytes", append(greatest[:10:10], 0, 2, 4), math.MaxInt, api.ErrShort},
	}
}

func TestLengthErrorsInTheirOrder(t *testing.T) {
	for _, c := range lengthCases() {
		if s, size, errno := codec.Text(c.b, c.most); s != "" || size != 0 || errno != c.want {
			t.Errorf("Text, %s: %q, %d, %v, not %v", c.name, s, size, errno, c.want)
		}
		if l, size, errno := codec.Ints(c.b, c.most); len(l) > 0 || size != 0 || errno != c.want {
			t.Errorf("Ints, %s: %v, %d, %v, not %v", c.name, l, size, errno, c.want)
		}
	}
}

func TestExamplesOfText(t *testing.T) {
	for _, c := range []struct {
		b    string
		most int
		s    string
		size int
		want api.Errno
	}{
		{"\x04ab\x07", 2, "ab", 3, api.OK},
		{"\x04ab\x07", 3, "ab", 3, api.OK},
		{"\x04ab\x07", math.MaxInt, "ab", 3, api.OK},
		{"\x04ab\x07", 1, "", 0, api.ErrLong},
		{"\x04ab", 2, "ab", 3, api.OK},
		{"\x04a", 2, "", 0, api.ErrShort},
		{"\x00", 0, "", 1, api.OK},
		{"\x00ab", 5, "", 1, api.OK},
		{"\x06\xff\x00\x80", 3, "\xff\x00\x80", 4, api.OK},
		{"\x80\x01" + strings.Repeat("x", 64) + "y", 64, strings.Repeat("x", 64), 66, api.OK},
		{"\x80\x01" + strings.Repeat("x", 63), 64, "", 0, api.ErrShort},
		{"\x80\x01" + strings.Repeat("x", 64), 63, "", 0, api.ErrLong},
	} {
		if s, size, errno := codec.Text([]byte(c.b), c.most); s != c.s || size != c.size || errno != c.want {
			t.Errorf("Text(%q, %d) = %q, %d, %v", c.b, c.most, s, size, errno)
		}
	}
}

func TestIntsIsItsDefinition(t *testing.T) {
	var all [][]byte
	for _, l := range lists() {
		encoding := listEncodingOf(l)
		all = append(all, encoding, encoding[:len(encoding)-1], append(encoding, 255, 128))
	}
	for _, b := range inputs() {
		all = append(all, b, append([]byte{2}, b...), append([]byte{4, 0}, b...), append([]byte{6}, b...))
	}
	for _, b := range all {
		n, _, _ := intOf(b)
		for _, most := range mosts(n) {
			l, size, errno := codec.Ints(b, most)
			wantL, wantSize, want := intsOf(b, most)
			if !slices.Equal(l, wantL) || size != wantSize || errno != want {
				t.Fatalf("Ints(%v, %d) = %v, %d, %v, not %v, %d, %v", b, most, l, size, errno, wantL, wantSize, want)
			}
		}
	}
}

func TestExamplesOfInts(t *testing.T) {
	for _, c := range []struct {
		name string
		b    []byte
		most int
		l    []int
		size int
		want api.Errno
	}{
		{"300, -1", []byte{4, 216, 4, 1}, 2, []int{300, -1}, 4, api.OK},
		{"300, -1 and a byte", []byte{4, 216, 4, 1, 128}, 3, []int{300, -1}, 4, api.OK},
		{"300, -1 with most 1", []byte{4, 216, 4, 1}, 1, nil, 0, api.ErrLong},
		{"300 and nothing", []byte{4, 216, 4}, 2, nil, 0, api.ErrShort},
		{"300 and half an integer", []byte{4, 216, 4, 128}, 2, nil, 0, api.ErrShort},
		{"half an integer", []byte{4, 216}, 2, nil, 0, api.ErrShort},
		{"none", []byte{0}, 0, nil, 1, api.OK},
		{"none and bytes", []byte{0, 128, 0}, 7, nil, 1, api.OK},
		{"the first one too long", []byte{4, 128, 0, 0}, 2, nil, 0, api.ErrForm},
		{"the first one too long, then too short", []byte{4, 128, 0}, 2, nil, 0, api.ErrForm},
		{"the last one too long", []byte{4, 0, 128, 0}, 2, nil, 0, api.ErrForm},
		{"the last one without an end", append([]byte{4, 0}, bytes.Repeat([]byte{255}, 10)...), 2, nil, 0, api.ErrForm},
		{"one after the last one too long", []byte{4, 0, 0, 128, 0}, 2, []int{0, 0}, 3, api.OK},
		{"a list too long before an element", []byte{6, 128, 0}, 2, nil, 0, api.ErrLong},
	} {
		if l, size, errno := codec.Ints(c.b, c.most); !slices.Equal(l, c.l) || size != c.size || errno != c.want {
			t.Errorf("%s: %v, %d, %v", c.name, l, size, errno)
		}
	}
}

func TestReadingLeavesTheMemoryOfTheCaller(t *testing.T) {
	b := []byte{4, 216, 4, 1, 7}
	kept := slices.Clone(b)
	codec.Int(b)
	s, _, _ := codec.Text(b, 9)
	l, _, _ := codec.Ints(b, 9)
	codec.Sum(b)
	if !bytes.Equal(b, kept) {
		t.Error("the bytes were changed")
	}
	clear(b)
	if s != "\xd8\x04" || !slices.Equal(l, []int{300, -1}) {
		t.Error("a result shares memory with the bytes", s, l)
	}
}

// P6.3

func TestIntReadsWhatPutIntWrites(t *testing.T) {
	for _, n := range ints() {
		encoding := codec.PutInt(nil, n)
		for _, end := range endings() {
			got, size, errno := codec.Int(append(encoding[:len(encoding):len(encoding)], end...))
			if got != n || size != len(encoding) || errno != api.OK {
				t.Fatalf("%d and %q are read as %d, %d, %v", n, end, got, size, errno)
			}
		}
		for i := range encoding {
			if got, size, errno := codec.Int(encoding[:i]); got != 0 || size != 0 || errno != api.ErrShort {
				t.Fatalf("%d bytes of %d are read as %d, %d, %v", i, n, got, size, errno)
			}
		}
	}
}

func TestTextReadsWhatPutTextWrites(t *testing.T) {
	for _, s := range texts() {
		encoding := codec.PutText(nil, s)
		for _, end := range endings() {
			for _, most := range []int{len(s), len(s) + 1, math.MaxInt} {
				got, size, errno := codec.Text(append(encoding[:len(encoding):len(encoding)], end...), most)
				if got != s || size != len(encoding) || errno != api.OK {
					t.Fatalf("%q and %q are read as %q, %d, %v", s, end, got, size, errno)
				}
			}
		}
		for i := range encoding {
			if got, size, errno := codec.Text(encoding[:i], len(s)); got != "" || size != 0 || errno != api.ErrShort {
				t.Fatalf("%d bytes of %q are read as %q, %d, %v", i, s, got, size, errno)
			}
		}
	}
}

func TestIntsReadsWhatPutIntsWrites(t *testing.T) {
	for _, l := range lists() {
		encoding := codec.PutInts(nil, l)
		for _, end := range endings() {
			for _, most := range []int{len(l), len(l) + 1, math.MaxInt} {
				got, size, errno := codec.Ints(append(encoding[:len(encoding):len(encoding)], end...), most)
				if !slices.Equal(got, l) || size != len(encoding) || errno != api.OK {
					t.Fatalf("%v and %q are read as %v, %d, %v", l, end, got, size, errno)
				}
			}
		}
		// Of long encodings, the beginnings are taken in steps: all of them would be read in quadratic time.
		for i := 0; i < len(encoding); i += 1 + len(encoding)/500 {
			if got, size, errno := codec.Ints(encoding[:i], len(l)); len(got) > 0 || size != 0 || errno != api.ErrShort {
				t.Fatalf("%d bytes of %v are read as %v, %d, %v", i, l, got, size, errno)
			}
		}
		last := encoding[:len(encoding)-1]
		if _, _, errno := codec.Ints(last, len(l)); errno != api.ErrShort {
			t.Fatalf("all bytes but one of %v are read with %v", l, errno)
		}
	}
}

func TestWhatIsAcceptedIsWhatIsWritten(t *testing.T) {
	for _, b := range inputs() {
		if n, size, errno := codec.Int(b); errno == api.OK && !bytes.Equal(codec.PutInt(nil, n), b[:size]) {
			t.Fatalf("%v is read as %d", b, n)
		}
		if s, size, errno := codec.Text(b, len(b)); errno == api.OK && !bytes.Equal(codec.PutText(nil, s), b[:size]) {
			t.Fatalf("%v is read as %q", b, s)
		}
		if l, size, errno := codec.Ints(b, len(b)); errno == api.OK && !bytes.Equal(codec.PutInts(nil, l), b[:size]) {
			t.Fatalf("%v is read as %v", b, l)
		}
	}
}

func TestReadingOneAfterTheOther(t *testing.T) {
	b := codec.PutInts(codec.PutInt(codec.PutText(codec.PutText(codec.PutInt(nil, -7), ""), "box"), 1000), []int{5, -5})
	n, at, errno := codec.Int(b)
	empty, size, errnoEmpty := codec.Text(b[at:], 3)
	at += size
	box, size, errnoBox := codec.Text(b[at:], 3)
	at += size
	m, size, errnoM := codec.Int(b[at:])
	at += size
	l, size, errnoL := codec.Ints(b[at:], 2)
	at += size
	if n != -7 || empty != "" || box != "box" || m != 1000 || !slices.Equal(l, []int{5, -5}) || at != len(b) {
		t.Error(n, empty, box, m, l, at)
	}
	if got := []api.Errno{errno, errnoEmpty, errnoBox, errnoM, errnoL}; !slices.Equal(got, make([]api.Errno, 5)) {
		t.Error(got)
	}
}

// P6.4

// randomBytes is a byte string of a length.
func randomBytes(source *rand.Rand, n int) []byte {
	b := make([]byte, n)
	for i := range b {
		b[i] = byte(source.Uint32())
	}
	return b
}

func TestExamplesOfSum(t *testing.T) {
	for _, c := range []struct {
		s    string
		want int
	}{
		{"", 0}, {"123456789", 3808858755}, {"123456789", 0xe3069283}, {"a", 0xc1d04330}, {"abc", 0x364b3fb7},
		{strings.Repeat("\x00", 32), 0x8a9136aa}, {strings.Repeat("\xff", 32), 0x62a8ab43},
	} {
		if got := codec.Sum([]byte(c.s)); got != c.want {
			t.Errorf("Sum(%q) = %d", c.s, got)
		}
	}
	if codec.Sum(nil) != 0 || codec.Sum([]byte{}) != 0 {
		t.Error("the sum of no bytes is not 0")
	}
}

func TestSumIsItsDefinition(t *testing.T) {
	source := rand.New(rand.NewPCG(6, 2))
	table := crc32.MakeTable(crc32.Castagnoli)
	for _, b := range inputs()[:5000] {
		if got := codec.Sum(b); got != int(crc32.Checksum(b, table)) {
			t.Fatalf("Sum(%v) = %d", b, got)
		}
	}
	for n := range 300 {
		b := randomBytes(source, n)
		if got, want := codec.Sum(b), sumOf(b); got != want || got != int(crc32.Checksum(b, table)) {
			t.Fatalf("Sum(%v) = %d, not %d", b, got, want)
		}
	}
}

func TestSumIsInItsRange(t *testing.T) {
	source := rand.New(rand.NewPCG(6, 3))
	high := false
	for range 1000 {
		got := codec.Sum(randomBytes(source, source.IntN(40)))
		high = high || got >= 1<<31
		if got < 0 || got > math.MaxUint32 {
			t.Fatal(got)
		}
	}
	if !high {
		t.Error("the highest bit is never set")
	}
}

func TestSumChangesWithFourConsecutiveBytes(t *testing.T) {
	source := rand.New(rand.NewPCG(6, 4))
	for range 20000 {
		b := randomBytes(source, 1+source.IntN(60))
		changed := slices.Clone(b)
		at := source.IntN(len(b))
		part := changed[at:min(at+1+source.IntN(4), len(b))]
		for bytes.Equal(b, changed) {
			copy(part, randomBytes(source, len(part)))
		}
		if codec.Sum(b) == codec.Sum(changed) {
			t.Fatalf("%v and %v have equal sums", b, changed)
		}
	}
}

func TestSumChangesWithEveryBit(t *testing.T) {
	b := []byte("\x00the half of the width\xff\x80 of the interval\x01\x00")
	sum := codec.Sum(b)
	for i := range 8 * len(b) {
		b[i/8] ^= 1 << (i % 8)
		if codec.Sum(b) == sum {
			t.Errorf("bit %d", i)
		}
		b[i/8] ^= 1 << (i % 8)
	}
	if codec.Sum(b) != sum || codec.Sum(append(b, 0)) == sum || codec.Sum(b[1:]) == sum {
		t.Error("equal bytes have different sums, or a zero byte does not count")
	}
}

func TestSumOfThreeCombinedStrings(t *testing.T) {
	source := rand.New(rand.NewPCG(6, 5))
	for n := range 200 {
		a, b, c := randomBytes(source, n), randomBytes(source, n), randomBytes(source, n)
		combined := make([]byte, n)
		for i := range combined {
			combined[i] = a[i] ^ b[i] ^ c[i]
		}
		if got, want := codec.Sum(combined), codec.Sum(a)^codec.Sum(b)^codec.Sum(c); got != want {
			t.Fatalf("%v, %v, %v: %d, not %d", a, b, c, got, want)
		}
	}
}
