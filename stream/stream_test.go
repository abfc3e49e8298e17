package stream_test

import (
	"math"
	"math/big"
	"math/rand/v2"
	"strings"
	"testing"

	"simulator/api"
	"simulator/stream"
)

const (
	maxInt        = api.MaxInt
	g      uint64 = 0x9e3779b97f4a7c15
)

// wrapped is the number from 0 to 2^64 - 1 that equals x modulo 2^64.
func wrapped(x *big.Int) *big.Int {
	return new(big.Int).Mod(x, new(big.Int).Lsh(big.NewInt(1), 64))
}

func big64(x uint64) *big.Int { return new(big.Int).SetUint64(x) }

// combined is one step of the definition of Mix without its product: x combined with x >> shift.
func combined(x *big.Int, shift uint) *big.Int {
	return new(big.Int).Xor(x, new(big.Int).Rsh(x, shift))
}

// mixed is the definition of Mix.
func mixed(x *big.Int) *big.Int {
	x = combined(wrapped(x), 30)
	x = wrapped(new(big.Int).Mul(x, big64(0xbf58476d1ce4e5b9)))
	x = combined(x, 27)
	x = wrapped(new(big.Int).Mul(x, big64(0x94d049bb133111eb)))
	return combined(x, 31)
}

// unshifted undoes that x was combined with x >> shift.
func unshifted(x uint64, shift int) uint64 {
	result := x
	for range 64 / shift {
		result = x ^ result>>shift
	}
	return result
}

// inverse is the number that is multiplied by an odd one to get 1; each round doubles the number of its right bits.
func inverse(odd uint64) uint64 {
	result := odd
	for range 6 {
		result *= 2 - odd*result
	}
	return result
}

// unmixed is the number that Mix makes x from.
func unmixed(x uint64) uint64 {
	x = unshifted(x, 31) * inverse(0x94d049bb133111eb)
	x = unshifted(x, 27) * inverse(0xbf58476d1ce4e5b9)
	return unshifted(x, 30)
}

// keyOf is the definition of the key of New.
func keyOf(seed int, name string) uint64 {
	key := mixed(new(big.Int).Add(big.NewInt(int64(seed)), big64(g)))
	for _, c := range []byte(name) {
		key = mixed(key.Add(key.Xor(key, big.NewInt(int64(c))), big64(g)))
	}
	return key.Uint64()
}

// nextOf is the definition of the next number of a stream that is valid and has one.
func nextOf(s api.Stream) uint64 {
	x := new(big.Int).Mul(big.NewInt(int64(s.Pos)+1), big64(g))
	u := mixed(x.Add(x, big64(s.Key))).Uint64()
	if s.Anti {
		return math.MaxUint64 - u
	}
	return u
}

// splitOf is the definition of the key of Split.
func splitOf(s api.Stream, i int) uint64 {
	inner := mixed(new(big.Int).Add(big.NewInt(int64(i)), big64(g)))
	return mixed(inner.Xor(inner, big64(s.Key))).Uint64()
}

// skipOf is the definition of the position of Skip of a stream that is valid.
func skipOf(s api.Stream, n int) int {
	sum := new(big.Int).Add(big.NewInt(int64(s.Pos)), big.NewInt(int64(n)))
	if sum.Cmp(big.NewInt(maxInt)) > 0 {
		return maxInt
	}
	return int(sum.Int64())
}

// belowOf is the definition of the number of Below for the next number u.
func belowOf(u uint64, n int) int {
	product := new(big.Int).Mul(big64(u), big.NewInt(int64(n)))
	return int(product.Rsh(product, 64).Int64())
}

// words has the ends of uint64, all powers of 2 and their neighbours, multiples of G, and random numbers.
func words() []uint64 {
	all := []uint64{0, g, g - 1, g + 1, ^g, 0x5555555555555555, 0xaaaaaaaaaaaaaaaa, math.MaxUint64}
	for i := range 64 {
		all = append(all, 1<<i, 1<<i-1, 1<<i+1, -(1 << i))
	}
	source := rand.New(rand.NewPCG(3, 1))
	multiple := uint64(0)
	for range 200 {
		multiple += g
		all = append(all, multiple, source.Uint64())
	}
	return all
}

// ints has small ints, both sides of each bound, the ends of int, and random ints.
func ints() []int {
	all := []int{0, math.MinInt, math.MinInt + 1, math.MaxInt, math.MaxInt - 1, math.MaxInt - maxInt, math.MaxInt - maxInt + 1}
	for _, n := range []int{
		1, 2, 3, 6, 10, 255, 256, 1000, 65536, 1 << 31, 1 << 32, maxInt / 2, maxInt - 2, maxInt - 1, maxInt, maxInt + 1, 2 * maxInt,
	} {
		all = append(all, n, -n)
	}
	source := rand.New(rand.NewPCG(3, 2))
	for range 20 {
		all = append(all, source.IntN(maxInt)+1, int(source.Uint64()))
	}
	return all
}

// keys has some keys of streams.
func keys() []uint64 {
	return []uint64{0, 1, 5, 1234567, g, ^g, 1 << 63, math.MaxUint64, 0xe220a8397b1dcdaf, 0x0123456789abcdef}
}

func streamsAt(positions []int) []api.Stream {
	var all []api.Stream
	for _, key := range keys() {
		for _, pos := range positions {
			all = append(all, api.Stream{Key: key, Pos: pos}, api.Stream{Key: key, Pos: pos, Anti: true})
		}
	}
	return all
}

// takable has valid streams that have a next number.
func takable() []api.Stream {
	return streamsAt([]int{0, 1, 2, 7, 1000, 1<<32 - 1, 1 << 32, maxInt / 2, maxInt - 2, maxInt - 1})
}

// ended has valid streams that have none.
func ended() []api.Stream { return streamsAt([]int{maxInt}) }

// invalid has streams that are not valid.
func invalid() []api.Stream {
	return streamsAt([]int{-1, -2, -maxInt, math.MinInt, math.MinInt + 1, maxInt + 1, maxInt + 2, 2 * maxInt, math.MaxInt - 1, math.MaxInt})
}

func valid() []api.Stream { return append(takable(), ended()...) }

func all() []api.Stream { return append(valid(), invalid()...) }

// names has texts of no byte and of any bytes, names and others, also such that are no UTF-8.
func names() []string {
	list := []string{
		"", "a", "b", "aa", "ab", "ba", "cell.arrivals", "a_0", "optimize", "\x00\x00", "a\x00", "\x00a", " ", "A", "\n",
		"\u00e9", "e\u0301", "日本", "\U0010ffff", "\ufffd", "\xc3", "\xc3\x28", "\xed\xa0\x80", "\x80\xff", "\xff\x80",
		strings.Repeat("z", 24), strings.Repeat("\xff", 25), strings.Repeat("name.", 2000),
	}
	for c := range 256 {
		list = append(list, string([]byte{byte(c)}))
	}
	return list
}

// P3.1

func TestMixIsItsDefinition(t *testing.T) {
	for _, x := range words() {
		if got, want := stream.Mix(x), mixed(big64(x)).Uint64(); got != want {
			t.Errorf("Mix(%x) = %x, want %x", x, got, want)
		}
	}
}

func TestExamplesOfMix(t *testing.T) {
	for x, want := range map[uint64]uint64{
		0:                  0,
		0x9e3779b97f4a7c15: 0xe220a8397b1dcdaf,
		0x3c6ef372fe94f82a: 0x6e789e6aa1b965f4,
		0xdaa66d2c7ddf743f: 0x06c45d188009454f,
		0x61c8864680b583eb: 0x336503c6b835bec0,
		1:                  0x5692161d100b05e5,
		2:                  0xdbd238973a2b148a,
		1 << 63:            0x25c26ea579cea98a,
		math.MaxUint64:     0xb4d055fcf2cbbd7b,
	} {
		if got := stream.Mix(x); got != want {
			t.Errorf("Mix(%x) = %x, want %x", x, got, want)
		}
	}
}

func TestDifferentNumbersAreMixedDifferently(t *testing.T) {
	for _, x := range words() {
		if got := unmixed(stream.Mix(x)); got != x {
			t.Errorf("Mix(%x) is also the result for %x", x, got)
		}
		if got := stream.Mix(unmixed(x)); got != x {
			t.Errorf("%x is no result of Mix, but %x", x, got)
		}
	}
	from := map[uint64]uint64{}
	for x := range uint64(1 << 16) {
		result := stream.Mix(x)
		if other, twice := from[result]; twice {
			t.Errorf("Mix(%x) = Mix(%x)", x, other)
		}
		from[result] = x
	}
}

// P3.2

func TestNewIsItsDefinition(t *testing.T) {
	for _, seed := range ints() {
		for _, name := range []string{"", "a", "ab", "\x00", "\xff", "\u00e9"} {
			checkNew(t, seed, name)
		}
	}
	for _, name := range names() {
		for _, seed := range []int{0, 1, -1, 42} {
			checkNew(t, seed, name)
		}
	}
}

func checkNew(t *testing.T, seed int, name string) {
	t.Helper()
	want := api.Stream{Key: keyOf(seed, name)}
	for range 2 {
		if got := stream.New(seed, name); got != want {
			t.Errorf("New(%d, %q) = %v, want %v", seed, name, got, want)
		}
	}
}

func TestExamplesOfNew(t *testing.T) {
	for _, c := range []struct {
		seed int
		name string
		key  uint64
	}{
		{0, "", 0xe220a8397b1dcdaf},
		{0, "\x00", 0xa706dd2f4d197e6f},
		{1, "a", 0x5e025f9ade9eaf3e},
		{-1, "ab", 0x58f534cb05af720b},
		{7, "cell.arrivals", 0x8ccb5d7e80b8a3bd},
		{math.MinInt, "\xff", 0x6ffe8ab50de13846},
		{math.MaxInt, "\u00e9", 0xd28cf3b745830a00},
		{maxInt, strings.Repeat("\x80", 24), 0xf024dc02419538df},
	} {
		if got := stream.New(c.seed, c.name); got != (api.Stream{Key: c.key}) {
			t.Errorf("New(%d, %q) = %v, want the key %x", c.seed, c.name, got, c.key)
		}
	}
}

func TestSeedsAndNamesHaveStreamsOfTheirOwn(t *testing.T) {
	type origin struct {
		seed int
		name string
	}
	from := map[uint64]origin{}
	for seed := -20; seed <= 20; seed++ {
		for _, name := range names() {
			key := stream.New(seed, name).Key
			if other, twice := from[key]; twice && other != (origin{seed, name}) {
				t.Errorf("New(%d, %q) = New(%d, %q)", seed, name, other.seed, other.name)
			}
			from[key] = origin{seed, name}
		}
	}
}

// P3.3

func TestCheck(t *testing.T) {
	for _, s := range valid() {
		if got := stream.Check(s); got != api.OK {
			t.Errorf("Check(%v) = %v", s, got)
		}
	}
	for _, s := range invalid() {
		if got := stream.Check(s); got != api.ErrRange {
			t.Errorf("Check(%v) = %v", s, got)
		}
	}
}

func TestNextIsItsDefinition(t *testing.T) {
	for _, s := range takable() {
		after := api.Stream{Key: s.Key, Pos: s.Pos + 1, Anti: s.Anti}
		if u, got := stream.Next(s); u != nextOf(s) || got != after {
			t.Errorf("Next(%v) = %x, %v, want %x, %v", s, u, got, nextOf(s), after)
		}
	}
	for _, s := range append(ended(), invalid()...) {
		if u, got := stream.Next(s); u != 0 || got != s {
			t.Errorf("Next(%v) = %x, %v, want 0 and the same stream", s, u, got)
		}
	}
}

func TestExamplesOfNext(t *testing.T) {
	for _, c := range []struct {
		s    api.Stream
		want []uint64
	}{
		{api.Stream{}, []uint64{0xe220a8397b1dcdaf, 0x6e789e6aa1b965f4, 0x06c45d188009454f}},
		{api.Stream{Anti: true}, []uint64{0x1ddf57c684e23250, 0x918761955e469a0b, 0xf93ba2e77ff6bab0}},
		{api.Stream{Key: 1234567}, []uint64{
			6457827717110365317, 3203168211198807973, 9817491932198370423, 4593380528125082431, 16408922859458223821,
		}},
		{api.Stream{Key: math.MaxUint64}, []uint64{0xe4d971771b652c20}},
		{api.Stream{Pos: maxInt - 1}, []uint64{0x38b77613ddaccaeb, 0, 0}},
		{api.Stream{Pos: maxInt - 1, Anti: true}, []uint64{0xc74889ec22533514, 0, 0}},
		{api.Stream{Key: 0x123, Pos: maxInt - 1}, []uint64{0x483b87ddc8f86740, 0}},
		{api.Stream{Pos: -1}, []uint64{0, 0}},
		{api.Stream{Pos: maxInt + 1, Anti: true}, []uint64{0, 0}},
	} {
		s := c.s
		for i, want := range c.want {
			var u uint64
			if u, s = stream.Next(s); u != want {
				t.Errorf("number %d of %v is %x, want %x", i, c.s, u, want)
			}
		}
	}
}

func TestSkipIsItsDefinition(t *testing.T) {
	for _, s := range all() {
		for _, n := range ints() {
			want := s
			if stream.Check(s) == api.OK && n >= 0 {
				want.Pos = skipOf(s, n)
			}
			if got := stream.Skip(s, n); got != want {
				t.Errorf("Skip(%v, %d) = %v, want %v", s, n, got, want)
			}
		}
	}
}

func TestSplitIsItsDefinition(t *testing.T) {
	for _, s := range valid() {
		for _, i := range ints() {
			want := api.Stream{Key: splitOf(s, i), Anti: s.Anti}
			if got := stream.Split(s, i); got != want {
				t.Errorf("Split(%v, %d) = %v, want %v", s, i, got, want)
			}
		}
	}
	for _, s := range invalid() {
		for _, i := range ints() {
			if got := stream.Split(s, i); got != s {
				t.Errorf("Split(%v, %d) = %v, want the same stream", s, i, got)
			}
		}
	}
}

func TestExamplesOfSplit(t *testing.T) {
	for _, c := range []struct {
		s    api.Stream
		i    int
		want api.Stream
	}{
		{api.Stream{}, 0, api.Stream{Key: 0x48218226ff3cd4bf}},
		{api.Stream{}, 1, api.Stream{Key: 0xdce423fc82c0d5b8}},
		{api.Stream{Pos: 3, Anti: true}, -1, api.Stream{Key: 0x445018e305810b78, Anti: true}},
		{api.Stream{Key: 9, Pos: maxInt}, 3, api.Stream{Key: 0x1aca684eb5393ffd}},
		{api.Stream{Key: math.MaxUint64}, math.MaxInt, api.Stream{Key: 0x071f306d4c693c81}},
		{api.Stream{Key: 5, Anti: true}, math.MinInt, api.Stream{Key: 0xb90e5de3a7bef12f, Anti: true}},
		{api.Stream{Key: 5, Pos: maxInt + 1}, 1, api.Stream{Key: 5, Pos: maxInt + 1}},
		{api.Stream{Key: 5, Pos: -1, Anti: true}, 1, api.Stream{Key: 5, Pos: -1, Anti: true}},
	} {
		if got := stream.Split(c.s, c.i); got != c.want {
			t.Errorf("Split(%v, %d) = %v, want %v", c.s, c.i, got, c.want)
		}
	}
}

func TestMirrorIsItsDefinition(t *testing.T) {
	for _, s := range valid() {
		if got := stream.Mirror(s); got != (api.Stream{Key: s.Key, Pos: s.Pos, Anti: !s.Anti}) {
			t.Errorf("Mirror(%v) = %v", s, got)
		}
	}
	for _, s := range invalid() {
		if got := stream.Mirror(s); got != s {
			t.Errorf("Mirror(%v) = %v, want the same stream", s, got)
		}
	}
}

func TestBelowIsItsDefinition(t *testing.T) {
	for _, s := range all() {
		for _, n := range ints() {
			number, after, exists := 0, s, false
			if stream.Check(s) == api.OK && s.Pos < maxInt && n >= 1 && n <= maxInt {
				number, exists = belowOf(nextOf(s), n), true
				after.Pos++
			}
			if got, next, ok := stream.Below(s, n); got != number || next != after || ok != exists {
				t.Errorf("Below(%v, %d) = %d, %v, %v, want %d, %v, %v", s, n, got, next, ok, number, after, exists)
			}
		}
	}
}

func TestExamplesOfBelow(t *testing.T) {
	for _, c := range []struct {
		pos, n, want, mirrored int
		ok                     bool
	}{
		{0, 1, 0, 0, true},
		{0, 2, 1, 0, true},
		{0, 6, 5, 0, true},
		{0, 10, 8, 1, true},
		{0, 256, 226, 29, true},
		{0, 1000, 883, 116, true},
		{0, maxInt, 883310808213, 116689191786, true},
		{0, maxInt + 1, 0, 0, false},
		{0, math.MaxInt, 0, 0, false},
		{0, 0, 0, 0, false},
		{0, -1, 0, 0, false},
		{0, math.MinInt, 0, 0, false},
		{maxInt - 1, 256, 0x38, 0xc7, true},
		{maxInt, 256, 0, 0, false},
		{maxInt + 1, 256, 0, 0, false},
		{-1, 256, 0, 0, false},
	} {
		for _, s := range []api.Stream{{Pos: c.pos}, {Pos: c.pos, Anti: true}} {
			want, after := c.want, s
			if s.Anti {
				want = c.mirrored
			}
			if c.ok {
				after.Pos++
			}
			if got, next, ok := stream.Below(s, c.n); got != want || next != after || ok != c.ok {
				t.Errorf("Below(%v, %d) = %d, %v, %v, want %d, %v, %v", s, c.n, got, next, ok, want, after, c.ok)
			}
		}
	}
}

// P3.4

// taken is the stream after n numbers, taken one after the other.
func taken(s api.Stream, n int) api.Stream {
	for range n {
		_, s = stream.Next(s)
	}
	return s
}

func TestSkippingIsTaking(t *testing.T) {
	for _, s := range append(all(), streamsAt([]int{maxInt - 40, maxInt - 17, maxInt - 16})...) {
		for _, n := range []int{0, 1, 2, 3, 16, 17, 41} {
			if got, want := stream.Skip(s, n), taken(s, n); got != want {
				t.Errorf("Skip(%v, %d) = %v, want %v", s, n, got, want)
			}
		}
	}
	if got, want := stream.Skip(api.Stream{Key: 8}, 100000), taken(api.Stream{Key: 8}, 100000); got != want {
		t.Errorf("after 100000 numbers the stream is %v, want %v", got, want)
	}
}

func TestNumbersAfterSkip(t *testing.T) {
	if u, _ := stream.Next(stream.Skip(api.Stream{}, 2)); u != 0x06c45d188009454f {
		t.Errorf("the number after 2 is %x", u)
	}
	for _, s := range takable() {
		walk := s
		for n := range 20 {
			want, after := stream.Next(walk)
			if got, _ := stream.Next(stream.Skip(s, n)); got != want {
				t.Errorf("the number after %d of %v is %x, want %x", n, s, got, want)
			}
			walk = after
		}
	}
}

// P3.5

func TestMirroredNumbersAreInverted(t *testing.T) {
	for _, s := range takable() {
		u, after := stream.Next(s)
		v, mirrored := stream.Next(stream.Mirror(s))
		if u+v != math.MaxUint64 || u&v != 0 {
			t.Errorf("%v: the numbers are %x and %x", s, u, v)
		}
		if mirrored != stream.Mirror(after) {
			t.Errorf("%v: the streams after them are %v and %v", s, after, mirrored)
		}
	}
}

func TestMirrorTwiceIsTheStreamItself(t *testing.T) {
	for _, s := range all() {
		if got := stream.Mirror(stream.Mirror(s)); got != s {
			t.Errorf("Mirror twice changes %v to %v", s, got)
		}
	}
}

func TestMirrorIsExchangedWithSkipAndSplit(t *testing.T) {
	for _, s := range all() {
		for _, n := range ints() {
			if got, want := stream.Mirror(stream.Skip(s, n)), stream.Skip(stream.Mirror(s), n); got != want {
				t.Errorf("%v and %d: Mirror after Skip is %v, before it %v", s, n, got, want)
			}
			if got, want := stream.Mirror(stream.Split(s, n)), stream.Split(stream.Mirror(s), n); got != want {
				t.Errorf("%v and %d: Mirror after Split is %v, before it %v", s, n, got, want)
			}
		}
	}
}

func TestMirroredNumbersBelowAddUp(t *testing.T) {
	for _, s := range takable() {
		for _, n := range ints() {
			if n < 1 || n > maxInt {
				continue
			}
			a, _, first := stream.Below(s, n)
			b, _, second := stream.Below(stream.Mirror(s), n)
			if !first || !second || a+b != n-1 && a+b != n-2 {
				t.Errorf("%v and %d: %d, %v and mirrored %d, %v", s, n, a, first, b, second)
			}
		}
	}
}

// P3.6

func TestSubstreamsHaveKeysOfTheirOwn(t *testing.T) {
	for _, s := range valid() {
		from := map[uint64]int{}
		for _, i := range ints() {
			key := stream.Split(s, i).Key
			if other, twice := from[key]; twice && other != i {
				t.Errorf("the substreams %d and %d of %v have the same key", i, other, s)
			}
			from[key] = i
			// The number can be found again from the key, so that no two numbers have the same one.
			if got := int(unmixed(unmixed(key)^s.Key) - g); got != i {
				t.Errorf("the substream %d of %v has the key of %d", i, s, got)
			}
		}
	}
	from := map[uint64]int{}
	for i := -5000; i <= 5000; i++ {
		key := stream.Split(api.Stream{Key: 77}, i).Key
		if other, twice := from[key]; twice {
			t.Errorf("the substreams %d and %d have the same key", i, other)
		}
		from[key] = i
	}
}

func TestSubstreamsDoNotDependOnPos(t *testing.T) {
	for _, s := range valid() {
		for _, i := range ints() {
			want := stream.Split(api.Stream{Key: s.Key, Anti: s.Anti}, i)
			if got := stream.Split(s, i); got != want || got.Pos != 0 {
				t.Errorf("Split(%v, %d) = %v, at the position 0 %v", s, i, got, want)
			}
		}
	}
}

// P3.7

func TestBelowIsBelow(t *testing.T) {
	// The key is one whose next number has all bits set: the greatest one that there is.
	greatest := api.Stream{Key: unmixed(math.MaxUint64) - g}
	for _, s := range append(takable(), greatest, stream.Mirror(greatest)) {
		for _, n := range ints() {
			if n < 1 || n > maxInt {
				continue
			}
			if got, _, ok := stream.Below(s, n); got < 0 || got >= n || !ok {
				t.Errorf("Below(%v, %d) = %d, %v", s, n, got, ok)
			}
		}
	}
	for _, n := range []int{1, 2, 1000, maxInt} {
		high, _, _ := stream.Below(greatest, n)
		low, _, _ := stream.Below(stream.Mirror(greatest), n)
		if high != n-1 || low != 0 {
			t.Errorf("below %d the greatest number is %d, the least one %d", n, high, low)
		}
	}
}

func TestBelowDoesNotDecrease(t *testing.T) {
	var ends []int
	for n := 1; n <= 1000; n++ {
		ends = append(ends, n)
	}
	for n := 1000; n < maxInt; n += n/7 + 1 {
		ends = append(ends, n)
	}
	ends = append(ends, maxInt)
	for _, s := range takable() {
		last := 0
		for _, n := range ends {
			got, _, ok := stream.Below(s, n)
			if got < last || !ok {
				t.Errorf("Below(%v, %d) = %d, %v after %d", s, n, got, ok, last)
			}
			last = got
		}
	}
}

func TestStreamAfterBelowIsThatAfterNext(t *testing.T) {
	for _, s := range takable() {
		_, want := stream.Next(s)
		for _, n := range []int{1, 2, 10, 256, maxInt - 1, maxInt} {
			if _, got, ok := stream.Below(s, n); got != want || !ok {
				t.Errorf("after Below(%v, %d) the stream is %v, %v, want %v", s, n, got, ok, want)
			}
		}
	}
}
