package crc_test

import (
	"bytes"
	"fmt"
	"math"
	"math/big"
	"strings"
	"testing"

	"teetotum/crc"
)

const (
	first  uint16 = 0xffff // what a text's sum begins from
	whole         = math.MaxInt
	lowest        = math.MinInt
)

// asked is a call, written out only where it is told.
type asked struct {
	name string
	args []any
}

func call(name string, args ...any) asked { return asked{name, args} }

func (a asked) String() string { return fmt.Sprintf("%s of %x", a.name, a.args) }

// is fails if got is not want.
func is[T comparable](t *testing.T, what asked, got, want T) {
	t.Helper()
	if got != want {
		t.Fatalf("%s: %v, want %v", what, got, want)
	}
}

// isSum fails if got is not want, and tells both as hexadecimals.
func isSum(t *testing.T, what asked, got, want uint16) {
	t.Helper()
	if got != want {
		t.Fatalf("%s: %04x, want %04x", what, got, want)
	}
}

// remainder is what the division of x by the polynomial leaves, bits being exclusively or'ed.
func remainder(x *big.Int) uint16 {
	x = new(big.Int).Set(x)
	for x.BitLen() > 16 {
		x.Xor(x, new(big.Int).Lsh(big.NewInt(0x11021), uint(x.BitLen()-17)))
	}
	return uint16(x.Uint64())
}

// divided is the sum behind b, by one long division: of b, and of the sum that it begins from laid upon it.
func divided(sum uint16, b []byte) uint16 {
	x := new(big.Int).SetBytes(append(append([]byte{}, b...), 0, 0))
	begin := new(big.Int).Lsh(big.NewInt(int64(sum)), uint(8*len(b)))
	return remainder(x.Xor(x, begin))
}

// sums are edges among the sums, and some all over them.
func sums() []uint16 {
	l := []uint16{0, 3, 0x0ff0, 0x1021, 0x1d0f, 0x29b1, 0x7fff, 0x8001, 0x8810, 0xeffe, 0xfffe, first}
	for bit := range 16 {
		l = append(l, 1<<bit)
	}
	return l
}

// mixed are long bytes all of which differ from their neighbours, another text for each seed.
func mixed(long int, seed byte) []byte {
	b := make([]byte, long)
	for i := range b {
		seed = seed*141 + 43
		b[i] = seed ^ byte(i>>3)
	}
	return b
}

// texts are of many lengths: bytes that are all 0, all 255, and mixed ones.
func texts() [][]byte {
	var l [][]byte
	for _, long := range []int{0, 1, 2, 3, 4, 7, 8, 9, 15, 16, 17, 31, 64, 100, 255, 256, 257} {
		l = append(l, make([]byte, long), bytes.Repeat([]byte{255}, long), mixed(long, 1), mixed(long, 200))
	}
	return l
}

// joined is a and b, one behind the other, as new memory.
func joined(a, b []byte) []byte { return append(append([]byte{}, a...), b...) }

// or is the exclusive or of two texts of one length.
func or(a, b []byte) []byte {
	c := make([]byte, len(a))
	for i := range a {
		c[i] = a[i] ^ b[i]
	}
	return c
}

// behind is b with its sum behind it, the higher byte first.
func behind(b []byte, sum uint16) []byte { return joined(b, []byte{byte(sum >> 8), byte(sum)}) }

// roomBehind is b as a list with more bytes in the room behind its end.
func roomBehind(b []byte) []byte { return joined(b, []byte{1, 2, 3, 4, 5, 6, 7, 8})[:len(b)] }

// P6.1: twice the sum, and 1021 where its highest bit was 1.
func TestP1Step(t *testing.T) {
	for _, r := range []struct{ sum, want uint16 }{
		{0, 0}, {1, 2}, {0x4000, 0x8000}, {0x7fff, 0xfffe}, {0x8000, 0x1021}, {0x8001, 0x1023}, {0xffff, 0xefdf}, {0x8810, 0x0001}, {0x1021, 0x2042},
	} {
		isSum(t, call("Step", r.sum), crc.Step(r.sum), r.want)
	}
}

// P6.1, of all sums.
func TestP1StepOfAll(t *testing.T) {
	for x := range 1 << 16 {
		want := 2 * x
		if x >= 1<<15 {
			want = 2*x - 1<<16 ^ 0x1021
		}
		isSum(t, call("Step", x), crc.Step(uint16(x)), uint16(want))
	}
}

// P6.2: the byte stands upon the sum's higher one, ahead of the Steps.
func TestP2Byte(t *testing.T) {
	for _, r := range []struct {
		sum  uint16
		b    byte
		want uint16
	}{
		{0, 0, 0}, {0, 1, 0x1021}, {0x0100, 0, 0x1021}, {0x0100, 1, 0}, {1, 0, 0x0100}, {first, 0, 0xe1f0}, {first, 255, 0xff00}, {first, 'A', 0xb915}, {0xff00, 255, 0},
	} {
		isSum(t, call("Byte", r.sum, r.b), crc.Byte(r.sum, r.b), r.want)
	}
}

// P6.2, of all bytes upon many sums: eight Steps, and the long division.
func TestP2ByteOfAll(t *testing.T) {
	for _, sum := range sums() {
		for x := range 256 {
			want := sum ^ uint16(x)<<8
			for range 8 {
				want = crc.Step(want)
			}
			got := crc.Byte(sum, byte(x))
			isSum(t, call("Byte", sum, x), got, want)
			isSum(t, call("Byte", sum, x), got, divided(sum, []byte{byte(x)}))
		}
	}
}

// P6.3, and the chapter's example: a text's sum begins from ffff.
func TestP3Of(t *testing.T) {
	for _, r := range []struct {
		b    []byte
		want uint16
	}{
		{[]byte("123456789"), 0x29b1}, {nil, 0xffff}, {[]byte{}, 0xffff}, {[]byte{0}, 0xe1f0}, {[]byte{255}, 0xff00}, {[]byte{255, 255}, 0},
		{[]byte("A"), 0xb915}, {[]byte("teetotum"), 0x0f28}, {[]byte(strings.Repeat("A", 256)), 0xea0b}, {make([]byte, 10), 0xe139},
		{roomBehind([]byte("123456789")), 0x29b1}, {roomBehind(nil), 0xffff},
	} {
		isSum(t, call("Of", r.b), crc.Of(r.b), r.want)
	}
}

// P6.3, of all texts from many sums on: Byte by Byte, and the long division.
func TestP3MoreOfAll(t *testing.T) {
	for _, b := range texts() {
		isSum(t, call("Of", b), crc.Of(b), divided(first, b))
		for _, sum := range sums() {
			want := sum
			for _, x := range b {
				want = crc.Byte(want, x)
			}
			isSum(t, call("More", sum, b), crc.More(sum, b), want)
		}
		isSum(t, call("More", 0x1234, b), crc.More(0x1234, b), divided(0x1234, b))
	}
}

// P6.4: two bytes at least, and the last two the sum of those ahead, the higher byte first.
func TestP4Fits(t *testing.T) {
	for _, r := range []struct {
		b    []byte
		want bool
	}{
		{nil, false}, {[]byte{}, false}, {[]byte{0}, false}, {[]byte{255}, false}, {[]byte{0xe1}, false},
		{[]byte{255, 255}, true}, {[]byte{0, 0}, false}, {[]byte{255, 254}, false}, {[]byte{254, 255}, false},
		{[]byte{0, 0xe1, 0xf0}, true}, {[]byte{0, 0xf0, 0xe1}, false}, {[]byte{0, 0xe1, 0xf1}, false}, {[]byte{1, 0xe1, 0xf0}, false}, {[]byte{255, 0xff, 0}, true},
		{behind([]byte("123456789"), 0x29b1), true}, {behind([]byte("123456789"), 0xb129), false}, {behind([]byte("123456788"), 0x29b1), false},
		{roomBehind([]byte{255}), false}, {roomBehind(nil), false}, {append([]byte{255}, 255)[:1], false}, {roomBehind([]byte{255, 255}), true},
	} {
		is(t, call("Fits", r.b), crc.Fits(r.b), r.want)
	}
}

// P6.4: of one byte's text its sum fits alone, of all that there are.
func TestP4FitsOfAll(t *testing.T) {
	for sum := range 1 << 16 {
		b := behind([]byte{0x5a}, uint16(sum))
		is(t, call("Fits", b), crc.Fits(b), uint16(sum) == divided(first, []byte{0x5a}))
	}
}

// P6.4: with one bit turned round nothing fits any more.
func TestP4FitsTurned(t *testing.T) {
	for _, b := range texts() {
		b = behind(b, crc.Of(b))
		is(t, call("Fits", b), crc.Fits(b), true)
		for bit := range 8 * len(b) {
			b[bit/8] ^= 128 >> (bit % 8)
			is(t, call("Fits", b), crc.Fits(b), false)
			b[bit/8] ^= 128 >> (bit % 8)
		}
	}
}

// P6.5: sums of one bit, from the lowest on.
func TestP5Power(t *testing.T) {
	var alone [16]uint16
	for bit := range alone {
		alone[bit] = 1 << bit
	}
	one := [16]uint16{0x0100, 0x0200, 0x0400, 0x0800, 0x1000, 0x2000, 0x4000, 0x8000, 0x1021, 0x2042, 0x4084, 0x8108, 0x1231, 0x2462, 0x48c4, 0x9188}
	for _, r := range []struct {
		n    int
		want [16]uint16
	}{{0, alone}, {-1, alone}, {lowest, alone}, {1, one}} {
		is(t, call("Power", r.n), crc.Power(r.n), r.want)
	}
}

// P6.5, of all numbers of bytes that count: each sum goes on over them by itself.
func TestP5PowerOfAll(t *testing.T) {
	want := crc.Power(0)
	for n := range 4001 {
		is(t, call("Power", n), crc.Power(n), want)
		for bit := range want {
			want[bit] = crc.Byte(want[bit], 0)
		}
	}
}

// P6.5: 4000 bytes at most.
func TestP5PowerBeyond(t *testing.T) {
	most := crc.Power(4000)
	if most == crc.Power(3999) {
		t.Fatal("Power of 4000: that of 3999")
	}
	for _, n := range []int{4001, 4002, 8000, 32767, 65535, 1 << 31, whole} {
		is(t, call("Power", n), crc.Power(n), most)
	}
	isSum(t, call("Power", 4000, "its lowest bit"), most[0], remainder(new(big.Int).Lsh(big.NewInt(1), 8*4000)))
}

// P6.6: of no bytes the first sum is told only by what it has beyond ffff.
func TestP6Join(t *testing.T) {
	for _, r := range []struct {
		a, b uint16
		n    int
		want uint16
	}{
		{first, 0, 0, 0}, {first, 0x1234, 0, 0x1234}, {first, 0x1234, 4000, 0x1234}, {0, 0, 0, 0xffff}, {0xfffe, 0, 0, 1}, {0x7fff, 0x8000, 0, 0},
		{0x29b1, first, 0, 0x29b1}, {0x29b1, first, -1, 0x29b1}, {0x29b1, first, lowest, 0x29b1}, {0xfeff, 0, 1, 0x1021}, {0xfffe, 0, 1, 0x0100},
	} {
		isSum(t, call("Join", r.a, r.b, r.n), crc.Join(r.a, r.b, r.n), r.want)
	}
}

// P6.6: of the sums of two texts that of both, one behind the other.
func TestP6JoinOfTexts(t *testing.T) {
	for _, a := range texts() {
		for _, b := range texts() {
			isSum(t, call("Join", a, b), crc.Join(crc.Of(a), crc.Of(b), len(b)), crc.Of(joined(a, b)))
		}
	}
	a := mixed(50, 3)
	for _, long := range []int{3998, 3999, 4000} {
		b := mixed(long, 9)
		isSum(t, call("Join", a, long), crc.Join(crc.Of(a), crc.Of(b), long), crc.Of(joined(a, b)))
	}
}

// P6.6, of all sums, by the promise's words; behind 4000 bytes more of them do not count.
func TestP6JoinOfAll(t *testing.T) {
	for _, n := range []int{lowest, -1, 0, 1, 2, 3, 7, 255, 3999, 4000, 4001, 8000, whole} {
		power := crc.Power(min(max(n, 0), 4000))
		for _, a := range sums() {
			for _, b := range sums() {
				want := b
				for bit := range power {
					if a&(1<<bit) == 0 {
						want ^= power[bit]
					}
				}
				isSum(t, call("Join", a, b, n), crc.Join(a, b, n), want)
			}
		}
	}
}

// P6.7: from the first to the last bit that is unlike, both counted; no further than both go.
func TestP7Burst(t *testing.T) {
	for _, r := range []struct {
		a, b []byte
		want int
	}{
		{nil, nil, 0}, {nil, []byte{1}, 0}, {[]byte{1}, nil, 0}, {[]byte{5}, []byte{5}, 0}, {[]byte{5, 6}, []byte{5}, 0}, {[]byte{5}, []byte{5, 255}, 0},
		{[]byte{0}, []byte{1}, 1}, {[]byte{0}, []byte{128}, 1}, {[]byte{0}, []byte{129}, 8}, {[]byte{0}, []byte{0x18}, 2}, {[]byte{255}, []byte{0}, 8},
		{[]byte{0, 0}, []byte{1, 128}, 2}, {[]byte{0, 0}, []byte{128, 1}, 16}, {[]byte{0, 0}, []byte{1, 1}, 9}, {[]byte{0, 0}, []byte{128, 128}, 9}, {[]byte{0, 0}, []byte{0, 4}, 1},
		{[]byte{0, 0, 0}, []byte{1, 0, 128}, 10}, {[]byte{0, 0, 0}, []byte{128, 0, 1}, 24}, {[]byte{0, 0, 0}, []byte{0, 255, 0}, 8}, {[]byte{0, 7, 0}, []byte{0, 7, 3}, 2},
		{[]byte{0, 0, 1}, []byte{0, 2}, 1}, {[]byte{0, 2}, []byte{0, 0, 1}, 1}, {[]byte{0xf0, 0x0f}, []byte{0x0f, 0xf0}, 16},
		{roomBehind([]byte{1}), []byte{1, 9}, 0}, {[]byte{1, 9}, roomBehind([]byte{1}), 0}, {roomBehind([]byte{1, 9}), roomBehind([]byte{1}), 0},
	} {
		is(t, call("Burst", r.a, r.b), crc.Burst(r.a, r.b), r.want)
	}
}

// bitsOf are b's bits, the highest of a byte first.
func bitsOf(b []byte) string {
	var s strings.Builder
	for _, x := range b {
		fmt.Fprintf(&s, "%08b", x)
	}
	return s.String()
}

// between is how many bits there are from the first 1 to the last one.
func between(bits string) int {
	return len(strings.Trim(bits, "0"))
}

// P6.7, of all bytes in all places, and of any two bits turned round, either way.
func TestP7BurstOfAll(t *testing.T) {
	check := func(a, b []byte) {
		t.Helper()
		want := between(bitsOf(or(a, b)))
		is(t, call("Burst", a, b), crc.Burst(a, b), want)
		is(t, call("Burst", a, joined(b, []byte{77})), crc.Burst(a, joined(b, []byte{77})), want)
		is(t, call("Burst", joined(a, []byte{77}), b), crc.Burst(joined(a, []byte{77}), b), want)
	}
	for long := 1; long <= 5; long++ {
		a := mixed(long, 17)
		for x := range 256 {
			for at := range long {
				b := joined(a, nil)
				b[at] = byte(x)
				check(a, b)
			}
		}
		for p := range 8 * long {
			for q := range 8 * long {
				b := joined(a, nil)
				b[p/8] ^= 128 >> (p % 8)
				b[q/8] ^= 128 >> (q % 8)
				check(a, b)
			}
		}
	}
}

// P6.8: cut anywhere, a text's sum goes on where it was.
func TestP8GoesOn(t *testing.T) {
	for _, b := range texts() {
		for _, sum := range []uint16{0, 1, 0x8000, 0x1d0f, first} {
			want := crc.More(sum, b)
			for cut := range len(b) + 1 {
				isSum(t, call("More", sum, b, "cut at", cut), crc.More(crc.More(sum, b[:cut]), b[cut:]), want)
			}
		}
		isSum(t, call("More", first, b), crc.More(first, b), crc.Of(b))
	}
}

// P6.9: the exclusive or of two sums is that of the texts' exclusive or, from 0 on.
func TestP9Or(t *testing.T) {
	for _, a := range texts() {
		for _, b := range texts() {
			if len(a) == len(b) {
				isSum(t, call("sums", a, b), crc.Of(a)^crc.Of(b), crc.More(0, or(a, b)))
			}
		}
	}
}

// P6.10: with its sum behind a text has the sum 0, with any other one it has not.
func TestP10SumBehind(t *testing.T) {
	for _, b := range texts() {
		sum := crc.Of(b)
		isSum(t, call("Of", b, "and its sum"), crc.Of(behind(b, sum)), 0)
		for _, other := range sums() {
			is(t, call("Of", b, "and", other), crc.Of(behind(b, other)) == 0, other == sum)
		}
	}
}

// P6.11: all bursts of at most sixteen bits, at all places of a text.
func TestP11Bursts(t *testing.T) {
	for _, a := range [][]byte{mixed(2, 5), mixed(3, 5), mixed(8, 5)} {
		sum := crc.Of(a)
		for burst := 1; burst < 1<<16; burst++ {
			for at := range 8*len(a) - 15 {
				b := new(big.Int).Lsh(big.NewInt(int64(burst)), uint(at)).FillBytes(make([]byte, len(a)))
				b = or(a, b)
				if crc.Of(b) == sum {
					t.Fatalf("Of %x and of %x, unlike in a burst of %d bits: %04x", a, b, crc.Burst(a, b), sum)
				}
			}
		}
	}
}

// P6.11: bursts of a longer text, among them those at its ends.
func TestP11BurstsOfLong(t *testing.T) {
	a := mixed(300, 8)
	sum := crc.Of(a)
	for _, long := range []int{1, 2, 8, 9, 15, 16} {
		for at := range 8*len(a) - long + 1 {
			b := joined(a, nil)
			for bit := at; bit < at+long; bit++ {
				b[bit/8] ^= 128 >> (bit % 8)
			}
			is(t, call("Burst", "long", long, "at", at), crc.Burst(a, b), long)
			if crc.Of(b) == sum {
				t.Fatalf("%d bits turned round at %d: the sum stays %04x", long, at, sum)
			}
		}
	}
}

// R3: what is handed in, and the room behind its end, stays as it is.
func TestR3HandedIn(t *testing.T) {
	b := roomBehind(behind([]byte("123456789"), 0x29b1))
	was := joined(b[:cap(b)], nil)
	crc.Of(b)
	crc.More(7, b)
	crc.Fits(b)
	crc.Burst(b, b[2:])
	crc.Burst(b[2:], b)
	if !bytes.Equal(b[:cap(b)], was) {
		t.Fatalf("what was handed in: %x, was %x", b[:cap(b)], was)
	}
}
