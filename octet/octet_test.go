package octet_test

import (
	"bytes"
	"fmt"
	"math"
	"math/big"
	"strings"
	"testing"

	"teetotum/api"
	"teetotum/octet"
)

const (
	greatest     = math.MaxInt64
	least        = math.MinInt64
	whole    int = math.MaxInt
	lowest   int = math.MinInt
)

// edges are numbers beside which something changes: the powers of 2 and of 128, and numbers all of whose bytes differ.
func edges() []uint64 {
	l := []uint64{0x0102030405060708, 0xfedcba9876543210, 0x8081828384858687, 0x7f00ff0080000001}
	for n := range 64 {
		l = append(l, 1<<n-1, 1<<n, 1<<n+1, -(1 << n), -(1<<n)-1)
	}
	return l
}

// widths are those that may be, those beside them, and those far from them.
func widths() []int {
	return []int{lowest, -9, -8, -1, 0, 1, 2, 3, 4, 5, 6, 7, 8, 9, 16, 255, 256, 264, whole}
}

func mayBe(width int) bool { return 1 <= width && width <= 8 }

// power is 2 to the power n.
func power(n int) *big.Int { return new(big.Int).Lsh(big.NewInt(1), uint(n)) }

// bytesOf are the lowest bytes of n, the highest first.
func bytesOf(n *big.Int, width int) []byte {
	b := make([]byte, width)
	return new(big.Int).Mod(n, power(8*width)).FillBytes(b)
}

func bigOf(n uint64) *big.Int { return new(big.Int).SetUint64(n) }

// asked is a call, written out only where it is told.
type asked struct {
	name string
	args []any
}

func call(name string, args ...any) asked { return asked{name, args} }

func (a asked) String() string { return fmt.Sprint(a.name, " of ", a.args) }

// is fails if got is not want.
func is[T comparable](t *testing.T, what asked, got, want T) {
	t.Helper()
	if got != want {
		t.Fatalf("%s: %v, want %v", what, got, want)
	}
}

// isBytes fails if got is not want; nil and empty lists are the same.
func isBytes(t *testing.T, what asked, got, want []byte) {
	t.Helper()
	if !bytes.Equal(got, want) {
		t.Fatalf("%s: %v, want %v", what, got, want)
	}
}

// surrounds are bytes that may stand ahead of others or behind them.
func surrounds() [][]byte {
	return [][]byte{nil, {0}, {255}, {128}, {1, 127, 128, 255, 0, 3, 200}, bytes.Repeat([]byte{255}, 12), make([]byte, 12)}
}

// eachPlace calls f with b among all surrounds, and the place where it begins and the one behind it.
func eachPlace(b []byte, f func(all []byte, at, end int)) {
	for _, ahead := range surrounds() {
		for _, behind := range surrounds() {
			f(bytes.Join([][]byte{ahead, b, behind}, nil), len(ahead), len(ahead)+len(b))
		}
	}
}

// roomBehind is b as a list with more bytes in the room behind its end.
func roomBehind(b []byte) []byte {
	room := append(append([]byte{}, b...), 1, 2, 3, 4, 5, 6, 7, 8, 9, 10, 11, 12)
	return room[:len(b)]
}

// P5.1: the lowest bytes, the highest of them first; no more than 8, no fewer than 0.
func TestP1Put(t *testing.T) {
	for _, r := range []struct {
		n     uint64
		width int
		want  []byte
	}{
		{0x0102030405060708, 8, []byte{1, 2, 3, 4, 5, 6, 7, 8}},
		{0x0102030405060708, 3, []byte{6, 7, 8}},
		{0x0102030405060708, 1, []byte{8}},
		{0x0102030405060708, 0, nil},
		{0x0102030405060708, -1, nil},
		{0x0102030405060708, lowest, nil},
		{0x0102030405060708, 9, []byte{1, 2, 3, 4, 5, 6, 7, 8}},
		{0x0102030405060708, whole, []byte{1, 2, 3, 4, 5, 6, 7, 8}},
		{0, 2, []byte{0, 0}},
		{256, 1, []byte{0}},
		{256, 2, []byte{1, 0}},
		{math.MaxUint64, 8, bytes.Repeat([]byte{255}, 8)},
		{math.MaxUint64, 4, bytes.Repeat([]byte{255}, 4)},
	} {
		isBytes(t, call("Put", r.n, r.width), octet.Put(r.n, r.width), r.want)
	}
}

// P5.1, of all edges and widths.
func TestP1PutOfAll(t *testing.T) {
	for _, n := range edges() {
		for _, width := range widths() {
			isBytes(t, call("Put", n, width), octet.Put(n, width), bytesOf(bigOf(n), min(max(width, 0), 8)))
		}
	}
}

// P5.2: what is no place or no width, then what is too short, then the number.
func TestP2Get(t *testing.T) {
	b := []byte{1, 2, 255, 0}
	for _, r := range []struct {
		b         []byte
		at, width int
		want      uint64
		err       api.Errno
	}{
		{b, 0, 1, 1, api.OK}, {b, 0, 2, 258, api.OK}, {b, 1, 2, 767, api.OK}, {b, 3, 1, 0, api.OK}, {b, 2, 2, 65280, api.OK},
		{b, 0, 4, 0x0102ff00, api.OK}, {b, 0, 5, 0, api.ErrShort}, {b, 1, 4, 0, api.ErrShort}, {b, 3, 2, 0, api.ErrShort},
		{b, 4, 1, 0, api.ErrShort}, {b, 4, 8, 0, api.ErrShort}, {b, 5, 1, 0, api.ErrArg}, {b, -1, 1, 0, api.ErrArg},
		{b, lowest, 1, 0, api.ErrArg}, {b, whole, 1, 0, api.ErrArg}, {b, whole, 8, 0, api.ErrArg},
		{b, 0, 0, 0, api.ErrArg}, {b, 0, 9, 0, api.ErrArg}, {b, 0, -1, 0, api.ErrArg}, {b, 0, lowest, 0, api.ErrArg}, {b, 0, whole, 0, api.ErrArg},
		{b, 4, 0, 0, api.ErrArg}, {b, 4, 9, 0, api.ErrArg}, {b, 5, 0, 0, api.ErrArg}, {b, whole, whole, 0, api.ErrArg}, {b, lowest, lowest, 0, api.ErrArg},
		{nil, 0, 1, 0, api.ErrShort}, {nil, 1, 1, 0, api.ErrArg}, {nil, 0, 0, 0, api.ErrArg}, {[]byte{}, 0, 1, 0, api.ErrShort},
		{bytes.Repeat([]byte{255}, 8), 0, 8, math.MaxUint64, api.OK}, {bytes.Repeat([]byte{255}, 8), 1, 8, 0, api.ErrShort},
	} {
		got, err := octet.Get(r.b, r.at, r.width)
		is(t, call("Get", r.b, r.at, r.width), got, r.want)
		is(t, call("error of Get", r.b, r.at, r.width), err, r.err)
	}
}

// getError is Get's error, by the promise's words.
func getError(b []byte, at, width int) api.Errno {
	switch {
	case at < 0 || len(b) < at || !mayBe(width):
		return api.ErrArg
	case len(b) < at+width:
		return api.ErrShort
	}
	return api.OK
}

// P5.2 and P5.4 at all places of lists of all lengths, with all widths; the room behind a list's end does not count.
func TestP2P4GetSignedOfAll(t *testing.T) {
	for long := range 12 {
		b := roomBehind([]byte{200, 3, 255, 0, 128, 127, 1, 254, 99, 129, 64, 7}[:long])
		for at := -2; at <= long+2; at++ {
			for _, width := range widths() {
				want, wantSigned := uint64(0), int64(0)
				err := getError(b, at, width)
				if err == api.OK {
					n := new(big.Int).SetBytes(b[at : at+width])
					want = n.Uint64()
					if b[at] >= 128 {
						n.Sub(n, power(8*width))
					}
					wantSigned = n.Int64()
				}
				got, gotErr := octet.Get(b, at, width)
				is(t, call("Get", b, at, width), got, want)
				is(t, call("error of Get", b, at, width), gotErr, err)
				signed, signedErr := octet.Signed(b, at, width)
				is(t, call("Signed", b, at, width), signed, wantSigned)
				is(t, call("error of Signed", b, at, width), signedErr, err)
			}
		}
	}
}

// P5.3, and the chapter's example: what is no width, then what has no room, then the bytes.
func TestP3PutSigned(t *testing.T) {
	for _, r := range []struct {
		n     int64
		width int
		want  []byte
		err   api.Errno
	}{
		{-2, 2, []byte{255, 254}, api.OK}, {0, 1, []byte{0}, api.OK}, {-1, 1, []byte{255}, api.OK},
		{127, 1, []byte{127}, api.OK}, {128, 1, nil, api.ErrOver}, {-128, 1, []byte{128}, api.OK}, {-129, 1, nil, api.ErrOver},
		{255, 1, nil, api.ErrOver}, {255, 2, []byte{0, 255}, api.OK}, {32767, 2, []byte{127, 255}, api.OK}, {-32768, 2, []byte{128, 0}, api.OK}, {32768, 2, nil, api.ErrOver}, {-32769, 2, nil, api.ErrOver},
		{greatest, 8, []byte{127, 255, 255, 255, 255, 255, 255, 255}, api.OK}, {least, 8, []byte{128, 0, 0, 0, 0, 0, 0, 0}, api.OK},
		{greatest, 7, nil, api.ErrOver}, {least, 7, nil, api.ErrOver}, {1 << 55, 7, nil, api.ErrOver}, {1<<55 - 1, 7, []byte{127, 255, 255, 255, 255, 255, 255}, api.OK},
		{0, 0, nil, api.ErrArg}, {0, 9, nil, api.ErrArg}, {0, -1, nil, api.ErrArg}, {greatest, 0, nil, api.ErrArg}, {least, 9, nil, api.ErrArg},
		{0, lowest, nil, api.ErrArg}, {0, whole, nil, api.ErrArg}, {least, lowest, nil, api.ErrArg},
	} {
		got, err := octet.PutSigned(r.n, r.width)
		isBytes(t, call("PutSigned", r.n, r.width), got, r.want)
		is(t, call("error of PutSigned", r.n, r.width), err, r.err)
	}
}

// P5.3, of all edges and widths.
func TestP3PutSignedOfAll(t *testing.T) {
	for _, e := range edges() {
		n := int64(e)
		for _, width := range widths() {
			got, err := octet.PutSigned(n, width)
			what, exact := call("PutSigned", n, width), big.NewInt(n)
			switch {
			case !mayBe(width):
				is(t, what, err, api.ErrArg)
				isBytes(t, what, got, nil)
			case exact.Cmp(power(8*width-1)) >= 0, exact.Cmp(new(big.Int).Neg(power(8*width-1))) < 0:
				is(t, what, err, api.ErrOver)
				isBytes(t, what, got, nil)
			default:
				is(t, what, err, api.OK)
				isBytes(t, what, got, bytesOf(exact, width))
			}
		}
	}
}

// P5.4: what is below 0 by its highest bit; beside an error 0.
func TestP4Signed(t *testing.T) {
	b := []byte{255, 254, 127, 128, 0}
	for _, r := range []struct {
		at, width int
		want      int64
		err       api.Errno
	}{
		{0, 2, -2, api.OK}, {0, 1, -1, api.OK}, {1, 1, -2, api.OK}, {2, 1, 127, api.OK}, {3, 1, -128, api.OK}, {4, 1, 0, api.OK},
		{2, 2, 0x7f80, api.OK}, {3, 2, -32768, api.OK}, {1, 3, 0xfe7f80 - 1<<24, api.OK},
		{0, 6, 0, api.ErrShort}, {5, 1, 0, api.ErrShort}, {6, 1, 0, api.ErrArg}, {-1, 1, 0, api.ErrArg},
		{0, 0, 0, api.ErrArg}, {0, 9, 0, api.ErrArg}, {5, 0, 0, api.ErrArg}, {6, 9, 0, api.ErrArg},
	} {
		got, err := octet.Signed(b, r.at, r.width)
		is(t, call("Signed", b, r.at, r.width), got, r.want)
		is(t, call("error of Signed", b, r.at, r.width), err, r.err)
	}
	for _, r := range []struct {
		b    []byte
		want int64
	}{
		{bytes.Repeat([]byte{255}, 8), -1}, {[]byte{128, 0, 0, 0, 0, 0, 0, 0}, least}, {append([]byte{127}, bytes.Repeat([]byte{255}, 7)...), greatest},
	} {
		got, err := octet.Signed(r.b, 0, 8)
		is(t, call("Signed", r.b, 0, 8), got, r.want)
		is(t, call("error of Signed", r.b, 0, 8), err, api.OK)
	}
}

// texts are those of few bytes, those that are no runes, and those as long as may be.
func texts() []string {
	return []string{"", "a", "\x00", "\xff\xfe", "gyro 6", "\u00e9\u4e16", strings.Repeat("z", 127), strings.Repeat("z", 128), strings.Repeat("\x80", 254), strings.Repeat("q", 254) + "\x00"}
}

// P5.5: the length in a byte, and the bytes; none is left out for what it is.
func TestP5Text(t *testing.T) {
	for _, s := range texts() {
		got, err := octet.Text(s)
		is(t, call("error of Text", s), err, api.OK)
		isBytes(t, call("Text", s), got, append([]byte{byte(len(s))}, s...))
	}
	for _, s := range []string{strings.Repeat("a", 256), strings.Repeat("a", 257), strings.Repeat("a", 512), strings.Repeat("\u00e9", 128)} {
		got, err := octet.Text(s)
		is(t, call("error of Text", s), err, api.ErrLong)
		isBytes(t, call("Text", s), got, nil)
	}
}

// P5.6: Get's error, then what is too short, then the text.
func TestP6ReadText(t *testing.T) {
	b := []byte{2, 'h', 'i', 0, 3, 'a', 'b'}
	for _, r := range []struct {
		b    []byte
		at   int
		want string
		next int
		err  api.Errno
	}{
		{b, 0, "hi", 3, api.OK}, {b, 3, "", 4, api.OK}, {b, 4, "", 0, api.ErrShort}, {b, 5, "", 0, api.ErrShort}, {b, 1, "", 0, api.ErrShort},
		{b, 7, "", 0, api.ErrShort}, {b, 8, "", 0, api.ErrArg}, {b, -1, "", 0, api.ErrArg}, {b, lowest, "", 0, api.ErrArg}, {b, whole, "", 0, api.ErrArg},
		{nil, 0, "", 0, api.ErrShort}, {nil, 1, "", 0, api.ErrArg}, {[]byte{0}, 0, "", 1, api.OK}, {[]byte{1}, 0, "", 0, api.ErrShort}, {[]byte{1, 255}, 0, "\xff", 2, api.OK},
		{roomBehind([]byte{3, 'a', 'b'}), 0, "", 0, api.ErrShort}, {roomBehind([]byte{0, 0}), 2, "", 0, api.ErrShort},
		{append([]byte{255}, make([]byte, 255)...), 0, string(make([]byte, 255)), 256, api.OK}, {append([]byte{255}, make([]byte, 254)...), 0, "", 0, api.ErrShort},
	} {
		got, next, err := octet.ReadText(r.b, r.at)
		is(t, call("ReadText", r.b, r.at), got, r.want)
		is(t, call("place of ReadText", r.b, r.at), next, r.next)
		is(t, call("error of ReadText", r.b, r.at), err, r.err)
	}
}

// P5.7: 0, -1, 1, -2, .. are 0, 1, 2, 3, ..
func TestP7ZigZag(t *testing.T) {
	for n := range int64(5000) {
		is(t, call("Zig", n), octet.Zig(n), uint64(2*n))
		is(t, call("Zig", -n-1), octet.Zig(-n-1), uint64(2*n+1))
	}
	for _, r := range []struct {
		n   int64
		zig uint64
	}{
		{0, 0}, {-1, 1}, {1, 2}, {-2, 3}, {2, 4}, {-64, 127}, {64, 128}, {greatest, math.MaxUint64 - 1}, {least, math.MaxUint64}, {greatest - 1, math.MaxUint64 - 3}, {least + 1, math.MaxUint64 - 2}, {1 << 62, 1 << 63}, {-1 << 62, 1<<63 - 1},
	} {
		is(t, call("Zig", r.n), octet.Zig(r.n), r.zig)
		is(t, call("Zag", r.zig), octet.Zag(r.zig), r.n)
	}
}

// P5.7 and P5.11: each is what the other is undone by.
func TestP7P11ZigZagOfAll(t *testing.T) {
	for _, n := range append(edges(), smallNumbers()...) {
		is(t, call("Zig of Zag", n), octet.Zig(octet.Zag(n)), n)
		is(t, call("Zag of Zig", int64(n)), octet.Zag(octet.Zig(int64(n))), int64(n))
	}
}

// smallNumbers are all that have two of Var's bytes, and some more.
func smallNumbers() []uint64 {
	var l []uint64
	for n := range uint64(1<<14 + 300) {
		l = append(l, n)
	}
	return l
}

// P5.8: seven bits a byte, the lowest first.
func TestP8Var(t *testing.T) {
	for _, r := range []struct {
		n    uint64
		want []byte
	}{
		{0, []byte{0}}, {1, []byte{1}}, {127, []byte{127}}, {128, []byte{128, 1}}, {129, []byte{129, 1}}, {255, []byte{255, 1}}, {256, []byte{128, 2}}, {300, []byte{172, 2}},
		{16383, []byte{255, 127}}, {16384, []byte{128, 128, 1}}, {1<<63 - 1, []byte{255, 255, 255, 255, 255, 255, 255, 255, 127}},
		{1 << 63, []byte{128, 128, 128, 128, 128, 128, 128, 128, 128, 1}}, {math.MaxUint64, []byte{255, 255, 255, 255, 255, 255, 255, 255, 255, 1}},
	} {
		isBytes(t, call("Var", r.n), octet.Var(r.n), r.want)
	}
}

// P5.8 and P5.12: 128 stands in each byte but the last; no byte is 0 at the end but the only one; the bits are the number's.
func TestP8P12VarOfAll(t *testing.T) {
	for _, n := range append(edges(), smallNumbers()...) {
		b, sum := octet.Var(n), new(big.Int)
		for i, x := range b {
			is(t, call("128 in a byte of Var", n, i), x >= 128, i < len(b)-1)
			part := new(big.Int).Lsh(big.NewInt(int64(x%128)), uint(7*i))
			sum.Add(sum, part)
		}
		is(t, call("the bits of Var", n), sum.Cmp(bigOf(n)), 0)
		is(t, call("the length of Var", n), len(b), max(1, (bigOf(n).BitLen()+6)/7))
		got, next, err := octet.ReadVar(b, 0)
		is(t, call("ReadVar of Var", n), got, n)
		is(t, call("place of ReadVar of Var", n), next, len(b))
		is(t, call("error of ReadVar of Var", n), err, api.OK)
	}
}

// P5.9: what is no place, what is too short, what is of a wrong form, and what is read.
func TestP9ReadVar(t *testing.T) {
	full := bytes.Repeat([]byte{128}, 9)
	ten := func(x byte) []byte { return append(append([]byte{}, full...), x) }
	for _, r := range []struct {
		b    []byte
		at   int
		want uint64
		next int
		err  api.Errno
	}{
		{[]byte{5}, 0, 5, 1, api.OK}, {[]byte{0}, 0, 0, 1, api.OK}, {[]byte{127}, 0, 127, 1, api.OK}, {[]byte{172, 2}, 0, 300, 2, api.OK}, {[]byte{172, 2}, 1, 2, 2, api.OK},
		{[]byte{172, 2}, 2, 0, 0, api.ErrShort}, {[]byte{172, 2}, 3, 0, 0, api.ErrArg}, {[]byte{172, 2}, -1, 0, 0, api.ErrArg}, {[]byte{1}, lowest, 0, 0, api.ErrArg}, {[]byte{1}, whole, 0, 0, api.ErrArg},
		{nil, 0, 0, 0, api.ErrShort}, {nil, 1, 0, 0, api.ErrArg}, {nil, -1, 0, 0, api.ErrArg}, {[]byte{128}, 0, 0, 0, api.ErrShort}, {[]byte{255, 255}, 0, 0, 0, api.ErrShort},
		{[]byte{128, 0}, 0, 0, 0, api.ErrForm}, {[]byte{255, 0}, 0, 0, 0, api.ErrForm}, {[]byte{255, 128, 0}, 0, 0, 0, api.ErrForm}, {[]byte{128, 0}, 1, 0, 2, api.OK}, {[]byte{0, 0}, 0, 0, 1, api.OK},
		{full, 0, 0, 0, api.ErrShort}, {full[:8], 0, 0, 0, api.ErrShort}, {ten(1), 0, 1 << 63, 10, api.OK}, {ten(2), 0, 0, 0, api.ErrForm}, {ten(127), 0, 0, 0, api.ErrForm}, {ten(0), 0, 0, 0, api.ErrForm},
		{ten(128), 0, 0, 0, api.ErrForm}, {ten(255), 0, 0, 0, api.ErrForm}, {append(ten(128), 1), 0, 0, 0, api.ErrForm}, {append(ten(128), 128), 0, 0, 0, api.ErrForm}, {append(ten(128), 1), 1, 1 << 63, 11, api.OK}, {append(ten(128), 2), 1, 0, 0, api.ErrForm}, {append(ten(128), 1), 2, 1 << 56, 11, api.OK},
		{append(full[:8:8], 127), 0, 127 << 56, 9, api.OK}, {append(full[:8:8], 2), 0, 2 << 56, 9, api.OK},
		{roomBehind([]byte{128}), 0, 0, 0, api.ErrShort}, {roomBehind(nil), 0, 0, 0, api.ErrShort}, {append([]byte{7, 7}, ten(1)...), 2, 1 << 63, 12, api.OK},
	} {
		got, next, err := octet.ReadVar(r.b, r.at)
		is(t, call("ReadVar", r.b, r.at), got, r.want)
		is(t, call("place of ReadVar", r.b, r.at), next, r.next)
		is(t, call("error of ReadVar", r.b, r.at), err, r.err)
	}
}

// readVar reads as the promise's words say, but tells by the number's size, and not by the tenth byte, that it has no room.
func readVar(b []byte) (uint64, int, api.Errno) {
	sum := new(big.Int)
	for i, x := range b {
		if i == 10 {
			break
		}
		sum.Add(sum, new(big.Int).Lsh(big.NewInt(int64(x%128)), uint(7*i)))
		switch {
		case x >= 128:
			continue
		case x == 0 && i > 0 || !sum.IsUint64():
			return 0, 0, api.ErrForm
		}
		return sum.Uint64(), i + 1, api.OK
	}
	if len(b) >= 10 {
		return 0, 0, api.ErrForm
	}
	return 0, 0, api.ErrShort
}

// eachEnding calls f with lists of up to 12 bytes: some that are not the last, and then any three.
func eachEnding(f func(b []byte)) {
	ends := []byte{0, 1, 2, 3, 64, 126, 127, 128, 129, 254, 255}
	for long := range 10 {
		for _, x := range []byte{128, 129, 192, 255} {
			b := bytes.Repeat([]byte{x}, long)
			f(b)
			for _, p := range ends {
				f(append(b, p))
				for _, q := range ends {
					f(append(b, p, q))
					for _, r := range ends {
						f(append(b, p, q, r))
					}
				}
			}
		}
	}
}

// P5.9 and P5.12: all kinds of bytes; what is read is what Var writes.
func TestP9P12ReadVarOfAll(t *testing.T) {
	eachEnding(func(b []byte) {
		want, wantNext, wantErr := readVar(b)
		got, next, err := octet.ReadVar(b, 0)
		if got != want || next != wantNext || err != wantErr {
			t.Fatalf("ReadVar of %v: %d, %d, error %d, want %d, %d, error %d", b, got, next, err, want, wantNext, wantErr)
		}
		if err == api.OK && !bytes.Equal(octet.Var(got), b[:next]) {
			t.Fatalf("Var of %d: %v, but it was read from %v", got, octet.Var(got), b[:next])
		}
	})
}

// P5.10: the bits of all bytes.
func TestP10Bits(t *testing.T) {
	is(t, call("Bits"), octet.Bits(nil), 0)
	is(t, call("Bits", []byte{}), octet.Bits([]byte{}), 0)
	for x := range 256 {
		ones := strings.Count(fmt.Sprintf("%b", x), "1")
		is(t, call("Bits", x), octet.Bits([]byte{byte(x)}), ones)
		is(t, call("Bits", 255, x, 0, 1), octet.Bits([]byte{255, byte(x), 0, 1}), 9+ones)
		is(t, call("Bits", x, "with more in the room behind"), octet.Bits(roomBehind([]byte{byte(x)})), ones)
	}
	is(t, call("Bits", "1000 times 255"), octet.Bits(bytes.Repeat([]byte{255}, 1000)), 8000)
}

// P5.11: a number that has room in its width is got as it was put, whatever stands around it.
func TestP11PutGet(t *testing.T) {
	for _, n := range edges() {
		for width := 1; width <= 8; width++ {
			low := new(big.Int).Mod(bigOf(n), power(8*width)).Uint64()
			eachPlace(octet.Put(n, width), func(all []byte, at, end int) {
				got, err := octet.Get(all, at, width)
				if got != low || err != api.OK || end-at != width {
					t.Fatalf("Get of %v at %d, width %d: %d, error %d, want %d", all, at, width, got, err, low)
				}
			})
		}
	}
}

// P5.11, of numbers with a sign.
func TestP11PutSignedSigned(t *testing.T) {
	for _, e := range edges() {
		n := int64(e)
		for width := 1; width <= 8; width++ {
			b, err := octet.PutSigned(n, width)
			if err != api.OK {
				continue
			}
			eachPlace(b, func(all []byte, at, end int) {
				got, err := octet.Signed(all, at, width)
				if got != n || err != api.OK || end-at != width {
					t.Fatalf("Signed of %v at %d, width %d: %d, error %d, want %d", all, at, width, got, err, n)
				}
			})
		}
	}
}

// P5.11, of texts.
func TestP11TextReadText(t *testing.T) {
	for _, s := range texts() {
		b, _ := octet.Text(s)
		eachPlace(b, func(all []byte, at, end int) {
			got, next, err := octet.ReadText(all, at)
			if got != s || next != end || err != api.OK {
				t.Fatalf("ReadText of %v at %d: %q, %d, error %d, want %q, %d", all, at, got, next, err, s, end)
			}
		})
	}
}

// P5.11, of Var's numbers.
func TestP11VarReadVar(t *testing.T) {
	for _, n := range edges() {
		eachPlace(octet.Var(n), func(all []byte, at, end int) {
			got, next, err := octet.ReadVar(all, at)
			if got != n || next != end || err != api.OK {
				t.Fatalf("ReadVar of %v at %d: %d, %d, error %d, want %d, %d", all, at, got, next, err, n, end)
			}
		})
	}
}

// R3: what is handed in, and the room behind its end, stays as it is.
func TestR3HandedIn(t *testing.T) {
	b := roomBehind([]byte{3, 'a', 'b', 200, 200, 1, 0, 9, 9, 9})
	was := append([]byte{}, b[:cap(b)]...)
	for at := -1; at <= len(b)+1; at++ {
		for width := range 10 {
			octet.Get(b, at, width)
			octet.Signed(b, at, width)
		}
		octet.ReadText(b, at)
		octet.ReadVar(b, at)
		octet.Bits(b)
	}
	isBytes(t, call("what was handed in"), b[:cap(b)], was)
}

// R3: what is answered is new memory, each time.
func TestR3Answered(t *testing.T) {
	for _, r := range []struct {
		name string
		make func() []byte
	}{
		{"Put", func() []byte { return octet.Put(0x0102, 2) }},
		{"PutSigned", func() []byte { b, _ := octet.PutSigned(-2, 2); return b }},
		{"Text", func() []byte { b, _ := octet.Text("ab"); return b }},
		{"Text of nothing", func() []byte { b, _ := octet.Text(""); return b }},
		{"Var", func() []byte { return octet.Var(300) }},
		{"Var of 0", func() []byte { return octet.Var(0) }},
	} {
		first := r.make()
		was := append([]byte{}, first...)
		for i := range first[:cap(first)] {
			first[:cap(first)][i] ^= 255
		}
		isBytes(t, call(r.name, "what was changed ahead of it"), r.make(), was)
	}
	b := []byte{2, 'h', 'i'}
	s, _, _ := octet.ReadText(b, 0)
	b[1] = 'H'
	is(t, call("ReadText", "bytes that were changed behind it"), s, "hi")
}
