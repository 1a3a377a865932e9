package frame_test

import (
	"bytes"
	"encoding/binary"
	"encoding/hex"
	"fmt"
	"math"
	"slices"
	"strings"
	"testing"

	"teetotum/api"
	"teetotum/frame"
)

// asked is a call, written out only where it is told.
type asked struct {
	name string
	args []any
}

func call(name string, args ...any) asked { return asked{name, args} }

func (a asked) String() string {
	var words []string
	for _, x := range a.args {
		if b, ok := x.([]byte); ok {
			words = append(words, fmt.Sprintf("% x", b))
			continue
		}
		words = append(words, fmt.Sprintf("%+v", x))
	}
	return a.name + " of " + strings.Join(words, ", ")
}

// is fails if got is not want.
func is[T comparable](t *testing.T, what asked, got, want T) {
	t.Helper()
	if got != want {
		t.Fatalf("%s: %+v, want %+v", what, got, want)
	}
}

// are fails if got has not just want's bytes.
func are(t *testing.T, what asked, got, want []byte) {
	t.Helper()
	if !bytes.Equal(got, want) {
		t.Fatalf("%s: % x, want % x", what, got, want)
	}
}

// written fails if Bytes answers anything but want and no error.
func written(t *testing.T, f api.Frame, want []byte) {
	t.Helper()
	b, err := frame.Bytes(f)
	is(t, call("Bytes", f), err, api.OK)
	are(t, call("Bytes", f), b, want)
}

// read fails if Read answers anything but want and no error.
func read(t *testing.T, b []byte, want api.Frame) {
	t.Helper()
	f, err := frame.Read(b)
	is(t, call("Read", b), err, api.OK)
	is(t, call("Read", b), f, want)
}

// refused fails if Read answers anything but that error.
func refused(t *testing.T, b []byte, want api.Errno) {
	t.Helper()
	f, err := frame.Read(b)
	is(t, call("Read", b), err, want)
	is(t, call("Read", b), f, api.Frame{})
}

// sumOf is the sum of b, bit by bit.
func sumOf(b []byte) uint16 {
	sum := uint32(0xffff)
	for _, x := range b {
		sum ^= uint32(x) << 8
		for range 8 {
			sum <<= 1
			if sum >= 1<<16 {
				sum ^= 0x11021
			}
		}
	}
	return uint16(sum)
}

// laid is bytes in a frame's form, whatever they tell, with a sum that fits.
func laid(source, count, well byte, value uint32) []byte {
	b := []byte{0xa5, 0x5a, source, count, well}
	b = binary.BigEndian.AppendUint32(b, value)
	return binary.BigEndian.AppendUint16(b, sumOf(b[2:]))
}

// fromHex is the bytes of hexadecimal digits, blanks left out.
func fromHex(s string) []byte {
	b, err := hex.DecodeString(strings.ReplaceAll(s, " ", ""))
	if err != nil {
		panic(err)
	}
	return b
}

// joined is a and b, one behind the other, as new memory.
func joined(a, b []byte) []byte { return append(slices.Clone(a), b...) }

// examples are frames with their bytes, reckoned by other means.
func examples() map[api.Frame][]byte {
	return map[api.Frame][]byte{
		{}:           fromHex("a5 5a 00 00 00 00 00 00 00 f1 ce"),
		{Well: true}: fromHex("a5 5a 00 00 01 00 00 00 00 5b 9f"),
		{Source: 11, Count: 255, Well: true, Value: 1<<31 - 1}: fromHex("a5 5a 0b ff 01 7f ff ff ff 00 f8"),
		{Source: 11, Count: 255, Value: -1 << 31}:              fromHex("a5 5a 0b ff 00 80 00 00 00 33 66"),
		{Source: 3, Count: 7, Well: true, Value: -2}:           fromHex("a5 5a 03 07 01 ff ff ff fe c2 b2"),
		{Source: 6, Count: 128, Well: true, Value: 0x01020304}: fromHex("a5 5a 06 80 01 01 02 03 04 23 99"),
		{Source: 10, Count: 1, Value: -1}:                      fromHex("a5 5a 0a 01 00 ff ff ff ff de ef"),
		{Source: 5, Count: 254, Well: true, Value: 100000}:     fromHex("a5 5a 05 fe 01 00 01 86 a0 00 c3"),
	}
}

// edges are values at what a frame has room for, at 0 and between.
func edges() []int64 {
	l := []int64{0, 1, -1, 127, 128, 255, 256, 257, -128, -255, -256, -257, 65535, 65536, 0x01020304, 0x5aa55aa5, 1<<31 - 2, 1<<31 - 1, -1<<31 + 1, -1 << 31}
	for bit := range 31 {
		l = append(l, 1<<bit, -1<<bit, 1<<bit-1)
	}
	return l
}

// some are right frames: all sources and counts, and values at edges, well and not.
func some() []api.Frame {
	var l []api.Frame
	values := edges()
	for source := range 12 {
		for count := range 256 {
			value := values[(source*31+count)%len(values)]
			l = append(l, api.Frame{Source: source, Count: count, Well: true, Value: value}, api.Frame{Source: source, Count: count, Value: -1 - value})
		}
	}
	for _, value := range values {
		for _, well := range []bool{false, true} {
			l = append(l, api.Frame{Source: 4, Count: 90, Well: well, Value: value})
		}
	}
	return l
}

// wrong are frames of which one part may not be, or more.
func wrong() []api.Frame {
	var l []api.Frame
	for _, source := range []int{-1, 12, 13, 16, 127, 128, 255, 256, 256 + 5, -256, -251, 1 << 32, 1<<32 + 5, math.MaxInt, math.MinInt} {
		l = append(l, api.Frame{Source: source}, api.Frame{Source: source, Count: 255, Well: true, Value: -7})
	}
	for _, count := range []int{-1, 256, 257, 511, 512, -255, -256, 1 << 16, 1 << 32, 1<<32 + 9, math.MaxInt, math.MinInt} {
		l = append(l, api.Frame{Count: count}, api.Frame{Source: 11, Count: count, Well: true, Value: 7})
	}
	for _, value := range []int64{1 << 31, 1<<31 + 1, 1<<32 - 1, 1 << 32, 1<<32 + 1, -1<<31 - 1, -1 << 32, -1<<32 + 1, 1 << 62, math.MaxInt64, math.MinInt64, math.MinInt64 + 1} {
		l = append(l, api.Frame{Value: value}, api.Frame{Source: 11, Count: 255, Well: true, Value: value})
	}
	return append(l,
		api.Frame{Source: 12, Count: 256, Value: 1 << 31},
		api.Frame{Source: -1, Count: -1, Well: true, Value: math.MinInt64},
		api.Frame{Source: math.MaxInt, Count: math.MinInt, Value: math.MaxInt64})
}

// P14.1: each part is where it may be.
func TestP1Right(t *testing.T) {
	for _, f := range some() {
		is(t, call("Right", f), frame.Right(f), true)
	}
	for f := range examples() {
		is(t, call("Right", f), frame.Right(f), true)
	}
	for _, f := range wrong() {
		is(t, call("Right", f), frame.Right(f), false)
	}
}

// P14.1, of all sources and counts near those that may be.
func TestP1RightOfAll(t *testing.T) {
	for source := -300; source <= 600; source++ {
		for _, count := range []int{-1, 0, 7, 255, 256} {
			f := api.Frame{Source: source, Count: count, Well: source%2 == 0}
			is(t, call("Right", f), frame.Right(f), source >= 0 && source < 12 && count >= 0 && count <= 255)
		}
	}
	for count := -600; count <= 1200; count++ {
		for _, source := range []int{-1, 0, 5, 11, 12} {
			f := api.Frame{Source: source, Count: count, Value: int64(count)}
			is(t, call("Right", f), frame.Right(f), source >= 0 && source < 12 && count >= 0 && count <= 255)
		}
	}
}

// P14.2: a5, 5a, whatever is behind, and nothing else.
func TestP2Begins(t *testing.T) {
	for _, r := range []struct {
		b    []byte
		want bool
	}{
		{nil, false},
		{[]byte{}, false},
		{[]byte{0xa5}, false},
		{[]byte{0x5a}, false},
		{[]byte{0xa5, 0x5a}, true},
		{[]byte{0x5a, 0xa5}, false},
		{[]byte{0xa5, 0xa5}, false},
		{[]byte{0x5a, 0x5a}, false},
		{[]byte{0xa5, 0xa5, 0x5a}, false},
		{[]byte{0, 0xa5, 0x5a}, false},
		{[]byte{0xa5, 0x5a, 0}, true},
		{[]byte{0xa5, 0x5a, 255, 255, 255, 255, 255, 255, 255, 255, 255, 255, 255}, true},
		{[]byte{0xa5, 0x5a}[:1], false}, // what is behind its end does not count
	} {
		is(t, call("Begins", r.b), frame.Begins(r.b), r.want)
	}
}

// P14.2, of all two bytes.
func TestP2BeginsOfAll(t *testing.T) {
	for x := range 1 << 16 {
		b := []byte{byte(x >> 8), byte(x)}
		is(t, call("Begins", b), frame.Begins(b), x == 0xa55a)
		b = append(b, 0xa5, 0x5a)
		is(t, call("Begins", b), frame.Begins(b), x == 0xa55a)
	}
}

// P14.3: a frame's bytes.
func TestP3Bytes(t *testing.T) {
	for f, want := range examples() {
		written(t, f, want)
	}
	for _, f := range some() {
		well := byte(0)
		if f.Well {
			well = 1
		}
		written(t, f, laid(byte(f.Source), byte(f.Count), well, uint32(f.Value)))
	}
}

// P14.3: of no right frame there are none.
func TestP3BytesOfWrong(t *testing.T) {
	for _, f := range wrong() {
		b, err := frame.Bytes(f)
		is(t, call("Bytes", f), err, api.ErrArg)
		are(t, call("Bytes", f), b, nil)
	}
}

// The chapter's example: a frame begins with a5, 5a, and its source.
func TestP3Example(t *testing.T) {
	for source := range 12 {
		f := api.Frame{Source: source, Count: 200, Well: true, Value: -3}
		b, err := frame.Bytes(f)
		is(t, call("Bytes", f), err, api.OK)
		is(t, call("length of Bytes", f), len(b), api.FrameLong)
		are(t, call("Bytes", f), b[:3], []byte{0xa5, 0x5a, byte(source)})
	}
}

// P14.4: the frame that the bytes are.
func TestP4Read(t *testing.T) {
	for want, b := range examples() {
		read(t, b, want)
	}
	for _, value := range edges() {
		read(t, laid(9, 33, 1, uint32(value)), api.Frame{Source: 9, Count: 33, Well: true, Value: value})
		read(t, laid(0, 255, 0, uint32(value)), api.Frame{Count: 255, Value: value})
	}
}

// P14.4: what is behind the first 11 bytes does not count.
func TestP4ReadFirst(t *testing.T) {
	for want, b := range examples() {
		for _, behind := range [][]byte{{0}, {255}, {0xa5, 0x5a}, b, make([]byte, 300)} {
			read(t, joined(b, behind), want)
		}
		for _, ahead := range [][]byte{{0}, {0xa5}, {0x5a}} {
			refused(t, joined(ahead, b), api.ErrForm)
		}
	}
}

// P14.4: fewer than 11 bytes, whatever they are.
func TestP4ReadShort(t *testing.T) {
	refused(t, nil, api.ErrShort)
	for _, b := range examples() {
		for long := range 11 {
			refused(t, b[:long], api.ErrShort) // what is behind its end does not count
			refused(t, slices.Clone(b[:long]), api.ErrShort)
			refused(t, make([]byte, long), api.ErrShort)
			refused(t, bytes.Repeat([]byte{0xa5}, long), api.ErrShort)
		}
	}
}

// P14.4: they begin otherwise, whatever the sum is.
func TestP4ReadBegins(t *testing.T) {
	for _, b := range [][]byte{laid(3, 7, 1, 9), laid(12, 7, 1, 9), laid(3, 7, 2, 9)} {
		for x := range 1 << 16 {
			if x == 0xa55a {
				continue
			}
			b[0], b[1] = byte(x>>8), byte(x)
			refused(t, b, api.ErrForm)
		}
		b[10]++
		refused(t, b, api.ErrForm)
	}
	refused(t, make([]byte, 11), api.ErrForm)
}

// P14.4: any sum but one does not fit, also where the frame is not right.
func TestP4ReadSum(t *testing.T) {
	for _, b := range [][]byte{laid(3, 7, 1, 9), laid(12, 7, 1, 9), laid(3, 7, 2, 9), laid(255, 255, 255, 1<<32-1)} {
		fits := binary.BigEndian.Uint16(b[9:])
		for sum := range 1 << 16 {
			if sum == int(fits) {
				continue
			}
			binary.BigEndian.PutUint16(b[9:], uint16(sum))
			refused(t, b, api.ErrSum)
		}
	}
}

// P14.4: a sum that is not over these seven bytes alone does not fit.
func TestP4ReadSumOfOthers(t *testing.T) {
	b := laid(3, 7, 1, 9)
	for from := range 9 {
		for to := from; to <= 9; to++ {
			if from == 2 && to == 9 {
				continue
			}
			other := binary.BigEndian.AppendUint16(slices.Clone(b[:9]), sumOf(b[from:to]))
			refused(t, other, api.ErrSum)
		}
	}
}

// P14.4: bytes with a sum that fits, of all sources and all bytes of Well.
func TestP4ReadForm(t *testing.T) {
	for source := range 256 {
		for well := range 256 {
			b := laid(byte(source), 7, byte(well), 1<<32-5)
			if source < 12 && well < 2 {
				read(t, b, api.Frame{Source: source, Count: 7, Well: well == 1, Value: -5})
				continue
			}
			refused(t, b, api.ErrForm)
		}
	}
}

// P14.4: all counts may be.
func TestP4ReadCount(t *testing.T) {
	for count := range 256 {
		read(t, laid(11, byte(count), 0, 5), api.Frame{Source: 11, Count: count, Value: 5})
	}
}

// P14.5: what is written is read.
func TestP5WrittenIsRead(t *testing.T) {
	for _, f := range some() {
		b, err := frame.Bytes(f)
		is(t, call("Bytes", f), err, api.OK)
		read(t, b, f)
	}
}

// P14.5: what is read is written so.
func TestP5ReadIsWritten(t *testing.T) {
	for source := range 14 {
		for well := range 3 {
			for _, value := range edges() {
				b := laid(byte(source), byte(value), byte(well), uint32(value))
				if f, err := frame.Read(b); err == api.OK {
					written(t, f, b)
				}
			}
		}
	}
}

// P14.6: whichever bit is turned, it is no frame.
func TestP6OneBitTurned(t *testing.T) {
	for _, f := range some() {
		b, err := frame.Bytes(f)
		is(t, call("Bytes", f), err, api.OK)
		for bit := range 8 * len(b) {
			b[bit/8] ^= 1 << (bit % 8)
			want := api.ErrSum
			if bit < 16 {
				want = api.ErrForm
			}
			refused(t, b, want)
			b[bit/8] ^= 1 << (bit % 8)
		}
	}
}

// R3: what is handed in stays as it was, the room behind its end too, and each answer is new memory.
func TestMemory(t *testing.T) {
	for f, b := range examples() {
		for long := range len(b) + 1 {
			whole := joined(b, []byte{1, 2, 3, 4, 5, 6, 7, 8})
			before := slices.Clone(whole)
			frame.Read(whole[:long])
			frame.Begins(whole[:long])
			are(t, call("Read", before), whole, before)
		}
		one, _ := frame.Bytes(f)
		other, _ := frame.Bytes(f)
		clear(one[:cap(one)])
		are(t, call("Bytes", f), other, b)
		written(t, f, b)
	}
}
