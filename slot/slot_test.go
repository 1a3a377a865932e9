package slot_test

import (
	"bytes"
	"encoding/binary"
	"encoding/hex"
	"fmt"
	"math"
	"slices"
	"strings"
	"testing"

	"teetotum/api"
	"teetotum/slot"
)

// asked is a call, written out only where it is told.
type asked struct {
	name string
	args []any
}

func call(name string, args ...any) asked { return asked{name, args} }

func (a asked) String() string {
	var words []string
	for _, x := range a.args {
		if b, ok := x.([]byte); ok {
			words = append(words, fmt.Sprintf("% x", b))
			continue
		}
		words = append(words, fmt.Sprintf("%+v", x))
	}
	return a.name + " of " + strings.Join(words, ", ")
}

// is fails if got is not want.
func is[T comparable](t *testing.T, what asked, got, want T) {
	t.Helper()
	if got != want {
		t.Fatalf("%s: %+v, want %+v", what, got, want)
	}
}

// are fails if got has not just want's bytes.
func are(t *testing.T, what asked, got, want []byte) {
	t.Helper()
	if !bytes.Equal(got, want) {
		t.Fatalf("%s: % x, want % x", what, got, want)
	}
}

// written fails if Bytes answers anything but want and no error.
func written(t *testing.T, n api.Note, seq uint32, want []byte) {
	t.Helper()
	b, err := slot.Bytes(n, seq)
	is(t, call("Bytes's error", n, seq), err, api.OK)
	are(t, call("Bytes", n, seq), b, want)
}

// read fails if Read and Seq answer anything but that and no error.
func read(t *testing.T, b []byte, want api.Note, seq uint32) {
	t.Helper()
	n, number, err := slot.Read(b)
	is(t, call("Read's error", b), err, api.OK)
	is(t, call("Read's note", b), n, want)
	is(t, call("Read's number", b), number, seq)
	is(t, call("Seq", b), slot.Seq(b), seq)
}

// refused fails if Read answers anything but that error, or Seq anything but 0.
func refused(t *testing.T, b []byte, want api.Errno) {
	t.Helper()
	n, number, err := slot.Read(b)
	is(t, call("Read's error", b), err, want)
	is(t, call("Read's note beside an error", b), n, api.Note{})
	is(t, call("Read's number beside an error", b), number, 0)
	is(t, call("Seq", b), slot.Seq(b), 0)
}

// sumOf is the sum of b, bit by bit.
func sumOf(b []byte) uint16 {
	sum := uint32(0xffff)
	for _, x := range b {
		sum ^= uint32(x) << 8
		for range 8 {
			sum <<= 1
			if sum&0x10000 != 0 {
				sum ^= 0x11021
			}
		}
	}
	return uint16(sum)
}

// guardOf is the guard of a number, as the chapter has it.
func guardOf(seq uint32) byte { return byte(seq%250) + 1 }

// laid is twelve bytes as the chapter has a slot, of any numbers that are bytes, with these guards and a sum that fits.
func laid(first byte, seq uint32, excluded, inhibited, mode, version, last byte) []byte {
	b := binary.BigEndian.AppendUint32([]byte{first}, seq)
	b = append(b, excluded, inhibited, mode, version)
	return append(binary.BigEndian.AppendUint16(b, sumOf(b)), last)
}

// slotOf is a right note's slot, as the chapter has it.
func slotOf(n api.Note, seq uint32) []byte {
	return laid(guardOf(seq), seq, byte(n.Excluded), byte(n.Inhibited), byte(n.Mode), 1, guardOf(seq))
}

// wrongOf is what is wrong with b, in the chapter's order.
func wrongOf(b []byte) api.Errno {
	if len(b) != 12 {
		return api.ErrShort
	}
	guard := guardOf(binary.BigEndian.Uint32(b[1:]))
	if b[0] != guard || b[11] != guard {
		return api.ErrForm
	}
	if sumOf(b[:9]) != binary.BigEndian.Uint16(b[9:]) {
		return api.ErrSum
	}
	if b[5] > 63 || b[6] > 63 || b[7] > 5 || b[8] != 1 {
		return api.ErrForm
	}
	return api.OK
}

// seqs are numbers near edges: of the guards, of bytes, and of all numbers.
var seqs = []uint32{
	0, 1, 2, 3, 248, 249, 250, 251, 252, 255, 256, 257, 498, 499, 500, 501, 65535, 65536, 65537, 1<<24 - 1, 1 << 24, 0x01020304,
	1<<31 - 1, 1 << 31, 1<<31 + 1, 0xfefdfcfb, 4294967249, 4294967250, math.MaxUint32 - 1, math.MaxUint32,
}

// notes are right ones, with each field at its ends and between.
func notes() []api.Note {
	var l []api.Note
	for _, excluded := range []int{0, 1, 32, 42, 63} {
		for _, inhibited := range []int{0, 1, 21, 32, 63} {
			for mode := api.ModeFull; mode <= api.ModeLost; mode++ {
				l = append(l, api.Note{Excluded: excluded, Inhibited: inhibited, Mode: mode})
			}
		}
	}
	return l
}

// wrongSets are numbers that are no set of gyros.
var wrongSets = []int{math.MinInt, -256, -64, -1, 64, 65, 128, 255, 256, 257, 1 << 32, 1<<32 + 1, math.MaxInt}

// wrongModes are numbers that are no mode.
var wrongModes = []int{math.MinInt, -256, -1, 6, 7, 255, 256, 257, 1 << 32, 1<<32 + 1, math.MaxInt}

// wrongNotes are notes that may not be, each by one field and by all.
func wrongNotes() []api.Note {
	var l []api.Note
	for _, set := range wrongSets {
		l = append(l, api.Note{Excluded: set}, api.Note{Excluded: set, Inhibited: 63, Mode: 5})
		l = append(l, api.Note{Inhibited: set}, api.Note{Excluded: 63, Inhibited: set, Mode: 5})
	}
	for _, mode := range wrongModes {
		l = append(l, api.Note{Mode: mode}, api.Note{Excluded: 63, Inhibited: 63, Mode: mode})
	}
	return append(l, api.Note{Excluded: -1, Inhibited: -1, Mode: -1}, api.Note{Excluded: 64, Inhibited: 64, Mode: 6})
}

// P18.1: right are just the notes whose numbers are sets and a mode.
func TestP1Right(t *testing.T) {
	for excluded := -3; excluded <= 67; excluded++ {
		for inhibited := -3; inhibited <= 67; inhibited++ {
			for mode := -2; mode <= 8; mode++ {
				n := api.Note{Excluded: excluded, Inhibited: inhibited, Mode: mode}
				want := excluded >= 0 && excluded <= 63 && inhibited >= 0 && inhibited <= 63 && mode >= 0 && mode <= 5
				is(t, call("Right", n), slot.Right(n), want)
			}
		}
	}
	for _, n := range wrongNotes() {
		is(t, call("Right", n), slot.Right(n), false)
	}
}

// P18.1, P18.2: guards go from 1 to 250, and begin anew behind that.
func TestP1Guards(t *testing.T) {
	for _, c := range []struct {
		seq   uint32
		guard byte
	}{
		{0, 1}, {1, 2}, {248, 249}, {249, 250}, {250, 1}, {251, 2}, {499, 250}, {500, 1}, {65535, 36}, {1<<31 - 1, 148}, {1 << 31, 149},
		{4294967249, 250}, {4294967250, 1}, {math.MaxUint32, 46},
	} {
		b, err := slot.Bytes(api.Note{}, c.seq)
		is(t, call("Bytes's error", api.Note{}, c.seq), err, api.OK)
		is(t, call("the first byte of Bytes", c.seq), b[0], c.guard)
		is(t, call("the last byte of Bytes", c.seq), b[11], c.guard)
	}
	for seq := range uint32(1000) {
		b, _ := slot.Bytes(api.Note{Mode: 2}, seq)
		is(t, call("the guards of Bytes", seq), [2]byte{b[0], b[11]}, [2]byte{guardOf(seq), guardOf(seq)})
	}
}

// P18.2: bytes that are written out, with their sums.
func TestP2BytesWrittenOut(t *testing.T) {
	for _, c := range []struct {
		note api.Note
		seq  uint32
		want string
	}{
		{api.Note{}, 0, "010000000000000001e37001"},
		{api.Note{}, 1, "020000000100000001646502"},
		{api.Note{Excluded: 63, Inhibited: 62, Mode: 5}, 251, "02000000fb3f3e0501c4cb02"},
		{api.Note{Excluded: 1, Inhibited: 2, Mode: 3}, 0x01020304, "3d01020304010203018f333d"},
		{api.Note{Excluded: 32, Mode: 1}, math.MaxUint32, "2effffffff20000101e7892e"},
	} {
		want, err := hex.DecodeString(c.want)
		if err != nil || len(want) != 12 {
			t.Fatalf("%q is not twelve bytes", c.want)
		}
		written(t, c.note, c.seq, want)
		read(t, want, c.note, c.seq)
	}
}

// P18.2: every right note, and numbers near all edges.
func TestP2Bytes(t *testing.T) {
	for excluded := range 64 {
		for inhibited := range 64 {
			for mode := range 6 {
				n := api.Note{Excluded: excluded, Inhibited: inhibited, Mode: mode}
				seq := seqs[(excluded*64+inhibited*6+mode)%len(seqs)]
				written(t, n, seq, slotOf(n, seq))
			}
		}
	}
	for _, n := range notes() {
		for _, seq := range seqs {
			written(t, n, seq, slotOf(n, seq))
		}
	}
}

// P18.2: a note that is not right has no bytes.
func TestP2NotRight(t *testing.T) {
	for _, n := range wrongNotes() {
		for _, seq := range []uint32{0, 1, 251, math.MaxUint32} {
			b, err := slot.Bytes(n, seq)
			is(t, call("Bytes's error", n, seq), err, api.ErrArg)
			are(t, call("Bytes beside an error", n, seq), b, nil)
		}
	}
}

// P18.3, P18.4: there are just twelve bytes, or it is none.
func TestP3Long(t *testing.T) {
	whole := slotOf(api.Note{Excluded: 3, Inhibited: 4, Mode: 2}, 7)
	refused(t, nil, api.ErrShort)
	for n := range 12 {
		refused(t, whole[:n], api.ErrShort)
		refused(t, make([]byte, n), api.ErrShort)
		refused(t, whole[12-n:], api.ErrShort)
	}
	read(t, whole, api.Note{Excluded: 3, Inhibited: 4, Mode: 2}, 7)
	refused(t, append(slices.Clone(whole), 0), api.ErrShort)
	refused(t, append(slices.Clone(whole), whole[11]), api.ErrShort)
	refused(t, append([]byte{0}, whole...), api.ErrShort)
	refused(t, append(slices.Clone(whole), whole...), api.ErrShort)
	refused(t, make([]byte, 4096), api.ErrShort)
}

// P18.3, P18.4: the first and the last byte are the guard of the number; else it is ErrForm, whatever the sum.
func TestP3Guards(t *testing.T) {
	for _, seq := range seqs {
		right := guardOf(seq)
		for guard := range 256 {
			x := byte(guard)
			if x == right {
				continue
			}
			refused(t, laid(x, seq, 1, 2, 3, 1, right), api.ErrForm)
			refused(t, laid(right, seq, 1, 2, 3, 1, x), api.ErrForm)
			refused(t, laid(x, seq, 1, 2, 3, 1, x), api.ErrForm)
		}
		read(t, laid(right, seq, 1, 2, 3, 1, right), api.Note{Excluded: 1, Inhibited: 2, Mode: 3}, seq)
	}
}

// P18.3: a guard that is wrong comes ahead of a sum that does not fit, and that ahead of a note or a version that is not right.
func TestP3OrderOfErrors(t *testing.T) {
	turned := func(b []byte, at int) []byte {
		b[at] ^= 0x40
		return b
	}
	refused(t, turned(laid(9, 7, 1, 2, 3, 1, 8), 9), api.ErrForm)
	refused(t, turned(laid(8, 7, 1, 2, 3, 1, 9), 10), api.ErrForm)
	refused(t, turned(laid(9, 7, 64, 64, 6, 2, 9), 9), api.ErrForm)
	refused(t, turned(laid(8, 7, 1, 2, 3, 1, 8), 9), api.ErrSum)
	refused(t, turned(laid(8, 7, 1, 2, 3, 1, 8), 10), api.ErrSum)
	refused(t, turned(laid(8, 7, 64, 2, 3, 1, 8), 9), api.ErrSum)
	refused(t, turned(laid(8, 7, 1, 2, 3, 2, 8), 10), api.ErrSum)
	refused(t, laid(8, 7, 64, 2, 3, 1, 8), api.ErrForm)
	refused(t, laid(8, 7, 1, 2, 3, 2, 8), api.ErrForm)
	refused(t, make([]byte, 12), api.ErrForm)
	refused(t, bytes.Repeat([]byte{255}, 12), api.ErrForm)
	refused(t, append([]byte{1}, append(make([]byte, 10), 1)...), api.ErrSum)
}

// P18.3, P18.4: a slot whose guards and sum are right is one if, and only if, its note is right and its version 1.
func TestP3NoteAndVersion(t *testing.T) {
	for at, most := range map[int]byte{5: 63, 6: 63, 7: 5, 8: 1} {
		for x := range 256 {
			part := [4]byte{5, 9, 2, 1}
			part[at-5] = byte(x)
			b := laid(1, 500, part[0], part[1], part[2], part[3], 1)
			if byte(x) > most || at == 8 && x != 1 {
				refused(t, b, api.ErrForm)
				continue
			}
			read(t, b, api.Note{Excluded: int(part[0]), Inhibited: int(part[1]), Mode: int(part[2])}, 500)
		}
	}
	refused(t, laid(1, 0, 255, 255, 255, 255, 1), api.ErrForm)
}

// P18.3, P18.4: whatever any one byte of a slot is turned to, it is refused as the chapter says.
func TestP3AnyByte(t *testing.T) {
	for _, seq := range []uint32{0, 7, 250, 251, 0xfefdfcfb, math.MaxUint32} {
		whole := slotOf(api.Note{Excluded: 33, Inhibited: 4, Mode: 5}, seq)
		for at := range whole {
			for x := range 256 {
				b := slices.Clone(whole)
				b[at] = byte(x)
				if b[at] != whole[at] {
					refused(t, b, wrongOf(b))
				}
			}
		}
	}
}

// P18.3: a slot of which one bit, or two, are turned is none.
func TestP3BitsTurned(t *testing.T) {
	for _, seq := range []uint32{0, 250, 1 << 31} {
		whole := slotOf(api.Note{Excluded: 3, Mode: 2}, seq)
		for i := range 96 {
			for k := i; k < 96; k++ {
				b := slices.Clone(whole)
				b[i/8] ^= 1 << (i % 8)
				if k != i {
					b[k/8] ^= 1 << (k % 8)
				}
				want := wrongOf(b)
				if want == api.OK {
					t.Fatalf("% x and % x are both slots", b, whole)
				}
				refused(t, b, want)
			}
		}
	}
}

// P18.5: what is written is read.
func TestP5Written(t *testing.T) {
	for _, n := range notes() {
		for _, seq := range seqs {
			b, err := slot.Bytes(n, seq)
			is(t, call("Bytes's error", n, seq), err, api.OK)
			is(t, call("how long Bytes is", n, seq), len(b), api.SlotLong)
			read(t, b, n, seq)
		}
	}
}

// P18.5: what is read is written so: of slots whose note, version and guards may be anything, with a sum that fits.
func TestP5Read(t *testing.T) {
	taken := 0
	for _, seq := range []uint32{0, 249, 250, 0x01020304} {
		for i := range 60000 {
			g := guardOf(seq)
			b := laid(g, seq, byte(i%71), byte(i/7%69), byte(i/11%8), byte(i/13%3), g+byte(i/17%2))
			n, number, err := slot.Read(b)
			is(t, call("Read's error", b), err, wrongOf(b))
			if err != api.OK {
				continue
			}
			taken++
			again, err := slot.Bytes(n, number)
			is(t, call("Bytes's error", n, number), err, api.OK)
			are(t, call("Bytes", n, number), again, b)
		}
	}
	if taken < 1000 {
		t.Fatalf("just %d slots were taken", taken)
	}
}

// P18.6: the begin of one slot and the end of another with another guard, put together anywhere but at an end, are none.
func TestP6PutTogether(t *testing.T) {
	some := []api.Note{{}, {Excluded: 1, Mode: 1}, {Excluded: 63, Inhibited: 63, Mode: 5}}
	for _, seqA := range seqs {
		for _, seqB := range seqs {
			if guardOf(seqA) == guardOf(seqB) {
				continue
			}
			for i, a := range some {
				b := some[(i+1)%len(some)]
				begin, _ := slot.Bytes(a, seqA)
				end, _ := slot.Bytes(b, seqB)
				for cut := 1; cut < 12; cut++ {
					refused(t, slices.Concat(begin[:cut], end[cut:]), api.ErrForm)
				}
				read(t, slices.Concat(begin[:0], end[0:]), b, seqB)
				read(t, slices.Concat(begin[:12], end[12:]), a, seqA)
			}
		}
	}
}

// P18.6: so it is where a number is written over the one ahead of it, wherever the write is torn.
func TestP6Torn(t *testing.T) {
	for seq := range uint32(600) {
		old, _ := slot.Bytes(api.Note{Excluded: 1}, seq)
		now, _ := slot.Bytes(api.Note{Excluded: 3, Mode: 1}, seq+1)
		for cut := 1; cut < 12; cut++ {
			refused(t, slices.Concat(now[:cut], old[cut:]), api.ErrForm)
		}
	}
}

// R3: what is read is not changed, nor what lies behind its end; what is written is new memory.
func TestMemory(t *testing.T) {
	room := append(slotOf(api.Note{Excluded: 3}, 9), 1, 2, 3)
	kept := slices.Clone(room)
	read(t, room[:12], api.Note{Excluded: 3}, 9)
	refused(t, room[:11], api.ErrShort)
	refused(t, room[1:13], api.ErrForm)
	are(t, call("what Read was handed"), room, kept)

	n := api.Note{Excluded: 3, Inhibited: 1, Mode: 2}
	one, _ := slot.Bytes(n, 9)
	clear(one)
	_ = append(one, 7)
	written(t, n, 9, slotOf(n, 9))
}

// The chapter's example: of the number 251 the guard is 2.
func TestExample(t *testing.T) {
	b, err := slot.Bytes(api.Note{}, 251)
	is(t, call("Bytes's error", api.Note{}, 251), err, api.OK)
	is(t, call("the guard", 251), b[0], 2)
	is(t, call("Seq", b), slot.Seq(b), 251)
}
