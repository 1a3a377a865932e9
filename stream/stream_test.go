package stream_test

import (
	"bytes"
	"encoding/binary"
	"encoding/hex"
	"fmt"
	"math"
	"slices"
	"strings"
	"testing"

	"teetotum/api"
	"teetotum/stream"
)

// asked is a call, written out only where it is told.
type asked struct {
	name string
	args []any
}

func call(name string, args ...any) asked { return asked{name, args} }

func (a asked) String() string {
	var words []string
	for _, x := range a.args {
		if b, ok := x.([]byte); ok {
			words = append(words, fmt.Sprintf("[% x]", b))
			continue
		}
		words = append(words, fmt.Sprintf("%+v", x))
	}
	return a.name + " of " + strings.Join(words, ", ")
}

// is fails if got is not want.
func is[T comparable](t *testing.T, what asked, got, want T) {
	t.Helper()
	if got != want {
		t.Fatalf("%s: %+v, want %+v", what, got, want)
	}
}

// are fails if got has not just what want has, in its order.
func are[T comparable](t *testing.T, what asked, got, want []T) {
	t.Helper()
	if !slices.Equal(got, want) {
		t.Fatalf("%s: %+v, want %+v", what, got, want)
	}
}

// told is what is to be told of bytes.
type told struct {
	frames []api.Frame
	end    int
	lost   int
	gaps   [][2]int
}

// holds fails if Split, Lost or Gaps tell anything else of b, or Feed of b with nothing ahead.
func holds(t *testing.T, b []byte, want told) {
	t.Helper()
	frames, end, lost := stream.Split(b)
	are(t, call("Split's frames", b), frames, want.frames)
	is(t, call("Split's end", b), end, want.end)
	is(t, call("Split's lost", b), lost, want.lost)
	is(t, call("Lost", b), stream.Lost(b), want.lost)
	are(t, call("Gaps", b), stream.Gaps(b), want.gaps)
	fed(t, nil, b, want)
}

// fed fails if Feed tells anything else of part and b than want is of both, one behind the other.
func fed(t *testing.T, part, b []byte, want told) {
	t.Helper()
	frames, left, lost := stream.Feed(part, b)
	are(t, call("Feed's frames", part, b), frames, want.frames)
	are(t, call("Feed's left", part, b), left, joined(part, b)[want.end:])
	is(t, call("Feed's lost", part, b), lost, want.lost)
}

// joined is all pieces, one behind the other, as new memory.
func joined(pieces ...[]byte) []byte { return slices.Concat(pieces...) }

// sumOf is the sum of b, bit by bit.
func sumOf(b []byte) uint16 {
	sum := uint32(0xffff)
	for _, x := range b {
		sum ^= uint32(x) << 8
		for range 8 {
			sum <<= 1
			if sum >= 1<<16 {
				sum ^= 0x11021
			}
		}
	}
	return uint16(sum)
}

// laid is bytes in a frame's form, whatever they tell, with a sum that fits.
func laid(source, count, well byte, value uint32) []byte {
	b := []byte{0xa5, 0x5a, source, count, well}
	b = binary.BigEndian.AppendUint32(b, value)
	return binary.BigEndian.AppendUint16(b, sumOf(b[2:]))
}

// sent is what the source sends of f.
func sent(f api.Frame) []byte {
	well := byte(0)
	if f.Well {
		well = 1
	}
	return laid(byte(f.Source), byte(f.Count), well, uint32(f.Value))
}

// isFrame is the frame that b is, if its 11 bytes are one.
func isFrame(b []byte) (api.Frame, bool) {
	if len(b) != 11 || b[0] != 0xa5 || b[1] != 0x5a || b[2] > 11 || b[4] > 1 {
		return api.Frame{}, false
	}
	if binary.BigEndian.Uint16(b[9:]) != sumOf(b[2:9]) {
		return api.Frame{}, false
	}
	return api.Frame{Source: int(b[2]), Count: int(b[3]), Well: b[4] == 1, Value: int64(int32(binary.BigEndian.Uint32(b[5:])))}, true
}

// reckoned is what is to be told of b by the chapter's words.
func reckoned(b []byte) told {
	var w told
	in := make([]bool, len(b))
	for w.end < len(b) {
		left := len(b) - w.end
		if left < 11 && (b[w.end] == 0xa5 && (left == 1 || b[w.end+1] == 0x5a)) {
			break
		}
		if left >= 11 {
			if f, ok := isFrame(b[w.end : w.end+11]); ok {
				w.frames = append(w.frames, f)
				for i := range 11 {
					in[w.end+i] = true
				}
				w.end += 11
				continue
			}
		}
		w.end++
		w.lost++
	}
	for i := range b {
		switch {
		case in[i]:
		case i > 0 && !in[i-1]:
			w.gaps[len(w.gaps)-1][1]++
		default:
			w.gaps = append(w.gaps, [2]int{i, i + 1})
		}
	}
	return w
}

// fromHex is the bytes of hexadecimal digits, blanks left out.
func fromHex(s string) []byte {
	b, err := hex.DecodeString(strings.ReplaceAll(s, " ", ""))
	if err != nil {
		panic(err)
	}
	return b
}

// Frames with their bytes, reckoned by other means.
const (
	zeroHex  = "a5 5a 00 00 00 00 00 00 00 f1 ce "
	threeHex = "a5 5a 03 07 01 ff ff ff fe c2 b2 "
	lastHex  = "a5 5a 0b ff 00 80 00 00 00 33 66 "
)

var (
	three = api.Frame{Source: 3, Count: 7, Well: true, Value: -2}
	last  = api.Frame{Source: 11, Count: 255, Value: -1 << 31}
)

// nested is a frame in which another one begins, that many bytes behind its begin, and the bytes that are wanted behind to end that.
func nested(at int) ([]byte, []byte) {
	for number := range uint32(1 << 24) {
		value := binary.BigEndian.AppendUint32(nil, number>>8)
		copy(value[min(at-5, 4):], []byte{0xa5, 0x5a})
		b := laid(4, byte(number), 1, binary.BigEndian.Uint32(value))
		within := b[at:]
		inner := laid(7, 33, 1, 0x01020304)
		copy(inner, within)
		binary.BigEndian.PutUint16(inner[9:], sumOf(inner[2:9]))
		if _, ok := isFrame(inner); ok {
			return b, inner[len(within):]
		}
	}
	panic("there is one")
}

// pieces are bytes of many kinds: single ones, frames, and what is nearly one.
func pieces() [][]byte {
	b := laid(3, 7, 1, 9)
	wrongSum := slices.Clone(b)
	wrongSum[10] ^= 1
	middle, behind := nested(5)
	two, _ := nested(9)
	one, _ := nested(10)
	return [][]byte{{0xa5}, {0x5a}, {0}, b, b[:5], wrongSum, laid(12, 7, 1, 9), middle, behind, two, one}
}

// mixed hands do what any pieces, some count of them, make one behind the other.
func mixed(count int, do func(b []byte)) {
	l := pieces()
	var mix func(ahead []byte, count int)
	mix = func(ahead []byte, count int) {
		if count == 0 {
			do(ahead)
			return
		}
		for _, p := range l {
			mix(joined(ahead, p), count-1)
		}
	}
	mix(nil, count)
}

// P15.1, P15.3, P15.5: byte by byte.
func TestP1Split(t *testing.T) {
	for _, r := range []struct {
		b    string
		want told
	}{
		{"", told{}},
		{"a5", told{gaps: [][2]int{{0, 1}}}},
		{"5a", told{end: 1, lost: 1, gaps: [][2]int{{0, 1}}}},
		{"00", told{end: 1, lost: 1, gaps: [][2]int{{0, 1}}}},
		{"a5 5a", told{gaps: [][2]int{{0, 2}}}},
		{"a5 5b", told{end: 2, lost: 2, gaps: [][2]int{{0, 2}}}},
		{"a5 a5", told{end: 1, lost: 1, gaps: [][2]int{{0, 2}}}},
		{"a5 a5 5a", told{end: 1, lost: 1, gaps: [][2]int{{0, 3}}}},
		{"a5 5a ff ff ff", told{gaps: [][2]int{{0, 5}}}},
		{"00 a5 5a ff", told{end: 1, lost: 1, gaps: [][2]int{{0, 4}}}},
		{"a5 5a 00 00 00 00 00 00 00 f1", told{gaps: [][2]int{{0, 10}}}},
		{zeroHex, told{frames: []api.Frame{{}}, end: 11}},
		{"a5 5a 00 00 00 00 00 00 00 f1 cf", told{end: 11, lost: 11, gaps: [][2]int{{0, 11}}}},
		{"a5 5a 00 00 00 00 00 00 00 f1 a5", told{end: 10, lost: 10, gaps: [][2]int{{0, 11}}}},
		{"a5 5a 00 00 00 00 00 00 a5 5a 00", told{end: 8, lost: 8, gaps: [][2]int{{0, 11}}}},
		{threeHex + lastHex, told{frames: []api.Frame{three, last}, end: 22}},
		{"00" + threeHex + lastHex, told{frames: []api.Frame{three, last}, end: 23, lost: 1, gaps: [][2]int{{0, 1}}}},
		{threeHex + "5a" + lastHex, told{frames: []api.Frame{three, last}, end: 23, lost: 1, gaps: [][2]int{{11, 12}}}},
		{threeHex + "a5" + lastHex + "a5", told{frames: []api.Frame{three, last}, end: 23, lost: 1, gaps: [][2]int{{11, 12}, {23, 24}}}},
		{threeHex + "a5 5a" + lastHex + "5a", told{frames: []api.Frame{three, last}, end: 25, lost: 3, gaps: [][2]int{{11, 13}, {24, 25}}}},
		{"a5 5a 0b" + threeHex + "00 01" + lastHex + "02 a5 5a 03", told{frames: []api.Frame{three, last}, end: 28, lost: 6, gaps: [][2]int{{0, 3}, {14, 16}, {27, 31}}}},
		{threeHex[:30] + threeHex, told{frames: []api.Frame{three}, end: 21, lost: 10, gaps: [][2]int{{0, 10}}}},
		{threeHex[3:] + lastHex, told{frames: []api.Frame{last}, end: 21, lost: 10, gaps: [][2]int{{0, 10}}}},
	} {
		holds(t, fromHex(r.b), r.want)
	}
}

// P15.1, P15.3, P15.5, by the chapter's words, of all that some pieces make.
func TestP1SplitOfPieces(t *testing.T) {
	for count := range 5 {
		mixed(count, func(b []byte) { holds(t, b, reckoned(b)) })
	}
}

// P15.1, of all short bytes of a few values.
func TestP1SplitOfShort(t *testing.T) {
	values := []byte{0xa5, 0x5a, 0}
	for long := range 12 {
		b := make([]byte, long)
		for number := range int(math.Pow(3, float64(long))) {
			for i := range b {
				b[i] = values[number%3]
				number /= 3
			}
			holds(t, b, reckoned(b))
		}
	}
}

// P15.1, of all two bytes, alone and with more behind.
func TestP1SplitOfTwo(t *testing.T) {
	for x := range 1 << 16 {
		b := []byte{byte(x >> 8), byte(x)}
		holds(t, b, reckoned(b))
		b = append(b, 1, 2)
		holds(t, b, reckoned(b))
	}
}

// P15.1: what stands in a frame's form is lost byte by byte if it is none.
func TestP1SplitOfNoFrame(t *testing.T) {
	var l [][]byte
	for source := range 256 {
		l = append(l, laid(byte(source), 7, 1, 9))
	}
	for well := range 256 {
		l = append(l, laid(7, 7, byte(well), 9))
	}
	for bit := range 88 {
		b := laid(5, 200, 0, 12345)
		b[bit/8] ^= 1 << (bit % 8)
		l = append(l, b)
	}
	for _, b := range l {
		holds(t, b, reckoned(b))
		b = joined(b, sent(three), b, b, sent(last), b[:7])
		holds(t, b, reckoned(b))
	}
}

// P15.1: it goes on behind a frame's bytes, so one that begins among them is none.
func TestP1SplitOfNested(t *testing.T) {
	for at := 5; at < 11; at++ {
		outer, behind := nested(at)
		f, _ := isFrame(outer)
		holds(t, outer, told{frames: []api.Frame{f}, end: 11})
		holds(t, joined(outer, behind), told{frames: []api.Frame{f}, end: 11 + at, lost: at, gaps: [][2]int{{11, 11 + at}}})
		f, _ = isFrame(joined(outer[at:], behind))
		holds(t, joined(outer, behind)[at:], told{frames: []api.Frame{f}, end: 11})
		holds(t, joined(outer, behind)[1:], told{frames: []api.Frame{f}, end: 10 + at, lost: at - 1, gaps: [][2]int{{0, at - 1}}})
	}
}

// P15.1: what is behind the bytes' end does not count.
func TestP1SplitWithRoomBehind(t *testing.T) {
	b := joined(sent(three), sent(last))
	for long := range b {
		holds(t, b[:long], reckoned(b[:long]))
	}
}

// P15.2: it is Split of both, cut wherever.
func TestP2Feed(t *testing.T) {
	for count := range 4 {
		mixed(count, func(b []byte) {
			want := reckoned(b)
			for cut := 0; cut <= len(b); cut++ {
				fed(t, b[:cut], b[cut:], want)
			}
		})
	}
}

// P15.2: part may be anything, also what Feed would not have left.
func TestP2FeedOfAnyPart(t *testing.T) {
	b := joined(sent(three), []byte{1, 2, 3}, sent(last), []byte{0xa5})
	fed(t, b, b, reckoned(joined(b, b)))
	fed(t, b, nil, reckoned(b))
	fed(t, []byte{0}, b, reckoned(joined([]byte{0}, b)))
	fed(t, bytes.Repeat([]byte{0xa5, 0x5a}, 40), b, reckoned(joined(bytes.Repeat([]byte{0xa5, 0x5a}, 40), b)))
}

// P15.4: all that there may be, and how many there may not be.
func TestP4Many(t *testing.T) {
	for _, r := range []struct {
		l     []api.Frame
		want  string
		wrong int
	}{
		{nil, "", 0},
		{[]api.Frame{}, "", 0},
		{[]api.Frame{{}}, zeroHex, 0},
		{[]api.Frame{three, last}, threeHex + lastHex, 0},
		{[]api.Frame{last, three, last}, lastHex + threeHex + lastHex, 0},
		{[]api.Frame{{Source: 12}}, "", 1},
		{[]api.Frame{{Source: -1}, {Count: 256}, {Count: -1}, {Value: 1 << 31}, {Value: -1<<31 - 1}}, "", 5},
		{[]api.Frame{{Source: 12}, three, {Count: 256}, {Value: math.MaxInt64}, last, {Value: math.MinInt64}}, threeHex + lastHex, 4},
		{[]api.Frame{three, {Source: math.MinInt}, three}, threeHex + threeHex, 1},
	} {
		b, wrong := stream.Many(r.l)
		are(t, call("Many", r.l), b, fromHex(r.want))
		is(t, call("Many's wrong ones", r.l), wrong, r.wrong)
	}
}

// P15.4, of many.
func TestP4ManyOfAll(t *testing.T) {
	var l []api.Frame
	var want []byte
	wrong := 0
	for source := -2; source < 15; source++ {
		for count := -3; count < 260; count++ {
			f := api.Frame{Source: source, Count: count, Well: count%3 == 0, Value: int64(source*count) << 17}
			l = append(l, f)
			if source < 0 || source > 11 || count < 0 || count > 255 {
				wrong++
				continue
			}
			want = append(want, sent(f)...)
		}
	}
	b, none := stream.Many(l)
	are(t, call("Many"), b, want)
	is(t, call("Many's wrong ones"), none, wrong)
	frames, end, lost := stream.Split(b)
	is(t, call("how many of Many's bytes"), len(frames), 12*256)
	is(t, call("where Many's bytes end"), end, len(b))
	is(t, call("lost of Many's bytes"), lost, 0)
}

// P15.9: gaps are apart, in order, and have all bytes that are in no frame.
func TestP9Gaps(t *testing.T) {
	for count := range 5 {
		mixed(count, func(b []byte) {
			frames, _, _ := stream.Split(b)
			gaps := stream.Gaps(b)
			behind, all := -1, 0
			for _, g := range gaps {
				if g[0] <= behind || g[1] <= g[0] || g[1] > len(b) {
					t.Fatalf("%s: %v", call("Gaps", b), gaps)
				}
				if behind >= 0 {
					is(t, call("bytes of frames between gaps", b), (g[0]-behind)%11, 0)
				}
				behind = g[1]
				all += g[1] - g[0]
			}
			is(t, call("how many bytes Gaps has", b), all, len(b)-11*len(frames))
		})
	}
}

// P15.6: piece by piece there are the same frames, as many bytes lost, and the same left.
func TestP6PieceByPiece(t *testing.T) {
	outer, behind := nested(6)
	all := joined(sent(three), []byte{0xa5, 0x5a, 0xa5}, outer, behind, sent(last)[:10], sent(last), laid(12, 0, 0, 0), []byte{0x5a, 0, 0xa5}, sent(three), sent(last)[:6])
	want := reckoned(all)
	for long := 1; long <= len(all); long++ {
		piecewise(t, slices.Collect(slices.Chunk(all, long)), want)
		with := [][]byte{nil}
		for c := range slices.Chunk(all, long) {
			with = append(with, c, nil)
		}
		piecewise(t, with, want)
	}
	for first := range all {
		for second := first; second < len(all); second++ {
			piecewise(t, [][]byte{all[:first], all[first:second], all[second:]}, want)
		}
	}
}

// P15.6, of all that some pieces make.
func TestP6PieceByPieceOfAll(t *testing.T) {
	for count := range 5 {
		mixed(count, func(b []byte) {
			piecewise(t, slices.Collect(slices.Chunk(b, 1)), reckoned(b))
			piecewise(t, slices.Collect(slices.Chunk(b, 4)), reckoned(b))
		})
	}
}

// piecewise fails if Feed, piece by piece, tells anything else than want is of all pieces.
func piecewise(t *testing.T, parts [][]byte, want told) {
	t.Helper()
	var frames []api.Frame
	var left []byte
	lost := 0
	for _, p := range parts {
		var some []api.Frame
		var more int
		some, left, more = stream.Feed(left, p)
		frames = append(frames, some...)
		lost += more
	}
	are(t, call("frames piece by piece", parts), frames, want.frames)
	are(t, call("left piece by piece", parts), left, slices.Concat(parts...)[want.end:])
	is(t, call("lost piece by piece", parts), lost, want.lost)
}

// P15.7: frames are all found, behind any bytes without a5.
func TestP7Found(t *testing.T) {
	outer, _ := nested(8)
	f, _ := isFrame(outer)
	l := []api.Frame{three, f, last, {}, f, {Source: 5, Count: 0x5a, Value: 0x5aa55aa5}, {Source: 5, Count: 0xa5, Well: true, Value: -0x5aa55aa6}}
	var b []byte
	for _, f := range l {
		b = append(b, sent(f)...)
	}
	for _, ahead := range [][]byte{nil, {0}, {0x5a}, {0x5a, 0x5a}, bytes.Repeat([]byte{0x5a}, 30), make([]byte, 10), make([]byte, 11), make([]byte, 12), make([]byte, 500), sent(three)[1:], sent(last)[1:]} {
		gaps := [][2]int{{0, len(ahead)}}
		if len(ahead) == 0 {
			gaps = nil
		}
		holds(t, joined(ahead, b), told{frames: l, end: len(ahead) + len(b), lost: len(ahead), gaps: gaps})
	}
	for x := range 256 {
		if x != 0xa5 {
			frames, _, lost := stream.Split(joined([]byte{byte(x)}, b))
			are(t, call("Split's frames behind", x), frames, l)
			is(t, call("Split's lost behind", x), lost, 1)
		}
	}
}

// P15.8: fewer than 11 bytes are left.
func TestP8Left(t *testing.T) {
	for count := range 5 {
		mixed(count, func(b []byte) {
			_, end, _ := stream.Split(b)
			_, left, _ := stream.Feed(b[:len(b)/2], b[len(b)/2:])
			if len(b)-end >= 11 || end > len(b) || len(left) >= 11 {
				t.Fatalf("%s: %d, %d left", call("Split", b), end, len(left))
			}
		})
	}
}

// The chapter's example: of one byte a5 nothing is lost yet.
func TestP1Example(t *testing.T) {
	is(t, call("Lost", []byte{0xa5}), stream.Lost([]byte{0xa5}), 0)
}

// Nothing handed in is changed, nor what lies behind its end, and what is answered is new memory.
func TestNothingIsShared(t *testing.T) {
	whole := joined(sent(three), sent(last), []byte{0xa5, 0x5a, 1, 2}, bytes.Repeat([]byte{0xee}, 100))
	b := whole[:26]
	behind := slices.Clone(whole)
	want := reckoned(b)
	holds(t, b, want)
	for cut := range b {
		fed(t, b[:cut], b[cut:], want)
		fed(t, b[:cut:100], slices.Clone(b[cut:]), want)
	}
	are(t, call("what was handed in"), whole, behind)
	for _, cut := range []int{0, 22, 24, 26} {
		frames, left, _ := stream.Feed(b[:cut], b[cut:])
		clear(frames)
		clear(left[:cap(left)])
		are(t, call("what was handed in", cut), whole, behind)
	}
	gaps := stream.Gaps(b)
	clear(gaps[:cap(gaps)])
	are(t, call("what was handed in"), whole, behind)
	many := []api.Frame{three, {Source: 12}, last, three}
	out, _ := stream.Many(many[:3])
	clear(out[:cap(out)])
	are(t, call("what was handed in"), many, []api.Frame{three, {Source: 12}, last, three})
}
