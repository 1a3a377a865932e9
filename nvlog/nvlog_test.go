package nvlog_test

import (
	"bytes"
	"encoding/binary"
	"encoding/hex"
	"fmt"
	"math"
	"slices"
	"strings"
	"testing"

	"teetotum/api"
	"teetotum/nvlog"
)

// asked is a call, written out only where it is told.
type asked struct {
	name string
	args []any
}

func call(name string, args ...any) asked { return asked{name, args} }

func (a asked) String() string {
	var words []string
	for _, x := range a.args {
		if b, ok := x.([]byte); ok {
			words = append(words, fmt.Sprintf("[% x]", b))
			continue
		}
		words = append(words, fmt.Sprintf("%+v", x))
	}
	return a.name + " of " + strings.Join(words, ", ")
}

// is fails if got is not want.
func is[T comparable](t *testing.T, what asked, got, want T) {
	t.Helper()
	if got != want {
		t.Fatalf("%s: %+v, want %+v", what, got, want)
	}
}

// are fails if got has not just want's bytes.
func are(t *testing.T, what asked, got, want []byte) {
	t.Helper()
	if !bytes.Equal(got, want) {
		t.Fatalf("%s: [% x], want [% x]", what, got, want)
	}
}

// sumOf is the sum of b, bit by bit.
func sumOf(b []byte) uint16 {
	sum := uint32(0xffff)
	for _, x := range b {
		sum ^= uint32(x) << 8
		for range 8 {
			sum <<= 1
			if sum&0x10000 != 0 {
				sum ^= 0x11021
			}
		}
	}
	return uint16(sum)
}

// guardOf is the guard of a number.
func guardOf(seq uint32) byte { return byte(seq%250) + 1 }

// slotOf is a note's slot, as chapter 18 has it.
func slotOf(n api.Note, seq uint32) []byte {
	b := binary.BigEndian.AppendUint32([]byte{guardOf(seq)}, seq)
	b = append(b, byte(n.Excluded), byte(n.Inhibited), byte(n.Mode), 1)
	return append(binary.BigEndian.AppendUint16(b, sumOf(b)), guardOf(seq))
}

// held is what a slot is held to have.
type held struct {
	note api.Note
	seq  uint32
	is   bool
}

// holds is what twelve bytes have, as chapter 18 has it: a slot is what its own parts make.
func holds(b []byte) held {
	n := api.Note{Excluded: int(b[5]), Inhibited: int(b[6]), Mode: int(b[7])}
	seq := binary.BigEndian.Uint32(b[1:])
	if n.Excluded > 63 || n.Inhibited > 63 || n.Mode > 5 || !bytes.Equal(b, slotOf(n, seq)) {
		return held{}
	}
	return held{n, seq, true}
}

// newestOf is which of both is the newest, or -1.
func newestOf(a, b held) int {
	switch {
	case a.is && b.is && a.seq < b.seq:
		return 1
	case a.is:
		return 0
	case b.is:
		return 1
	}
	return -1
}

// wanted is what is wanted of a memory.
type wanted struct {
	newest int
	slots  [2]held
}

// now is what the newest slot has.
func (w wanted) now() held {
	if w.newest < 0 {
		return held{}
	}
	return w.slots[w.newest]
}

// wantedOf is what is wanted of m: of what is too short for a memory nothing.
func wantedOf(m []byte) wanted {
	if len(m) < 24 {
		return wanted{newest: -1}
	}
	a, b := holds(m[:12]), holds(m[12:24])
	return wanted{newestOf(a, b), [2]held{a, b}}
}

// loads fails if Load, Both or Wear answers anything but what is wanted of m.
func loads(t *testing.T, m []byte) {
	t.Helper()
	w := wantedOf(m)
	wantErr := api.OK
	if w.newest < 0 {
		wantErr = api.ErrNone
	}
	n, err := nvlog.Load(m)
	is(t, call("Load's error", m), err, wantErr)
	is(t, call("Load", m), n, w.now().note)
	notes, taken := nvlog.Both(m)
	is(t, call("Both's notes", m), notes, [2]api.Note{w.slots[0].note, w.slots[1].note})
	is(t, call("whether Both are", m), taken, [2]bool{w.slots[0].is, w.slots[1].is})
	is(t, call("Wear", m), nvlog.Wear(m), w.now().seq)
}

// right is whether n may be written.
func right(n api.Note) bool {
	return n.Excluded >= 0 && n.Excluded <= 63 && n.Inhibited >= 0 && n.Inhibited <= 63 && n.Mode >= 0 && n.Mode <= 5
}

// toWrite is what is wanted of Write.
func toWrite(m []byte, n api.Note) (int, []byte, api.Errno) {
	w := wantedOf(m)
	switch {
	case len(m) != 24:
		return 0, nil, api.ErrArg
	case w.now().seq >= 1<<31:
		return 0, nil, api.ErrOver
	case !right(n):
		return 0, nil, api.ErrArg
	case w.newest == 0:
		return 1, slotOf(n, w.now().seq+1), api.OK
	}
	return 0, slotOf(n, w.now().seq+1), api.OK
}

// writes fails if Write, or a Save as far as any number of bytes, answers anything but what is wanted.
func writes(t *testing.T, m []byte, n api.Note) {
	t.Helper()
	at, b, err := toWrite(m, n)
	gotAt, got, gotErr := nvlog.Write(m, n)
	is(t, call("Write's error", m, n), gotErr, err)
	is(t, call("Write's slot", m, n), gotAt, at)
	are(t, call("Write's bytes", m, n), got, b)
	for most := -1; most <= 13; most++ {
		want := slices.Clone(m)
		copy(want[at*12:], b[:min(max(most, 0), len(b))])
		saves(t, m, n, most, want, err)
	}
}

// saves fails if Save answers anything but that.
func saves(t *testing.T, m []byte, n api.Note, most int, want []byte, wantErr api.Errno) {
	t.Helper()
	saved, err := nvlog.Save(m, n, most)
	is(t, call("Save's error", m, n, most), err, wantErr)
	are(t, call("Save", m, n, most), saved, want)
}

// save is m with n saved, as far as most bytes: it fails if that can't be.
func save(t *testing.T, m []byte, n api.Note, most int) []byte {
	t.Helper()
	saved, err := nvlog.Save(m, n, most)
	is(t, call("Save's error", m, n, most), err, api.OK)
	return saved
}

// loaded fails if Load answers anything but n.
func loaded(t *testing.T, m []byte, n api.Note) {
	t.Helper()
	got, err := nvlog.Load(m)
	is(t, call("Load's error", m), err, api.OK)
	is(t, call("Load", m), got, n)
}

// noteAt is one of 64 * 64 * 6 right notes.
func noteAt(i int) api.Note {
	return api.Note{Excluded: i % 64, Inhibited: i / 64 % 64, Mode: i % 6}
}

// memory is two slots, one behind the other.
func memory(a, b []byte) []byte { return slices.Concat(a, b) }

// unhex is the bytes that text has.
func unhex(t *testing.T, text string) []byte {
	t.Helper()
	b, err := hex.DecodeString(strings.ReplaceAll(text, " ", ""))
	if err != nil {
		t.Fatal(err)
	}
	return b
}

// seqs are numbers near edges: of the guards, of bytes, of what may be written behind, and of all numbers.
var seqs = []uint32{
	0, 1, 2, 249, 250, 251, 255, 256, 65535, 65536, 1<<24 - 1, 1 << 24, 1<<31 - 2, 1<<31 - 1, 1 << 31, 1<<31 + 1, math.MaxUint32 - 1, math.MaxUint32,
}

// wrongNotes are notes that may not be.
var wrongNotes = []api.Note{
	{Excluded: -1}, {Excluded: 64}, {Inhibited: -1}, {Inhibited: 64}, {Mode: -1}, {Mode: 6}, {Excluded: 256}, {Mode: 256},
	{Excluded: math.MinInt}, {Inhibited: math.MaxInt}, {Excluded: 64, Inhibited: 64, Mode: 6},
}

// noSlots are twelve bytes that are no slot.
func noSlots() [][]byte {
	l := [][]byte{make([]byte, 12), bytes.Repeat([]byte{255}, 12)}
	whole := slotOf(api.Note{Excluded: 5, Mode: 1}, 9)
	for _, at := range []int{0, 1, 5, 6, 7, 8, 9, 11} {
		b := slices.Clone(whole)
		b[at] ^= 85
		l = append(l, b)
	}
	for _, n := range []api.Note{{Excluded: 64}, {Inhibited: 64}, {Mode: 6}} {
		l = append(l, slotOf(n, 1<<31+7))
	}
	return l
}

// contents are slots of all seqs, each with a note of its own, and what is none.
func contents() [][]byte {
	l := noSlots()
	for i, seq := range seqs {
		l = append(l, slotOf(noteAt(i*131+1), seq))
	}
	return l
}

// memories are all pairs of contents.
func memories() [][]byte {
	var l [][]byte
	for _, a := range contents() {
		for _, b := range contents() {
			l = append(l, memory(a, b))
		}
	}
	return l
}

// noMemories are lists that have not 24 bytes, with slots in them as far as they go.
func noMemories() [][]byte {
	whole := memory(slotOf(noteAt(1), 6), slotOf(noteAt(2), 7))
	l := [][]byte{nil, {}, append(slices.Clone(whole), 0), slices.Concat(whole, slotOf(noteAt(3), 8)), slices.Concat(whole, whole), make([]byte, 4096)}
	for n := range 24 {
		l = append(l, whole[:n], whole[24-n:])
	}
	return l
}

// P19.1: a new memory is 24 bytes 0.
func TestP1New(t *testing.T) {
	m := nvlog.New()
	are(t, call("New"), m, make([]byte, 24))
	is(t, call("how long New is"), len(m), api.MemoryLong)
	loads(t, m)
}

// P19.1, P19.2, P19.6, P19.7: nothing is loaded of a new memory.
func TestP2Nothing(t *testing.T) {
	for _, m := range [][]byte{nvlog.New(), nil, make([]byte, 12), make([]byte, 23), bytes.Repeat([]byte{255}, 24)} {
		n, err := nvlog.Load(m)
		is(t, call("Load's error", m), err, api.ErrNone)
		is(t, call("Load beside an error", m), n, api.Note{})
		notes, taken := nvlog.Both(m)
		is(t, call("Both's notes", m), notes, [2]api.Note{})
		is(t, call("whether Both are", m), taken, [2]bool{})
		is(t, call("Wear", m), nvlog.Wear(m), 0)
	}
}

// P19.2, P19.6, P19.7: memories that are written out.
func TestP2WrittenOut(t *testing.T) {
	const (
		one   = "02 00000001 00 00 00 01 6465 02"
		big   = "02 000000fb 3f 3e 05 01 c4cb 02"
		great = "2e ffffffff 20 00 01 01 e789 2e"
		none  = "02 00000001 00 00 00 01 6464 02"
	)
	bigNote, greatNote := api.Note{Excluded: 63, Inhibited: 62, Mode: 5}, api.Note{Excluded: 32, Mode: 1}
	for _, c := range []struct {
		first, second string
		note          api.Note
		wear          uint32
		both          [2]api.Note
		are           [2]bool
	}{
		{one, none, api.Note{}, 1, [2]api.Note{}, [2]bool{true, false}},
		{none, big, bigNote, 251, [2]api.Note{{}, bigNote}, [2]bool{false, true}},
		{one, big, bigNote, 251, [2]api.Note{{}, bigNote}, [2]bool{true, true}},
		{big, one, bigNote, 251, [2]api.Note{bigNote, {}}, [2]bool{true, true}},
		{big, great, greatNote, math.MaxUint32, [2]api.Note{bigNote, greatNote}, [2]bool{true, true}},
		{great, big, greatNote, math.MaxUint32, [2]api.Note{greatNote, bigNote}, [2]bool{true, true}},
	} {
		m := unhex(t, c.first+c.second)
		loaded(t, m, c.note)
		notes, taken := nvlog.Both(m)
		is(t, call("Both's notes", m), notes, c.both)
		is(t, call("whether Both are", m), taken, c.are)
		is(t, call("Wear", m), nvlog.Wear(m), c.wear)
	}
}

// P19.2, P19.6, P19.7: slots of all sorts, in both places.
func TestP2Load(t *testing.T) {
	for _, m := range memories() {
		loads(t, m)
	}
}

// P19.2, P19.6, P19.7: of what is too short for a memory nothing is loaded, and what lies behind one says nothing.
func TestP2Long(t *testing.T) {
	for _, m := range noMemories() {
		loads(t, m)
	}
	loaded(t, append(memory(slotOf(noteAt(1), 6), slotOf(noteAt(2), 7)), 9), noteAt(2))
	_, err := nvlog.Load(slotOf(noteAt(1), 6))
	is(t, call("Load's error of one slot"), err, api.ErrNone)
}

// P19.2: of two slots of the same number the slot 0 is the newest.
func TestP2SameNumber(t *testing.T) {
	for _, seq := range seqs {
		m := memory(slotOf(noteAt(7), seq), slotOf(noteAt(8), seq))
		loaded(t, m, noteAt(7))
		is(t, call("Wear", m), nvlog.Wear(m), seq)
		if seq >= 1<<31 {
			continue
		}
		at, _, err := nvlog.Write(m, noteAt(9))
		is(t, call("Write's error", m), err, api.OK)
		is(t, call("Write's slot", m), at, 1)
	}
}

// P19.3: writes that are written out.
func TestP3WrittenOut(t *testing.T) {
	const (
		one  = "02 00000001 00 00 00 01 6465 02"
		none = "00 00000000 00 00 00 00 0000 00"
		last = "95 80000000 00 00 00 01"
	)
	full := unhex(t, last)
	full = append(binary.BigEndian.AppendUint16(full, sumOf(full)), 0x95)
	for _, c := range []struct {
		m    []byte
		at   int
		want []byte
	}{
		{unhex(t, none+none), 0, unhex(t, one)},
		{memory(slotOf(noteAt(3), 0), unhex(t, none)), 1, unhex(t, one)},
		{memory(unhex(t, none), slotOf(noteAt(3), 0)), 0, unhex(t, one)},
		{unhex(t, one+none), 1, slotOf(api.Note{}, 2)},
		{unhex(t, none+one), 0, slotOf(api.Note{}, 2)},
		{memory(slotOf(noteAt(3), 1<<31-1), unhex(t, one)), 1, full},
		{memory(unhex(t, one), slotOf(noteAt(3), 1<<31-1)), 0, full},
	} {
		at, b, err := nvlog.Write(c.m, api.Note{})
		is(t, call("Write's error", c.m), err, api.OK)
		is(t, call("Write's slot", c.m), at, c.at)
		are(t, call("Write's bytes", c.m), b, c.want)
	}
}

// P19.3, P19.4: slots of all sorts, in both places, and any number of bytes.
func TestP3Write(t *testing.T) {
	for i, m := range memories() {
		writes(t, m, noteAt(i*37))
	}
}

// P19.3, P19.4: every right note.
func TestP3Notes(t *testing.T) {
	m := memory(slotOf(noteAt(1), 250), slotOf(noteAt(2), 249))
	for excluded := range 64 {
		for inhibited := range 64 {
			for mode := range 6 {
				n := api.Note{Excluded: excluded, Inhibited: inhibited, Mode: mode}
				at, b, err := nvlog.Write(m, n)
				is(t, call("Write's error", m, n), err, api.OK)
				is(t, call("Write's slot", m, n), at, 1)
				are(t, call("Write's bytes", m, n), b, slotOf(n, 251))
				loaded(t, save(t, m, n, 12), n)
			}
		}
	}
}

// P19.3, P19.4: what has not 24 bytes, or is worn out, or a note that is not right, is told in this order, and beside it nothing is written.
func TestP3OrderOfErrors(t *testing.T) {
	over, under := slotOf(noteAt(5), 1<<31), slotOf(noteAt(5), 1<<31-1)
	none := make([]byte, 12)
	for _, n := range wrongNotes {
		for _, m := range noMemories() {
			writes(t, m, n)
		}
		for _, m := range [][]byte{memory(over, under), memory(under, over), memory(over, none), memory(none, over), memory(under, none), nvlog.New()} {
			writes(t, m, n)
		}
		_, _, err := nvlog.Write(memory(under, over), n)
		is(t, call("Write's error", n), err, api.ErrOver)
		_, _, err = nvlog.Write(memory(under, none), n)
		is(t, call("Write's error", n), err, api.ErrArg)
	}
	for _, m := range noMemories() {
		writes(t, m, noteAt(3))
		_, _, err := nvlog.Write(append(memory(over, over), m...), noteAt(3))
		if len(m) > 0 {
			is(t, call("Write's error behind a memory", m), err, api.ErrArg)
		}
	}
}

// P19.3: a slot's number of 2^31 or more is one behind which nothing is written, unless it is not the newest's.
func TestP3Over(t *testing.T) {
	spoilt := slotOf(noteAt(1), 1<<31)
	spoilt[5] ^= 85
	for _, c := range []struct {
		m    []byte
		want api.Errno
	}{
		{memory(slotOf(noteAt(1), 1<<31-1), slotOf(noteAt(2), 1<<31-2)), api.OK},
		{memory(slotOf(noteAt(1), 1<<31-1), slotOf(noteAt(2), 1<<31)), api.ErrOver},
		{memory(slotOf(noteAt(1), 1<<31), slotOf(noteAt(2), 1)), api.ErrOver},
		{memory(slotOf(noteAt(1), math.MaxUint32), make([]byte, 12)), api.ErrOver},
		{memory(make([]byte, 12), slotOf(noteAt(1), 1<<31)), api.ErrOver},
		{memory(spoilt, slotOf(noteAt(1), 4)), api.OK},
		{memory(spoilt, spoilt), api.OK},
	} {
		_, _, err := nvlog.Write(c.m, noteAt(3))
		is(t, call("Write's error", c.m), err, c.want)
		writes(t, c.m, noteAt(3))
	}
}

// P19.4: at least none, and at most all bytes are put in the slot's place.
func TestP4Most(t *testing.T) {
	m := memory(slotOf(noteAt(1), 6), slotOf(noteAt(2), 5))
	now := slotOf(noteAt(3), 7)
	for _, most := range []int{math.MinInt, -24, -1, 0} {
		saves(t, m, noteAt(3), most, m, api.OK)
	}
	for most := 1; most < 12; most++ {
		saves(t, m, noteAt(3), most, slices.Concat(m[:12], now[:most], m[12+most:]), api.OK)
	}
	for _, most := range []int{12, 13, 24, 25, 1 << 32, math.MaxInt} {
		saves(t, m, noteAt(3), most, slices.Concat(m[:12], now), api.OK)
	}
	first := slotOf(noteAt(4), 1)
	for most := range 13 {
		saves(t, nvlog.New(), noteAt(4), most, append(slices.Clone(first[:most]), make([]byte, 24-most)...), api.OK)
	}
}

// P19.5: the byte at a place is turned; of a place that there is not none is.
func TestP5Spoil(t *testing.T) {
	for _, m := range append(noMemories(), memories()[:200]...) {
		for at := -2; at < len(m)+3; at++ {
			want := slices.Clone(m)
			if at >= 0 && at < len(m) {
				want[at] = m[at] ^ 0x55
			}
			are(t, call("Spoil", m, at), nvlog.Spoil(m, at), want)
			are(t, call("Spoil twice", m, at), nvlog.Spoil(nvlog.Spoil(m, at), at), m)
		}
		for _, at := range []int{math.MinInt, -1 << 32, 1 << 32, math.MaxInt} {
			are(t, call("Spoil", m, at), nvlog.Spoil(m, at), m)
		}
	}
	every := make([]byte, 256)
	for x := range every {
		every[x] = byte(x)
	}
	for x := range every {
		is(t, call("a byte that is spoilt", x), nvlog.Spoil(every, x)[x], byte(x)^85)
	}
}

// P19.5, P19.9: where a byte is spoilt, its slot is none, and the other one is loaded.
func TestP5SpoiltSlots(t *testing.T) {
	m := memory(slotOf(noteAt(1), 6), slotOf(noteAt(2), 7))
	for at := range 24 {
		one := nvlog.Spoil(m, at)
		loads(t, one)
		loaded(t, one, noteAt(2-at/12))
	}
}

// P19.8: what was saved whole is loaded, over all guards, and also near where no more is written.
func TestP8Whole(t *testing.T) {
	for _, m := range [][]byte{nvlog.New(), memory(slotOf(noteAt(1), 1<<31-20), make([]byte, 12))} {
		for i := range 600 {
			n := noteAt(i * 71)
			wear := nvlog.Wear(m)
			if wear == 1<<31 {
				saves(t, m, n, 12, m, api.ErrOver)
				continue
			}
			m = save(t, m, n, 12+i%2)
			loaded(t, m, n)
			is(t, call("Wear", m), nvlog.Wear(m), wear+1)
		}
	}
}

// P19.8: a write that is torn leaves the note of before, over all guards.
func TestP8Torn(t *testing.T) {
	m := nvlog.New()
	for i := range 600 {
		n := noteAt(i*71 + 1)
		for most := range 12 {
			torn := save(t, m, n, most)
			before, errBefore := nvlog.Load(m)
			after, errAfter := nvlog.Load(torn)
			is(t, call("Load of a torn memory", torn), after, before)
			is(t, call("Load's error of a torn memory", torn), errAfter, errBefore)
			is(t, call("Wear of a torn memory", torn), nvlog.Wear(torn), nvlog.Wear(m))
			loaded(t, save(t, torn, n, 12), n)
		}
		m = save(t, m, n, 12)
	}
}

// P19.8: so it is of writes torn one behind the other, wherever each of them is.
func TestP8TornAgain(t *testing.T) {
	var walk func(m []byte, before api.Note, known bool, deep int)
	walk = func(m []byte, before api.Note, known bool, deep int) {
		for most := 0; deep > 0 && most <= 12; most++ {
			n := noteAt(deep*977 + most)
			saved := save(t, m, n, most)
			now, some := before, known
			if most == 12 {
				now, some = n, true
			}
			got, err := nvlog.Load(saved)
			is(t, call("whether a note is loaded", saved), err == api.OK, some)
			is(t, call("Load", saved), got, now)
			walk(saved, now, some, deep-1)
		}
	}
	walk(nvlog.New(), api.Note{}, false, 4)
	walk(memory(slotOf(noteAt(1), 250), slotOf(noteAt(2), 249)), noteAt(1), true, 3)
}

// P19.8: so it is, too, if the older slot is spoilt ahead of the write.
func TestP8OlderSpoilt(t *testing.T) {
	for _, seq := range seqs {
		if seq == 0 || seq >= 1<<31 {
			continue
		}
		m := memory(slotOf(noteAt(1), seq), slotOf(noteAt(2), seq-1))
		for at := 12; at < 24; at++ {
			for most := range 12 {
				loaded(t, save(t, nvlog.Spoil(m, at), noteAt(3), most), noteAt(1))
			}
			loaded(t, save(t, nvlog.Spoil(m, at), noteAt(3), 12), noteAt(3))
		}
	}
}

// P19.8: of any memory, a write that is not torn is loaded.
func TestP8WholeOfAny(t *testing.T) {
	for i, m := range memories() {
		n := noteAt(i*53 + 2)
		if nvlog.Wear(m) >= 1<<31 {
			continue
		}
		loaded(t, save(t, m, n, 12), n)
		loaded(t, save(t, m, n, math.MaxInt), n)
	}
}

// P19.9: a memory in which neither slot is one has no note.
func TestP9NoNote(t *testing.T) {
	for _, a := range noSlots() {
		for _, b := range noSlots() {
			m := memory(a, b)
			n, err := nvlog.Load(m)
			is(t, call("Load's error", m), err, api.ErrNone)
			is(t, call("Load beside an error", m), n, api.Note{})
			is(t, call("Wear", m), nvlog.Wear(m), 0)
		}
	}
	m := memory(slotOf(noteAt(1), 6), slotOf(noteAt(2), 7))
	for a := range 12 {
		for b := range 12 {
			spoilt := nvlog.Spoil(nvlog.Spoil(m, a), 12+b)
			_, err := nvlog.Load(spoilt)
			is(t, call("Load's error", spoilt), err, api.ErrNone)
		}
	}
}

// P19.10: what is loaded is one of both, and a whole Save wears by one and leaves the newest of before in its place.
func TestP10(t *testing.T) {
	for i, m := range memories() {
		n, err := nvlog.Load(m)
		notes, taken := nvlog.Both(m)
		is(t, call("whether a note is loaded", m), err == api.OK, taken[0] || taken[1])
		one := taken[0] && n == notes[0] || taken[1] && n == notes[1]
		is(t, call("whether what is loaded is one of both", m), one, err == api.OK)
		wear := nvlog.Wear(m)
		if wear >= 1<<31 {
			continue
		}
		saved := save(t, m, noteAt(i), 12)
		is(t, call("Wear", saved), nvlog.Wear(saved), wear+1)
		if err == api.OK {
			notes, taken = nvlog.Both(saved)
			is(t, call("whether both are", saved), taken, [2]bool{true, true})
			is(t, call("whether the note of before is there", saved), notes[0] == n || notes[1] == n, true)
		}
	}
}

// R3: what is handed in is not changed, nor what lies behind its end.
func TestMemoryHandedIn(t *testing.T) {
	room := append(memory(slotOf(noteAt(1), 6), slotOf(noteAt(2), 7)), 1, 2, 3, 4, 5, 6, 7, 8, 9, 10, 11, 12)
	kept := slices.Clone(room)
	for _, long := range []int{0, 12, 23, 24, 25} {
		m := room[:long]
		nvlog.Load(m)
		nvlog.Both(m)
		nvlog.Wear(m)
		nvlog.Write(m, noteAt(3))
		for most := range 14 {
			nvlog.Save(m, noteAt(3), most)
			nvlog.Save(m, api.Note{Mode: 6}, most)
		}
		for at := range 36 {
			nvlog.Spoil(m, at)
		}
		are(t, call("what was handed in"), room, kept)
	}
}

// R3: what is answered is new memory.
func TestMemoryAnswered(t *testing.T) {
	m := memory(slotOf(noteAt(1), 6), slotOf(noteAt(2), 7))
	kept := slices.Clone(m)
	_, written, _ := nvlog.Write(m, noteAt(3))
	whole, _ := nvlog.Save(m, noteAt(3), 12)
	torn, _ := nvlog.Save(m, noteAt(3), 0)
	wrong, _ := nvlog.Save(m, api.Note{Mode: 6}, 12)
	for _, b := range [][]byte{written, whole, torn, wrong, nvlog.Spoil(m, 3), nvlog.Spoil(m, 24), nvlog.New()} {
		for i := range b {
			b[i] = 9
		}
		_ = append(b, 9, 9, 9)
		are(t, call("what was handed in"), m, kept)
	}
	are(t, call("New"), nvlog.New(), make([]byte, 24))
	writes(t, m, noteAt(3))
}

// The chapter's example: Load of a new memory is ErrNone.
func TestExample(t *testing.T) {
	_, err := nvlog.Load(nvlog.New())
	is(t, call("Load's error of a new memory"), err, api.ErrNone)
}
