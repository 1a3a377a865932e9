package command_test

import (
	"bytes"
	"encoding/hex"
	"errors"
	"fmt"
	"math"
	"math/rand"
	"slices"
	"strings"
	"testing"

	"teetotum/api"
	"teetotum/command"
)

// asked is a call, written out only where it is told.
type asked struct {
	name string
	args []any
}

func call(name string, args ...any) asked { return asked{name, args} }

func (a asked) String() string {
	var words []string
	for _, x := range a.args {
		if b, ok := x.([]byte); ok {
			words = append(words, fmt.Sprintf("% x", b))
			continue
		}
		words = append(words, fmt.Sprintf("%T %+v", x, x))
	}
	return a.name + " of " + strings.Join(words, ", ")
}

// is fails if got is not want.
func is[T comparable](t *testing.T, what asked, got, want T) {
	t.Helper()
	if got != want {
		t.Fatalf("%s: %+v, want %+v", what, got, want)
	}
}

// are fails if got has not just want's bytes.
func are(t *testing.T, what asked, got, want []byte) {
	t.Helper()
	if !bytes.Equal(got, want) {
		t.Fatalf("%s: % x, want % x", what, got, want)
	}
}

// written fails if Bytes answers anything but want and no error.
func written(t *testing.T, c api.Command, want []byte) {
	t.Helper()
	b, err := command.Bytes(c)
	is(t, call("Bytes", c), err, api.OK)
	are(t, call("Bytes", c), b, want)
}

// read fails if Read answers anything but want and no error.
func read(t *testing.T, b []byte, want api.Command) {
	t.Helper()
	c, err := command.Read(b)
	is(t, call("Read", b), err, api.OK)
	is(t, call("Read", b), c, want)
}

// refused fails if Read answers anything but that error.
func refused(t *testing.T, b []byte, want api.Errno) {
	t.Helper()
	c, err := command.Read(b)
	is(t, call("Read", b), err, want)
	is(t, call("Read", b), c, api.Command{})
}

// sumOf is the sum of b, bit by bit.
func sumOf(b []byte) uint16 {
	sum := uint32(0xffff)
	for _, x := range b {
		sum ^= uint32(x) << 8
		for range 8 {
			sum <<= 1
			if sum >= 1<<16 {
				sum ^= 0x11021
			}
		}
	}
	return uint16(sum)
}

// summed is b with its sum behind, as new memory.
func summed(b ...byte) []byte {
	sum := sumOf(b)
	return append(slices.Clone(b), byte(sum>>8), byte(sum))
}

// joined is a and b, one behind the other, as new memory.
func joined(a, b []byte) []byte { return append(slices.Clone(a), b...) }

// fromHex is the bytes of hexadecimal digits, blanks left out.
func fromHex(s string) []byte {
	b, err := hex.DecodeString(strings.ReplaceAll(s, " ", ""))
	if err != nil {
		panic(err)
	}
	return b
}

// example is a right command, its bytes (reckoned by other means), and its value.
type example struct {
	c     api.Command
	bytes string
	value any
}

// all are all commands that are right.
func all() []example {
	return []example{
		{api.Command{Kind: 1, Arg: 0}, "c3 01 00 80 0a", api.Ground{}},
		{api.Command{Kind: 1, Arg: 1}, "c3 01 01 90 2b", api.Ground{On: true}},
		{api.Command{Kind: 2, Arg: 0}, "c3 02 00 d5 59", api.Reset{}},
		{api.Command{Kind: 3, Arg: 0}, "c3 03 00 e6 68", api.Inhibit{Gyro: 0}},
		{api.Command{Kind: 3, Arg: 1}, "c3 03 01 f6 49", api.Inhibit{Gyro: 1}},
		{api.Command{Kind: 3, Arg: 2}, "c3 03 02 c6 2a", api.Inhibit{Gyro: 2}},
		{api.Command{Kind: 3, Arg: 3}, "c3 03 03 d6 0b", api.Inhibit{Gyro: 3}},
		{api.Command{Kind: 3, Arg: 4}, "c3 03 04 a6 ec", api.Inhibit{Gyro: 4}},
		{api.Command{Kind: 3, Arg: 5}, "c3 03 05 b6 cd", api.Inhibit{Gyro: 5}},
		{api.Command{Kind: 4, Arg: 0}, "c3 04 00 7f ff", api.Admit{Gyro: 0}},
		{api.Command{Kind: 4, Arg: 1}, "c3 04 01 6f de", api.Admit{Gyro: 1}},
		{api.Command{Kind: 4, Arg: 2}, "c3 04 02 5f bd", api.Admit{Gyro: 2}},
		{api.Command{Kind: 4, Arg: 3}, "c3 04 03 4f 9c", api.Admit{Gyro: 3}},
		{api.Command{Kind: 4, Arg: 4}, "c3 04 04 3f 7b", api.Admit{Gyro: 4}},
		{api.Command{Kind: 4, Arg: 5}, "c3 04 05 2f 5a", api.Admit{Gyro: 5}},
	}
}

// isRight is whether c is one of all that are right.
func isRight(c api.Command) bool {
	return slices.ContainsFunc(all(), func(e example) bool { return e.c == c })
}

// numbers are those near what a command has, those that a byte makes the same of, and the ends of int.
func numbers() []int {
	l := []int{math.MinInt, math.MinInt + 1, math.MaxInt - 1, math.MaxInt}
	for _, about := range []int{-1 << 62, -1 << 32, -1 << 16, -512, -256, 0, 128, 256, 512, 1 << 16, 1 << 31, 1 << 32, 1 << 62} {
		for by := -7; by <= 12; by++ {
			l = append(l, about+by)
		}
	}
	return l
}

// wrong are commands that are not right.
func wrong() []api.Command {
	var l []api.Command
	for _, kind := range numbers() {
		for _, arg := range numbers() {
			if c := (api.Command{Kind: kind, Arg: arg}); !isRight(c) {
				l = append(l, c)
			}
		}
	}
	return l
}

// P34.1 by hand: each kind's edges, and what is beyond them.
func TestP1RightByHand(t *testing.T) {
	for _, r := range []struct {
		kind, arg int
		want      bool
	}{
		{api.CmdGround, 0, true}, {api.CmdGround, 1, true}, {api.CmdGround, 2, false}, {api.CmdGround, -1, false}, {api.CmdGround, 5, false},
		{api.CmdReset, 0, true}, {api.CmdReset, 1, false}, {api.CmdReset, -1, false}, {api.CmdReset, 5, false},
		{api.CmdInhibit, 0, true}, {api.CmdInhibit, 1, true}, {api.CmdInhibit, 5, true}, {api.CmdInhibit, 6, false}, {api.CmdInhibit, -1, false},
		{api.CmdAdmit, 0, true}, {api.CmdAdmit, 1, true}, {api.CmdAdmit, 5, true}, {api.CmdAdmit, 6, false}, {api.CmdAdmit, -1, false},
		{0, 0, false}, {0, 1, false}, {5, 0, false}, {5, 1, false}, {-1, 0, false}, {-4, 5, false},
		{256 + 1, 0, false}, {1<<32 + 4, 5, false}, {4, 256, false}, {4, 1<<32 + 5, false}, {2, 256, false}, {2, 1 << 32, false},
		{math.MinInt, 0, false}, {math.MaxInt, 0, false}, {4, math.MinInt, false}, {4, math.MaxInt, false}, {2, math.MinInt, false}, {1, math.MinInt + 1, false},
	} {
		c := api.Command{Kind: r.kind, Arg: r.arg}
		is(t, call("Right", c), command.Right(c), r.want)
	}
}

// P34.1 of all kinds and arguments near those that may be, and at the ends of int.
func TestP1Right(t *testing.T) {
	right := map[api.Command]bool{}
	for _, kind := range numbers() {
		for _, arg := range numbers() {
			c := api.Command{Kind: kind, Arg: arg}
			is(t, call("Right", c), command.Right(c), isRight(c))
			if command.Right(c) {
				right[c] = true
			}
		}
	}
	is(t, call("how many are right"), len(right), 15)
}

// P34.2: the bytes of all commands that are right.
func TestP2Bytes(t *testing.T) {
	for _, e := range all() {
		written(t, e.c, fromHex(e.bytes))
		written(t, e.c, summed(0xc3, byte(e.c.Kind), byte(e.c.Arg)))
	}
}

// P34.2: of no right command there are none.
func TestP2BytesOfWrong(t *testing.T) {
	for _, c := range wrong() {
		b, err := command.Bytes(c)
		is(t, call("Bytes", c), err, api.ErrArg)
		are(t, call("Bytes", c), b, nil)
	}
}

// P34.3: the command that the bytes are.
func TestP3Read(t *testing.T) {
	for _, e := range all() {
		read(t, fromHex(e.bytes), e.c)
	}
}

// P34.3: any number of bytes but five, whatever they are.
func TestP3ReadShort(t *testing.T) {
	refused(t, nil, api.ErrShort)
	for _, e := range all() {
		whole := joined(fromHex(e.bytes), fromHex(e.bytes))
		for long := range len(whole) + 1 {
			if long == 5 {
				continue
			}
			refused(t, whole[:long], api.ErrShort) // what is behind its end does not count
			refused(t, slices.Clone(whole[:long]), api.ErrShort)
			refused(t, make([]byte, long), api.ErrShort)
			refused(t, bytes.Repeat([]byte{0xc3}, long), api.ErrShort)
		}
	}
	for _, b := range [][]byte{summed(0xc3), summed(0xc3, 2), summed(0xc3, 2, 0, 0), summed(0xc3, 4, 5, 0, 0), make([]byte, 1000)} {
		refused(t, b, api.ErrShort) // also if the sum fits
	}
}

// P34.3: they begin otherwise, whatever the sum and the command are.
func TestP3ReadBegins(t *testing.T) {
	for first := range 256 {
		if first == 0xc3 {
			continue
		}
		for _, b := range [][]byte{{2, 0}, {4, 5}, {0, 0}, {9, 9}} {
			whole := summed(byte(first), b[0], b[1])
			refused(t, whole, api.ErrForm)
			whole[4]++
			refused(t, whole, api.ErrForm)
		}
		for _, e := range all() {
			b := fromHex(e.bytes)
			b[0] = byte(first)
			refused(t, b, api.ErrForm)
		}
	}
	refused(t, make([]byte, 5), api.ErrForm)
}

// P34.3: any sum but one does not fit, also where the command is not right.
func TestP3ReadSum(t *testing.T) {
	for _, b := range [][]byte{summed(0xc3, 2, 0), summed(0xc3, 4, 5), summed(0xc3, 1, 2), summed(0xc3, 0, 0), summed(0xc3, 255, 255)} {
		fits := int(b[3])<<8 | int(b[4])
		for sum := range 1 << 16 {
			if sum == fits {
				continue
			}
			b[3], b[4] = byte(sum>>8), byte(sum)
			refused(t, b, api.ErrSum)
		}
	}
}

// P34.3: a sum that is not over these three bytes alone does not fit, nor one the lower byte first.
func TestP3ReadSumOfOthers(t *testing.T) {
	for _, e := range all() {
		b := fromHex(e.bytes)
		for from := range 4 {
			for to := from; to <= 3; to++ {
				if from == 0 && to == 3 {
					continue
				}
				sum := sumOf(b[from:to])
				refused(t, joined(b[:3], []byte{byte(sum >> 8), byte(sum)}), api.ErrSum)
			}
		}
		refused(t, joined(b[:3], []byte{b[4], b[3]}), api.ErrSum)
	}
}

// P34.3: bytes with a sum that fits, of all kinds and arguments.
func TestP3ReadForm(t *testing.T) {
	right := 0
	for kind := range 256 {
		for arg := range 256 {
			c, b := api.Command{Kind: kind, Arg: arg}, summed(0xc3, byte(kind), byte(arg))
			if isRight(c) {
				read(t, b, c)
				right++
				continue
			}
			refused(t, b, api.ErrForm)
		}
	}
	is(t, call("how many are right"), right, 15)
}

// P34.3 of any bytes: the first thing that is wrong, as the chapter names them.
func TestP3ReadOfAny(t *testing.T) {
	r := rand.New(rand.NewSource(34))
	seen := map[api.Errno]int{}
	for range 200000 {
		b := fromHex(all()[r.Intn(15)].bytes)
		for range r.Intn(4) {
			b[r.Intn(len(b))] = byte(r.Intn(8) + 0xc0*r.Intn(2))
		}
		if r.Intn(3) == 0 {
			b = summed(b[:3]...)
		}
		if r.Intn(5) == 0 {
			b = joined(b, fromHex("c3 02 00"))[:r.Intn(9)]
		}
		want := api.OK
		switch {
		case len(b) != 5:
			want = api.ErrShort
		case b[0] != 0xc3:
			want = api.ErrForm
		case !bytes.Equal(b, summed(b[:3]...)):
			want = api.ErrSum
		case !isRight(api.Command{Kind: int(b[1]), Arg: int(b[2])}):
			want = api.ErrForm
		}
		if seen[want]++; want != api.OK {
			refused(t, b, want)
			continue
		}
		read(t, b, api.Command{Kind: int(b[1]), Arg: int(b[2])})
	}
	is(t, call("how many sorts of answers"), len(seen), 4)
}

// notAny fails if Of answers anything but that v is no command's value.
func notAny(t *testing.T, v any) {
	t.Helper()
	c, err := command.Of(v)
	is(t, call("Of", v), err, api.ErrArg)
	is(t, call("Of", v), c, api.Command{})
}

// P34.4: the commands of their values.
func TestP4Of(t *testing.T) {
	for _, e := range all() {
		c, err := command.Of(e.value)
		is(t, call("Of", e.value), err, api.OK)
		is(t, call("Of", e.value), c, e.c)
	}
}

// P34.4: gyros that there are not; the chapter's example is among them.
func TestP4OfWrongGyro(t *testing.T) {
	notAny(t, api.Admit{Gyro: 6})
	for _, gyro := range numbers() {
		if gyro >= 0 && gyro < 6 {
			continue
		}
		notAny(t, api.Admit{Gyro: gyro})
		notAny(t, api.Inhibit{Gyro: gyro})
	}
}

// Values that are made as commands' values are, but are of other types.
type (
	ground  struct{ On bool }
	reset   struct{}
	inhibit struct{ Gyro int }
	admit   api.Admit
	within  struct{ api.Admit }
	marked  interface{ Marked() }
	many    []api.Admit
	either  = api.Ground // another name, not another type
)

func (admit) Marked() {}

// P34.4: any other value is none, be it ever so like.
func TestP4OfOthers(t *testing.T) {
	var nothing marked
	for _, v := range []any{
		nil, nothing, error(nil), marked(admit{}), 0, 1, 2, 3, 4, int64(2), uint8(2), true, false, "", "reset", 'r', 2.0, 1i, api.ErrArg, api.OK, errors.New("reset"),
		&api.Ground{}, &api.Ground{On: true}, &api.Reset{}, &api.Inhibit{}, &api.Admit{Gyro: 1}, &api.Command{Kind: 2},
		(*api.Ground)(nil), (*api.Reset)(nil), (*api.Inhibit)(nil), (*api.Admit)(nil), (*api.Command)(nil),
		ground{}, ground{On: true}, reset{}, inhibit{}, inhibit{Gyro: 3}, admit{}, admit{Gyro: 3}, within{},
		struct{}{}, struct{ On bool }{true}, struct{ Gyro int }{2},
		[]api.Reset{{}}, [1]api.Reset{}, [1]api.Admit{}, many{{Gyro: 1}}, map[int]api.Reset{0: {}}, []any{api.Reset{}}, [1]any{api.Reset{}}, []byte(nil), fromHex("c3 02 00 d5 59"),
		func() api.Reset { return api.Reset{} }, func() {}, make(chan api.Reset), new(any),
		api.Note{}, api.Frame{}, api.Test{Gyro: 1}, api.Step{Kind: api.StepCommand, Command: api.Command{Kind: 2}},
	} {
		notAny(t, v)
	}
	for _, e := range all() {
		notAny(t, e.c) // a command is not its own value
		notAny(t, &e.value)
		notAny(t, []any{e.value})
	}
}

// P34.4: another name of the type is the type, and an interface's value is the value.
func TestP4OfOtherNames(t *testing.T) {
	var v any = either{On: true}
	var wider interface{} = v
	for _, x := range []any{v, wider, any(wider)} {
		c, err := command.Of(x)
		is(t, call("Of", x), err, api.OK)
		is(t, call("Of", x), c, api.Command{Kind: api.CmdGround, Arg: 1})
	}
}

// P34.5: the values of which they are.
func TestP5As(t *testing.T) {
	for _, e := range all() {
		v, err := command.As(e.c)
		is(t, call("As", e.c), err, api.OK)
		is(t, call("As", e.c), v, e.value)
	}
}

// P34.5: what is not right is of no value.
func TestP5AsOfWrong(t *testing.T) {
	for _, c := range wrong() {
		v, err := command.As(c)
		is(t, call("As", c), err, api.ErrArg)
		is(t, call("As", c), v, nil)
	}
}

// P34.6: what is written is read; what is read is written so.
func TestP6WrittenAndRead(t *testing.T) {
	count := 0
	for _, kind := range numbers() {
		for _, arg := range numbers() {
			c := api.Command{Kind: kind, Arg: arg}
			if b, err := command.Bytes(c); err == api.OK {
				read(t, b, c)
				count++
			}
		}
	}
	is(t, call("how many are written"), count >= 15, true)
	count = 0
	for x := range 1 << 24 {
		b := []byte{0xc3, byte(x >> 22), byte(x >> 16 & 63), byte(x >> 8), byte(x)}
		if c, err := command.Read(b); err == api.OK {
			written(t, c, b)
			count++
		}
	}
	is(t, call("how many are read"), count, 15-6) // kinds 0 to 3
	for x := range 1 << 19 {
		b := []byte{0xc3, 4, byte(x >> 16), byte(x >> 8), byte(x)}
		if c, err := command.Read(b); err == api.OK {
			written(t, c, b)
			count++
		}
	}
	is(t, call("how many are read"), count, 15)
}

// P34.6: Of and As undo one another, and there are as many values as commands.
func TestP6OfAndAs(t *testing.T) {
	values := map[any]bool{}
	for _, kind := range numbers() {
		for _, arg := range numbers() {
			c := api.Command{Kind: kind, Arg: arg}
			if v, err := command.As(c); err == api.OK {
				again, err := command.Of(v)
				is(t, call("Of As", c), err, api.OK)
				is(t, call("Of As", c), again, c)
				values[v] = true
			}
		}
	}
	is(t, call("how many values"), len(values), 15)
	of := []any{api.Ground{}, api.Ground{On: true}, api.Reset{}}
	for _, gyro := range numbers() {
		of = append(of, api.Inhibit{Gyro: gyro}, api.Admit{Gyro: gyro})
	}
	commands := map[api.Command]bool{}
	for _, v := range of {
		if c, err := command.Of(v); err == api.OK {
			again, err := command.As(c)
			is(t, call("As Of", v), err, api.OK)
			is(t, call("As Of", v), again, v)
			commands[c] = true
		}
	}
	is(t, call("how many commands"), len(commands), 15)
}

// P34.2 to P34.5 behind one another: a value goes over the wire and is the same.
func TestP6OverTheWire(t *testing.T) {
	for _, e := range all() {
		c, _ := command.Of(e.value)
		b, _ := command.Bytes(c)
		came, err := command.Read(b)
		is(t, call("Read Bytes Of", e.value), err, api.OK)
		v, err := command.As(came)
		is(t, call("As Read Bytes Of", e.value), err, api.OK)
		is(t, call("As Read Bytes Of", e.value), v, e.value)
		for bit := range 8 * len(b) { // any bit that is turned makes it none
			b[bit/8] ^= 1 << (bit % 8)
			want := api.ErrSum
			if bit < 8 {
				want = api.ErrForm
			}
			refused(t, b, want)
			b[bit/8] ^= 1 << (bit % 8)
		}
	}
}

// R3: what is handed in stays as it was, the room behind its end too, and each answer is new memory.
func TestMemory(t *testing.T) {
	for _, e := range all() {
		whole := joined(fromHex(e.bytes), []byte{1, 2, 3, 4})
		before := slices.Clone(whole)
		for long := range len(whole) + 1 {
			command.Read(whole[:long])
			are(t, call("Read", before[:long]), whole, before)
		}
		one, _ := command.Bytes(e.c)
		other, _ := command.Bytes(e.c)
		clear(one[:cap(one)])
		are(t, call("Bytes once more", e.c), other, fromHex(e.bytes))
		written(t, e.c, fromHex(e.bytes))
	}
}
