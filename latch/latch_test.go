package latch_test

import (
	"fmt"
	"math"
	"math/rand"
	"strings"
	"testing"

	"teetotum/air"
	"teetotum/api"
	"teetotum/bank"
	"teetotum/config"
	"teetotum/hypo"
	"teetotum/ladder"
	"teetotum/latch"
	"teetotum/triple"
)

// asked is a call, written out only where it is told.
type asked struct {
	name string
	args []any
}

func call(name string, args ...any) asked { return asked{name, args} }

func (a asked) String() string {
	var words []string
	for _, x := range a.args {
		words = append(words, fmt.Sprintf("%+v", x))
	}
	return a.name + " of " + strings.Join(words, ", ")
}

// is fails if got is not want.
func is[T comparable](t *testing.T, what asked, got, want T) {
	t.Helper()
	if got != want {
		t.Fatalf("%s: %+v, want %+v", what, got, want)
	}
}

// usables and statuses are such as there are, those beside them, and the ends of the numbers.
var (
	usables  = []int{math.MinInt, -1 << 32, -9, -8, -1, 0, 1, 2, 3, 4, 5, 6, 7, 8, 9, 15, 16, 64, 1 << 32, math.MaxInt - 1, math.MaxInt}
	statuses = []int{math.MinInt, -5, -4, -1, 0, 1, 2, 3, 4, 5, 8, 1 << 32, math.MaxInt}
)

// others are bits of a set that say nothing.
var others = []int{0, 64, 1 << 20, 1 << 62, math.MinInt, -64}

// of has the flags of a text: a that there was an ambiguity, f that the memory was lost, n that all was refuted.
func of(usable, alt, speed int, flags string) api.Latch {
	return api.Latch{
		Usable: usable, Alt: alt, Speed: speed,
		Ambig: strings.Contains(flags, "a"), Forgot: strings.Contains(flags, "f"), Nothing: strings.Contains(flags, "n"),
	}
}

var allFlags = []string{"", "a", "f", "n", "af", "an", "fn", "afn"}

// latches are all of these numbers, with all flags.
func latches(usables, statuses []int) []api.Latch {
	var l []api.Latch
	for _, usable := range usables {
		for _, alt := range statuses {
			for _, speed := range statuses {
				for _, flags := range allFlags {
					l = append(l, of(usable, alt, speed, flags))
				}
			}
		}
	}
	return l
}

// upTo are all numbers from 0 to n.
func upTo(n int) []int {
	var l []int
	for i := range n + 1 {
		l = append(l, i)
	}
	return l
}

// who are the gyros of each hypothesis, in order.
var who = [22][]int{
	{},
	{0}, {1}, {2}, {3}, {4}, {5},
	{0, 1}, {0, 2}, {0, 3}, {0, 4}, {0, 5},
	{1, 2}, {1, 3}, {1, 4}, {1, 5},
	{2, 3}, {2, 4}, {2, 5},
	{3, 4}, {3, 5},
	{4, 5},
}

// hypotheses has those alive at these places.
func hypotheses(places ...int) [22]bool {
	var alive [22]bool
	for _, place := range places {
		alive[place] = true
	}
	return alive
}

// byBits has those alive whose places' bits are 1.
func byBits(bits int) [22]bool {
	var alive [22]bool
	for place := range alive {
		alive[place] = bits>>place&1 == 1
	}
	return alive
}

// blames is of each gyro whether all that are alive blame it; and how many are alive.
func blames(alive [22]bool) ([6]bool, int) {
	var by [6]int
	n := 0
	for place, is := range alive {
		if is {
			n++
			for _, i := range who[place] {
				by[i]++
			}
		}
	}
	var all [6]bool
	for i := range all {
		all[i] = n > 0 && by[i] == n
	}
	return all, n
}

// isOpen is whether some are alive, but not that which has just those gyros that all blame.
func isOpen(alive [22]bool) bool {
	blamed, n := blames(alive)
	for place, is := range alive {
		var own [6]bool
		for _, i := range who[place] {
			own[i] = true
		}
		if is && own == blamed {
			return false
		}
	}
	return n > 0
}

// left counts gyro by gyro who is in no set.
func left(excluded, inhibited, silent int) int {
	n := 0
	for i := range 6 {
		if excluded>>i&1 == 0 && inhibited>>i&1 == 0 && silent>>i&1 == 0 {
			n++
		}
	}
	return n
}

// quantity has those of its four hypotheses refuted whose bits are 1, whatever they know.
func quantity(refuted int) [4]api.Observer {
	var l [4]api.Observer
	for i := range l {
		l[i].Refuted = refuted>>i&1 == 1
		l[i].Value = api.Span{Lo: int64(7 * i), Hi: int64(20 - 7*i)}
		l[i].Bias = api.Span{Lo: -int64(i), Hi: int64(i) - 2}
	}
	return l
}

// status is of 16 quantities how good they are: the odd ones' first hypothesis is refuted.
var status = [16]int{
	0, 1, 0, 1, 0, 1, 0, 1,
	0, 1, 0, 1, 0, 1, 0, 2,
}

// nowByWords is what the chapter says of now, laid out anew.
func nowByWords(alive [22]bool, inhibited, silent, alt, speed int) api.Latch {
	blamed, n := blames(alive)
	excluded := 0
	for i, is := range blamed {
		if is {
			excluded |= 1 << i
		}
	}
	return api.Latch{
		Usable: left(excluded, inhibited, silent), Ambig: isOpen(alive),
		Alt: status[alt], Speed: status[speed], Nothing: n == 0,
	}
}

// P33.1.
func TestP1New(t *testing.T) {
	is(t, call("New"), latch.New(), api.Latch{Usable: 6, Alt: api.AirGood, Speed: api.AirGood})
	is(t, call("New's mode"), ladder.Mode(latch.New()), api.ModeFull)
}

// P33.2 by hand.
func TestP2UsableByHand(t *testing.T) {
	for _, c := range []struct{ excluded, inhibited, silent, want int }{
		{0, 0, 0, 6},
		{1, 0, 0, 5}, {0, 1, 0, 5}, {0, 0, 1, 5}, {32, 0, 0, 5}, {0, 32, 0, 5}, {0, 0, 32, 5},
		{1, 1, 1, 5}, {3, 1, 2, 4}, {1, 2, 4, 3}, {3, 6, 4, 3}, {48, 3, 33, 2}, {3, 12, 48, 0}, {63, 0, 0, 0}, {63, 63, 63, 0},
		{64, 128, 256, 6}, {65, 64, 64, 5}, {1 << 62, 0, 1 << 40, 6}, {-1, 0, 0, 0}, {0, -1, 0, 0}, {0, 0, -1, 0},
		{-64, -64, -64, 6}, {math.MinInt, math.MinInt, 0, 6}, {math.MaxInt, 0, 0, 0}, {math.MinInt + 1, 0, 0, 5}, {-2, 0, 0, 1},
	} {
		is(t, call("Usable", c.excluded, c.inhibited, c.silent), latch.Usable(c.excluded, c.inhibited, c.silent), c.want)
	}
}

// P33.2 of all sets, with other bits beside them.
func TestP2Usable(t *testing.T) {
	for n := range 64 * 64 * 64 {
		a, b, c := n%64, n/64%64, n/64/64
		want := left(a, b, c)
		a, b, c = a|others[n%6], b|others[n/6%6], c|others[n/36%6]
		if got := latch.Usable(a, b, c); got != want {
			t.Fatalf("%s: %d, want %d", call("Usable", a, b, c), got, want)
		}
	}
}

// P33.3 by hand.
func TestP3NowByHand(t *testing.T) {
	for _, c := range []struct {
		alive             [22]bool
		inhibited, silent int
		alt, speed        int // which hypotheses of them are refuted
		want              api.Latch
	}{
		{byBits(-1), 0, 0, 0, 0, of(6, 0, 0, "")},
		{hypotheses(0), 0, 0, 0, 0, of(6, 0, 0, "")},
		{hypotheses(2), 0, 0, 0, 0, of(5, 0, 0, "")},
		{hypotheses(2, 7, 12, 13, 14, 15), 0, 0, 0, 0, of(5, 0, 0, "")},
		{hypotheses(7), 0, 0, 0, 0, of(4, 0, 0, "")},
		{hypotheses(7, 8), 0, 0, 0, 0, of(5, 0, 0, "a")},  // 0+1 or 0+2: 0, and not known who else
		{hypotheses(7, 16), 0, 0, 0, 0, of(6, 0, 0, "a")}, // 0+1 or 2+3: nobody for certain
		{hypotheses(1, 2), 0, 0, 0, 0, of(6, 0, 0, "a")},
		{hypotheses(0, 7, 16), 0, 0, 0, 0, of(6, 0, 0, "")},
		{hypotheses(), 0, 0, 0, 0, of(6, 0, 0, "n")}, // nobody is excluded
		{hypotheses(), 1, 6, 0, 0, of(3, 0, 0, "n")},
		{hypotheses(7), 1, 2, 0, 0, of(4, 0, 0, "")},
		{hypotheses(7), 4, 0, 0, 0, of(3, 0, 0, "")},
		{hypotheses(7), 0, 4, 0, 0, of(3, 0, 0, "")},
		{hypotheses(7), 4, 8, 0, 0, of(2, 0, 0, "")},
		{hypotheses(21), 12, 3, 0, 0, of(0, 0, 0, "")},
		{hypotheses(7, 8), 2, 4, 0, 0, of(3, 0, 0, "a")},
		{hypotheses(0), 64, -64, 0, 0, of(6, 0, 0, "")},
		{hypotheses(0), 65, math.MinInt + 2, 0, 0, of(4, 0, 0, "")},
		{hypotheses(0), -1, 0, 0, 0, of(0, 0, 0, "")},
		{hypotheses(0), 0, 0, 0b0001, 0, of(6, 1, 0, "")},
		{hypotheses(0), 0, 0, 0, 0b0001, of(6, 0, 1, "")},
		{hypotheses(0), 0, 0, 0b1110, 0b0111, of(6, 0, 1, "")},
		{hypotheses(0), 0, 0, 0b1111, 0b1011, of(6, 2, 1, "")},
		{hypotheses(0), 0, 0, 0b1101, 0b1111, of(6, 1, 2, "")},
		{hypotheses(), 63, 63, 0b1111, 0b1111, of(0, 2, 2, "n")},
	} {
		got := latch.Now(c.alive, c.inhibited, c.silent, quantity(c.alt), quantity(c.speed))
		is(t, call("Now", c.alive, c.inhibited, c.silent, c.alt, c.speed), got, c.want)
	}
}

// anyAlive are hypotheses of all kinds that are alive: none, one, two, all but two, what tests that refuted leave, and others.
func anyAlive(r *rand.Rand) [][22]bool {
	l := [][22]bool{byBits(0), byBits(-1)}
	for a := range 22 {
		for b := range a + 1 {
			l = append(l, hypotheses(a, b), byBits(^(1<<a | 1<<b)))
		}
	}
	for range 3000 {
		var b api.Bank
		for pair := range b.Refuted {
			b.Refuted[pair] = r.Intn(3) > 0
		}
		l = append(l, hypo.Alive(b, 0), byBits(r.Int()&r.Int()), byBits(r.Int()&r.Int()&r.Int()))
	}
	return l
}

// P33.3 of all sorts of who is alive, who is inhibited and silent, and of all that may be refuted of both quantities.
func TestP3Now(t *testing.T) {
	r := rand.New(rand.NewSource(33))
	seen := map[string]int{}
	for _, alive := range anyAlive(r) {
		for range 8 {
			inhibited, silent := r.Intn(64)&r.Intn(64)|others[r.Intn(6)], r.Intn(64)&r.Intn(64)|others[r.Intn(6)]
			alt, speed := r.Intn(16)|r.Intn(16), r.Intn(16)|r.Intn(16)
			want := nowByWords(alive, inhibited, silent, alt, speed)
			got := latch.Now(alive, inhibited, silent, quantity(alt), quantity(speed))
			is(t, call("Now", alive, inhibited, silent, alt, speed), got, want)
			seen[fmt.Sprint(want.Ambig, want.Nothing)]++
			seen[fmt.Sprint("air ", want.Alt, want.Speed)]++
			seen[fmt.Sprint("usable ", want.Usable)]++
		}
	}
	if len(seen) != 3+9+7 {
		t.Errorf("not all was seen: %v", seen)
	}
}

// P33.3 of what the calls of below tell of it; nothing is forgotten now.
func TestP3NowOfBelow(t *testing.T) {
	c := config.Usual()
	alive := hypo.Alive(bank.New(), 0)
	is(t, call("Now of a new one"), latch.Now(alive, 0, 0, triple.Start(c.Alt), triple.Start(c.Speed)), latch.New())
	r := rand.New(rand.NewSource(34))
	for _, alive := range anyAlive(r) {
		inhibited, silent, alt, speed := r.Intn(64), r.Intn(64), quantity(r.Intn(16)), quantity(r.Intn(16))
		want := api.Latch{
			Usable: latch.Usable(hypo.Excluded(alive), inhibited, silent), Ambig: hypo.Ambiguous(alive),
			Alt: triple.Status(alt), Speed: triple.Status(speed), Nothing: !hypo.Any(alive),
		}
		is(t, call("Now", alive, inhibited, silent, alt, speed), latch.Now(alive, inhibited, silent, alt, speed), want)
	}
}

// P33.3 over ticks in which a pitot goes wrong, and then all: the speed gets worse, the altitude does not.
func TestP3NowOfTheAir(t *testing.T) {
	c := config.Usual()
	alt, speed := triple.Start(c.Alt), triple.Start(c.Speed)
	alive := hypo.Alive(bank.New(), 0)
	for tick, want := range []int{api.AirGood, api.AirGood, api.AirOne, api.AirLost} {
		var r api.Read
		for i := range r.There {
			r.There[i] = true
		}
		switch tick {
		case 2:
			r.Value[9] = c.Speed.Most
		case 3:
			r.Value[9], r.Value[10], r.Value[11] = c.Speed.Most, -c.Speed.Most, c.Speed.Most/2
		}
		alt, speed = air.Alt(c, alt, r), air.Speed(c, speed, r)
		is(t, call("Now at the tick", tick), latch.Now(alive, 0, 0, alt, speed), of(6, api.AirGood, want, ""))
	}
}

// P33.4 by hand: each part for itself, either way, and parts from both.
func TestP4JoinByHand(t *testing.T) {
	for _, c := range []struct{ a, b, want api.Latch }{
		{of(6, 0, 0, ""), of(6, 0, 0, ""), of(6, 0, 0, "")},
		{of(5, 0, 0, ""), of(6, 0, 0, ""), of(5, 0, 0, "")},
		{of(0, 0, 0, ""), of(6, 0, 0, ""), of(0, 0, 0, "")},
		{of(6, 1, 0, ""), of(6, 0, 0, ""), of(6, 1, 0, "")},
		{of(6, 2, 0, ""), of(6, 1, 0, ""), of(6, 2, 0, "")},
		{of(6, 0, 1, ""), of(6, 0, 0, ""), of(6, 0, 1, "")},
		{of(6, 0, 2, ""), of(6, 0, 1, ""), of(6, 0, 2, "")},
		{of(6, 0, 0, "a"), of(6, 0, 0, ""), of(6, 0, 0, "a")},
		{of(6, 0, 0, "f"), of(6, 0, 0, ""), of(6, 0, 0, "f")},
		{of(6, 0, 0, "n"), of(6, 0, 0, ""), of(6, 0, 0, "n")},
		{of(6, 0, 0, "a"), of(6, 0, 0, "f"), of(6, 0, 0, "af")},
		{of(6, 0, 0, "a"), of(6, 0, 0, "n"), of(6, 0, 0, "an")},
		{of(6, 0, 0, "f"), of(6, 0, 0, "n"), of(6, 0, 0, "fn")},
		{of(6, 0, 0, "afn"), of(6, 0, 0, "afn"), of(6, 0, 0, "afn")},
		{of(4, 2, 0, "a"), of(5, 0, 1, "n"), of(4, 2, 1, "an")}, // worse here and there
		{of(5, 0, 2, "f"), of(4, 1, 1, ""), of(4, 1, 2, "f")},
		{api.Latch{}, of(6, 2, 2, "afn"), of(0, 2, 2, "afn")},
		{api.Latch{}, api.Latch{}, api.Latch{}},
		{of(7, 3, 0, ""), of(8, 0, 3, ""), of(7, 3, 3, "")}, // also of what there is not
		{of(-1, -1, -2, ""), of(-2, -2, -1, ""), of(-2, -1, -1, "")},
		{of(math.MinInt, math.MinInt, math.MaxInt, ""), of(math.MaxInt, math.MaxInt, math.MinInt, ""), of(math.MinInt, math.MaxInt, math.MaxInt, "")},
	} {
		is(t, call("Join", c.a, c.b), latch.Join(c.a, c.b), c.want)
		is(t, call("Join", c.b, c.a), latch.Join(c.b, c.a), c.want)
	}
}

// badness are the six parts of a latch as numbers, of which a greater one is a worse one.
func badness(l api.Latch) [6]int {
	bad := [6]int{^l.Usable, l.Alt, l.Speed}
	for i, set := range []bool{l.Ambig, l.Forgot, l.Nothing} {
		if set {
			bad[3+i] = 1
		}
	}
	return bad
}

// P33.4 of any two of all kinds: each part is the worse one.
func TestP4Join(t *testing.T) {
	r := rand.New(rand.NewSource(35))
	all := latches(usables, statuses)
	for range 2000000 {
		a, b := all[r.Intn(len(all))], all[r.Intn(len(all))]
		x, y, got := badness(a), badness(b), latch.Join(a, b)
		for i, bad := range badness(got) {
			if bad != max(x[i], y[i]) {
				t.Fatalf("Join of %+v, %+v: %+v", a, b, got)
			}
		}
	}
}

// The chapter's example: joined with a new one it is as it was, unless it has more than six usable gyros.
func TestP4JoinWithNew(t *testing.T) {
	for _, l := range latches(usables, []int{0, 1, 2, 3, 4, math.MaxInt}) {
		want := l
		if l.Usable > 6 {
			want.Usable = 6
		}
		is(t, call("Join with New", l), latch.Join(l, latch.New()), want)
		is(t, call("Join of New and", l), latch.Join(latch.New(), l), want)
	}
}

// byHand are latches with their numbers.
var byHand = []struct {
	l api.Latch
	n int
}{
	{api.Latch{}, 0},
	{of(1, 0, 0, ""), 1},
	{of(6, 0, 0, ""), 6},
	{of(7, 0, 0, ""), 7},
	{of(0, 1, 0, ""), 8},
	{of(0, 2, 0, ""), 16},
	{of(0, 3, 0, ""), 24},
	{of(0, 0, 1, ""), 32},
	{of(0, 0, 2, ""), 64},
	{of(0, 0, 3, ""), 96},
	{of(0, 0, 0, "a"), 128},
	{of(0, 0, 0, "f"), 256},
	{of(0, 0, 0, "n"), 512},
	{of(0, 0, 0, "af"), 384},
	{of(0, 0, 0, "an"), 640},
	{of(0, 0, 0, "fn"), 768},
	{of(0, 0, 0, "afn"), 896},
	{of(5, 1, 2, "a"), 205},
	{of(4, 2, 1, "f"), 308},
	{of(3, 2, 2, "n"), 595},
	{of(7, 3, 3, ""), 127},
	{of(7, 3, 3, "afn"), 1023},
}

// P33.5 and P33.6 by hand.
func TestP5And6ByHand(t *testing.T) {
	for _, c := range byHand {
		n, err := latch.Bits(c.l)
		is(t, call("Bits", c.l), n, c.n)
		is(t, call("Bits", c.l), err, api.OK)
		l, err := latch.From(c.n)
		is(t, call("From", c.n), l, c.l)
		is(t, call("From", c.n), err, api.OK)
	}
}

// P33.5: what is at an edge, and what is beyond it; beside an error the number is 0.
func TestP5BitsByHand(t *testing.T) {
	for _, l := range []api.Latch{
		of(-1, 0, 0, ""), of(8, 0, 0, ""), of(-8, 0, 0, ""), of(15, 0, 0, ""), of(16, 0, 0, ""), of(1<<32, 0, 0, ""), of(math.MinInt, 0, 0, ""), of(math.MaxInt, 0, 0, ""),
		of(6, -1, 0, ""), of(6, 4, 0, ""), of(6, -4, 0, ""), of(6, 7, 0, ""), of(6, 8, 0, ""), of(6, 1<<32, 0, ""), of(6, math.MinInt, 0, ""), of(6, math.MaxInt, 0, ""),
		of(6, 0, -1, ""), of(6, 0, 4, ""), of(6, 0, -4, ""), of(6, 0, 7, ""), of(6, 0, 8, ""), of(6, 0, 1<<32, ""), of(6, 0, math.MinInt, ""), of(6, 0, math.MaxInt, ""),
		of(8, 3, 3, "afn"), of(7, 4, 3, "afn"), of(7, 3, 4, "afn"), of(14, -1, 0, ""), of(6, 5, -1, ""), of(-1, 4, 0, ""), of(-1, -1, -1, "afn"), of(8, 4, 4, ""),
	} {
		n, err := latch.Bits(l)
		is(t, call("Bits", l), n, 0)
		is(t, call("Bits", l), err, api.ErrArg)
	}
}

// P33.5 of latches of all kinds: the sum, where each part may be.
func TestP5Bits(t *testing.T) {
	right := 0
	for _, l := range latches(usables, statuses) {
		want, wrong := l.Usable+8*l.Alt+32*l.Speed, api.OK
		for i, set := range []bool{l.Ambig, l.Forgot, l.Nothing} {
			if set {
				want += 128 << i
			}
		}
		if l.Usable < 0 || l.Usable > 7 || l.Alt < 0 || l.Alt > 3 || l.Speed < 0 || l.Speed > 3 {
			want, wrong = 0, api.ErrArg
		} else {
			right++
		}
		got, err := latch.Bits(l)
		is(t, call("Bits", l), got, want)
		is(t, call("Bits", l), err, wrong)
	}
	is(t, call("how many have a number"), right, 1024)
}

// P33.6 of all numbers that latches have: part by part, by quotients.
func TestP6From(t *testing.T) {
	for n := range 1024 {
		want := api.Latch{
			Usable: n % 8, Alt: n / 8 % 4, Speed: n / 32 % 4,
			Ambig: n/128%2 == 1, Forgot: n/256%2 == 1, Nothing: n/512 == 1,
		}
		got, err := latch.From(n)
		is(t, call("From", n), got, want)
		is(t, call("From", n), err, api.OK)
	}
}

// P33.6 of numbers that no latch has: beside the error it has nothing.
func TestP6FromWrong(t *testing.T) {
	wrong := []int{math.MinInt, math.MinInt + 1, -1 << 32, -1024, -1023, 1 << 32, 1<<32 + 6, math.MaxInt - 1, math.MaxInt}
	for n := range 5000 {
		wrong = append(wrong, -1-n, 1024+n)
	}
	for _, n := range wrong {
		l, err := latch.From(n)
		is(t, call("From", n), l, api.Latch{})
		is(t, call("From", n), err, api.ErrArg)
	}
}

// P33.7: what is joined is nowhere better than either; and whatever is that is nowhere better than what is joined.
func TestP7JoinIsTheBest(t *testing.T) {
	all := append(latches([]int{0, 3, 4, 6}, []int{0, 1, 2}), latches([]int{math.MinInt, -1, 7, math.MaxInt}, []int{math.MinInt, 3})...)
	r := rand.New(rand.NewSource(36))
	met := 0
	for _, a := range all {
		for _, b := range all {
			joined := latch.Join(a, b)
			if !ladder.Worse(joined, a) || !ladder.Worse(joined, b) {
				t.Fatalf("Join of %+v, %+v: %+v is better", a, b, joined)
			}
			for range 8 {
				c := all[r.Intn(len(all))]
				both := ladder.Worse(c, a) && ladder.Worse(c, b)
				if both != ladder.Worse(c, joined) {
					t.Fatalf("Join of %+v, %+v: %+v; %+v is nowhere better than both: %v", a, b, joined, c, both)
				}
				if both {
					met++
				}
			}
		}
	}
	if met < 1000 {
		t.Errorf("only %d were nowhere better than both", met)
	}
}

// P33.7: in any order, and once more, it is the same.
func TestP7JoinInAnyOrder(t *testing.T) {
	all := latches(usables, statuses)
	r := rand.New(rand.NewSource(37))
	for range 300000 {
		a, b, c := all[r.Intn(len(all))], all[r.Intn(len(all))], all[r.Intn(len(all))]
		joined := latch.Join(latch.Join(a, b), c)
		for _, again := range []api.Latch{
			latch.Join(a, latch.Join(b, c)), latch.Join(latch.Join(c, a), b), latch.Join(c, latch.Join(b, a)),
			latch.Join(joined, a), latch.Join(b, joined), latch.Join(joined, joined),
		} {
			is(t, call("Join in another order, or once more", a, b, c), again, joined)
		}
		is(t, call("Join with itself", a), latch.Join(a, a), a)
	}
}

// P33.7 over ticks: what has been joined gets no better, and is as bad as each tick was; nor does its mode.
func TestP7JoinOverTicks(t *testing.T) {
	r := rand.New(rand.NewSource(38))
	for range 300 {
		l := latch.New()
		var ticks []api.Latch
		for range 20 {
			alive := byBits(r.Int() | r.Int() | r.Int() | r.Int())
			now := latch.Now(alive, 1<<r.Intn(40), 1<<r.Intn(40), quantity(r.Intn(16)&r.Intn(16)), quantity(r.Intn(16)&r.Intn(16)))
			next := latch.Join(l, now)
			is(t, call("worse than it was", next, l), ladder.Worse(next, l), true)
			is(t, call("no better mode", next, l), ladder.Mode(next) >= max(ladder.Mode(l), ladder.Mode(now)), true)
			l, ticks = next, append(ticks, now)
			for _, tick := range ticks {
				is(t, call("worse than a tick", l, tick), ladder.Worse(l, tick), true)
			}
		}
	}
}

// P33.8: whatever number there is, its latch has it; whatever latch has a number, it is that number's.
func TestP8Undo(t *testing.T) {
	for n := -3000; n < 5000; n++ {
		if l, err := latch.From(n); err == api.OK {
			again, err := latch.Bits(l)
			is(t, call("Bits of From", n), again, n)
			is(t, call("Bits of From", n), err, api.OK)
		}
	}
	seen := map[int]bool{}
	for _, l := range latches(upTo(12), upTo(6)) {
		if n, err := latch.Bits(l); err == api.OK {
			again, err := latch.From(n)
			is(t, call("From of Bits", l), again, l)
			is(t, call("From of Bits", l), err, api.OK)
			seen[n] = true
		}
	}
	is(t, call("how many numbers"), len(seen), 1024)
}
