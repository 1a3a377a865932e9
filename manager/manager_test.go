package manager_test

import (
	"fmt"
	"math"
	"math/rand"
	"reflect"
	"slices"
	"strings"
	"testing"

	"teetotum/air"
	"teetotum/angle"
	"teetotum/api"
	"teetotum/bank"
	"teetotum/bus"
	"teetotum/clean"
	"teetotum/command"
	"teetotum/config"
	"teetotum/frame"
	"teetotum/geom"
	"teetotum/hypo"
	"teetotum/ladder"
	"teetotum/latch"
	"teetotum/manager"
	"teetotum/rate"
	"teetotum/stream"
	"teetotum/triple"
)

// asked is a call, written out only where it is told.
type asked struct {
	name string
	args []any
}

func call(name string, args ...any) asked { return asked{name, args} }

func (a asked) String() string {
	var words []string
	for _, x := range a.args {
		words = append(words, fmt.Sprintf("%+v", x))
	}
	return a.name + " of " + strings.Join(words, ", ")
}

// is fails if got is not want.
func is[T comparable](t *testing.T, what asked, got, want T) {
	t.Helper()
	if got != want {
		t.Fatalf("%s: %+v, want %+v", what, got, want)
	}
}

// same is whether both are the same manager: nil and empty lists are.
func same(a, b api.Manager) bool {
	if !slices.Equal(a.Part, b.Part) || !slices.Equal(a.Angle.Ring, b.Angle.Ring) {
		return false
	}
	a.Part, b.Part, a.Angle.Ring, b.Angle.Ring = nil, nil, nil, nil
	return reflect.DeepEqual(a, b)
}

// alike fails if got is not the manager that want is.
func alike(t *testing.T, what asked, got, want api.Manager) {
	t.Helper()
	if same(got, want) {
		return
	}
	a, b := reflect.ValueOf(got), reflect.ValueOf(want)
	for i := range a.NumField() {
		if x, y := fmt.Sprintf("%+v", a.Field(i)), fmt.Sprintf("%+v", b.Field(i)); x != y {
			t.Errorf("%s: %s is %s, want %s", what, a.Type().Field(i).Name, x, y)
		}
	}
	t.FailNow()
}

// who are the gyros of each hypothesis, in order; from the seventh on they are the pairs.
var who = [22][]int{
	{},
	{0}, {1}, {2}, {3}, {4}, {5},
	{0, 1}, {0, 2}, {0, 3}, {0, 4}, {0, 5},
	{1, 2}, {1, 3}, {1, 4}, {1, 5},
	{2, 3}, {2, 4}, {2, 5},
	{3, 4}, {3, 5},
	{4, 5},
}

// others are bits of a set that say nothing.
var others = []int{0, 64, 1 << 20, 1 << 62, math.MinInt, -64}

// in is whether the gyro's bit is 1.
func in(set, i int) bool { return i >= 0 && i < 6 && set>>i&1 == 1 }

// set is that of these gyros.
func set(gyros ...int) int {
	n := 0
	for _, i := range gyros {
		n |= 1 << i
	}
	return n
}

// fresh is a new manager of the usual configuration.
func fresh(t *testing.T) api.Manager {
	t.Helper()
	m, err := manager.New(config.Usual())
	is(t, call("New"), err, api.OK)
	return m
}

// refuting is a bank in which the pairs have refuted whose bits are 1.
func refuting(pairs int) api.Bank {
	var b api.Bank
	for pair := range b.Refuted {
		b.Refuted[pair] = pairs>>pair&1 == 1
	}
	return b
}

// only is a bank that leaves alive just what needs all of these gyros to be bad.
func only(gyros ...int) api.Bank {
	var b api.Bank
	for pair := range b.Refuted {
		b.Refuted[pair] = false
		for _, i := range gyros {
			if !slices.Contains(who[7+pair], i) {
				b.Refuted[pair] = true
			}
		}
	}
	return b
}

// nothingLeft is a bank that leaves nothing alive.
var nothingLeft = refuting(1<<15 - 1)

// saying is m with what is set in it.
func saying(m api.Manager, more func(m *api.Manager)) api.Manager {
	more(&m)
	return m
}

// allThere are readings of every source.
func allThere(value [12]int64) api.Read {
	r := api.Read{Value: value}
	for i := range r.There {
		r.There[i] = true
	}
	return r
}

// aliveByWords is who is alive, by the gyros of each hypothesis.
func aliveByWords(b api.Bank, known int) [22]bool {
	var alive [22]bool
	for place, gyros := range who {
		alive[place] = true
		for i := range 6 {
			if in(known, i) && !slices.Contains(gyros, i) {
				alive[place] = false
			}
		}
		for pair, refuted := range b.Refuted {
			isWhole := !slices.ContainsFunc(gyros, func(i int) bool { return !slices.Contains(who[7+pair], i) })
			if refuted && isWhole {
				alive[place] = false
			}
		}
	}
	return alive
}

// blamedByWords is in how many hypotheses that are alive each gyro is, and how many are alive.
func blamedByWords(alive [22]bool) ([6]int, int) {
	var by [6]int
	n := 0
	for place, is := range alive {
		if !is {
			continue
		}
		n++
		for _, i := range who[place] {
			by[i]++
		}
	}
	return by, n
}

// excludedByWords are the gyros in all hypotheses that are alive.
func excludedByWords(alive [22]bool) int {
	by, n := blamedByWords(alive)
	excluded := 0
	for i := range by {
		if n > 0 && by[i] == n {
			excluded |= 1 << i
		}
	}
	return excluded
}

// silentByWords are the gyros that are silent.
func silentByWords(m api.Manager) int {
	silent := 0
	for i := range 6 {
		if m.Sources[i].Silent {
			silent |= 1 << i
		}
	}
	return silent
}

// worseByWords is what the chapter says of what is worse now.
func worseByWords(m api.Manager) api.Manager {
	alive := aliveByWords(m.Bank, m.Known)
	m.Latch = latch.Join(m.Latch, latch.Now(alive, m.Inhibit, silentByWords(m), m.Alt, m.Speed))
	m.Mode = ladder.Mode(m.Latch)
	return m
}

// anewByWords is what the chapter says of all that begins anew.
func anewByWords(m api.Manager) api.Manager {
	m.Sources = bus.New()
	m.Known, m.Inhibit = 0, 0
	m.Bank = bank.New()
	m.Latch = latch.New()
	m.Angle = angle.New()
	m.Alt, m.Speed = triple.Start(m.Config.Alt), triple.Start(m.Config.Speed)
	m.Test = clean.None()
	m.Rate = api.Rate{}
	m.Part = nil
	m.Mode = ladder.Mode(m.Latch)
	return m
}

// tickByWords is what the chapter says of a tick.
func tickByWords(m api.Manager) api.Manager {
	var r api.Read
	for i, s := range m.Sources {
		if s.There && !in(m.Inhibit, i) {
			r.Value[i], r.There[i] = s.Value, true
		}
	}
	m.Bank = bank.Update(m.Bank, m.Config, r)
	alive := aliveByWords(m.Bank, m.Known)
	m.Rate = rate.Out(m.Config, alive, r)
	m.Angle = angle.Push(m.Angle, m.Config, alive, r)
	m.Alt = triple.Step(m.Config.Alt, m.Alt, [3]int64(r.Value[6:9]), [3]bool(r.There[6:9]))
	m.Speed = triple.Step(m.Config.Speed, m.Speed, [3]int64(r.Value[9:12]), [3]bool(r.There[9:12]))
	m.Test = clean.Step(m.Test, m.Config, m.Rate, r)
	m.Sources = bus.End(m.Sources, m.Config.Miss)
	if clean.Passed(m.Test, m.Config) {
		m.Known = excludedByWords(alive) &^ (1 << m.Test.Gyro)
		m.Bank = api.Bank{}
		m.Test = api.Test{Gyro: -1}
		m.Latch.Usable, m.Latch.Ambig, m.Latch.Nothing = 6, false, false
	}
	if m.Tick++; m.Tick > 100000 {
		m.Tick = 100000
	}
	return worseByWords(m)
}

// doByWords is what the chapter says of a command.
func doByWords(m api.Manager, c api.Command) (api.Manager, api.Errno) {
	if !command.Right(c) {
		return m, api.ErrArg
	}
	switch c.Kind {
	case 1:
		if m.Ground = c.Arg == 1; c.Arg == 0 {
			m.Test = api.Test{Gyro: -1}
		}
	case 2:
		if !m.Ground {
			return m, api.ErrState
		}
		m = anewByWords(m)
	case 3:
		m.Inhibit |= 1 << c.Arg
		m = worseByWords(m)
	case 4:
		test, err := clean.Begin(m.Ground, excludedByWords(aliveByWords(m.Bank, m.Known)), c.Arg)
		if err != api.OK {
			return m, err
		}
		m.Test = test
	}
	return m, api.OK
}

// wordsByWords is what the chapter says of the words.
func wordsByWords(m api.Manager) string {
	text := func(set int) string {
		var digits []string
		for i := range 6 {
			if in(set, i) {
				digits = append(digits, fmt.Sprint(i))
			}
		}
		return strings.Join(digits, "+")
	}
	names := map[int]string{0: "FULL", 1: "FAIL-OP", 2: "FAIL-SAFE", 3: "AMBIGUOUS", 4: "RATE-ONLY", 5: "NAV-LOST"}
	words := names[m.Mode] + ": " + hypo.Text(aliveByWords(m.Bank, m.Known))
	if s := text(m.Inhibit); s != "" {
		words += ", inhibited " + s
	}
	if s := text(silentByWords(m)); s != "" {
		words += ", silent " + s
	}
	if m.Test.Gyro >= 0 && m.Test.Gyro < 6 {
		words += fmt.Sprintf(", tested %d", m.Test.Gyro)
	}
	return words
}

// healthByWords is what the chapter says of the health.
func healthByWords(m api.Manager) [6]int {
	alive := aliveByWords(m.Bank, m.Known)
	by, _ := blamedByWords(alive)
	var health [6]int
	for i := range health {
		if by[i] > 0 && !alive[0] {
			health[i] = 1
		}
		if in(silentByWords(m), i) {
			health[i] = 2
		}
		if in(m.Inhibit, i) {
			health[i] = 3
		}
		if in(excludedByWords(alive), i) {
			health[i] = 4
		}
	}
	return health
}

// rightConfigs are configurations that may be.
func rightConfigs() []api.Config {
	usual := config.Usual()
	quick, exact, turned, wide := usual, usual, usual, usual
	quick.Miss, quick.Clean, quick.Limit, quick.Ceil = 1, 1, 1, 1
	exact.Eps, exact.Alt.Eps, exact.Speed.Eps = 0, [3]int64{}, [3]int64{}
	turned.Axes = geom.Turned(usual.Axes)
	wide.Eps, wide.Rate, wide.Rail, wide.Limit, wide.Ceil = 1<<20, api.MaxRate, api.MaxRead, 1<<40, 1<<50
	wide.Miss, wide.Clean = 1000, 1000
	wide.Alt.Most, wide.Speed.Most, wide.Alt.Biased = api.MaxAir, 1, [3]bool{true, true, true}
	return []api.Config{usual, quick, exact, turned, wide}
}

// someConfigs are configurations that may be, and such as may not.
func someConfigs() []api.Config {
	usual := config.Usual()
	flat, far, never, below := usual, usual, usual, usual
	flat.Axes[1] = flat.Axes[0]
	far.Axes[3], far.Rate, far.Eps = api.Vec{math.MaxInt64, math.MinInt64, 7}, math.MaxInt64, math.MinInt64
	never.Miss, never.Clean = 0, 0
	below.Miss, below.Clean, below.Limit, below.Ceil, below.Alt.Most = math.MinInt, -3, -5, -9, -100
	return append(rightConfigs(), api.Config{}, flat, far, never, below)
}

// anyNumber is one near 0, at an edge, or anywhere.
func anyNumber(r *rand.Rand) int64 {
	switch r.Intn(5) {
	case 0:
		return []int64{math.MinInt64, math.MinInt64 + 1, math.MaxInt64, -1 << 32, 1 << 40}[r.Intn(5)]
	case 1:
		return int64(r.Uint64())
	default:
		return int64(r.Intn(2000) - 1000)
	}
}

func anySpan(r *rand.Rand) api.Span {
	a, b := anyNumber(r), anyNumber(r)
	if r.Intn(6) > 0 {
		return api.Span{Lo: min(a, b), Hi: max(a, b)}
	}
	return api.Span{Lo: a, Hi: b}
}

func anyBox(r *rand.Rand) api.Box { return api.Box{anySpan(r), anySpan(r), anySpan(r)} }

func anyVec(r *rand.Rand) api.Vec { return api.Vec{anyNumber(r), anyNumber(r), anyNumber(r)} }

// reads are what six good gyros read of a rate, each off a bit, and any of the air.
func reads(r *rand.Rand, c api.Config, v api.Vec) [12]int64 {
	var l [12]int64
	for i, axis := range c.Axes {
		l[i] = axis[0]*v[0] + axis[1]*v[1] + axis[2]*v[2] + int64(r.Intn(7)-3)
	}
	for i := 6; i < 12; i++ {
		l[i] = int64(r.Intn(40) + 480)
	}
	return l
}

// anySource is one that read something, or not.
func anySource(r *rand.Rand, value int64) api.Source {
	s := api.Source{Count: r.Intn(256), Missed: r.Intn(4), Silent: r.Intn(9) == 0}
	if r.Intn(8) > 0 {
		s.Value, s.There = value, true
	}
	if r.Intn(30) == 0 {
		s.Value = anyNumber(r)
	}
	return s
}

func anyObservers(r *rand.Rand) [4]api.Observer {
	var l [4]api.Observer
	for i := range l {
		l[i] = api.Observer{Value: anySpan(r), Bias: anySpan(r), Refuted: r.Intn(5) == 0}
	}
	return l
}

func anyRead(r *rand.Rand, c api.Config) api.Read {
	x := allThere(reads(r, c, api.Vec{int64(r.Intn(100)), int64(r.Intn(100)), int64(r.Intn(100))}))
	if r.Intn(6) == 0 {
		x.Value[r.Intn(12)] = anyNumber(r)
	}
	if r.Intn(6) == 0 {
		x.There[r.Intn(12)] = false
	}
	return x
}

// anyTest is of a gyro, of nobody, or of what is no gyro.
func anyTest(r *rand.Rand) api.Test {
	return api.Test{Gyro: r.Intn(9) - 2, Clean: []int{0, 1, 2, 3, 3, 3, 4, 999, 5000, -1}[r.Intn(10)]}
}

// anyManager is one of any kind, whether it can come of calls or not.
func anyManager(r *rand.Rand) api.Manager {
	l := someConfigs()
	c := l[r.Intn(len(l))]
	m := api.Manager{
		Config: c, Tick: []int{0, 1, 77, -5, 99998, 99999, 100000, 100001, 1 << 40}[r.Intn(9)], Ground: r.Intn(2) == 0,
		Known: 1<<r.Intn(6)&r.Intn(64) | others[r.Intn(6)], Inhibit: r.Intn(64)&r.Intn(64)&r.Intn(64) | others[r.Intn(6)],
		Latch: api.Latch{Usable: r.Intn(9) - 1, Ambig: r.Intn(4) == 0, Alt: r.Intn(4), Speed: r.Intn(4) - 1, Forgot: r.Intn(4) == 0, Nothing: r.Intn(4) == 0},
		Angle: api.Angle{Base: anyBox(r)}, Alt: triple.Start(c.Alt), Speed: triple.Start(c.Speed), Test: anyTest(r),
		Rate: api.Rate{Valid: r.Intn(2) == 0, Value: anyVec(r), Bound: anyVec(r), Box: anyBox(r)}, Mode: r.Intn(9) - 1,
	}
	switch r.Intn(4) {
	case 0:
		m.Bank = refuting(r.Intn(1<<15) & r.Intn(1<<15))
	case 1:
		m.Bank = only(r.Intn(6))
	case 2:
		m.Bank = only(who[7+r.Intn(15)]...)
	}
	for pair := range m.Bank.Count {
		m.Bank.Count[pair] = int64(r.Intn(60000)) * int64(r.Intn(2))
	}
	if r.Intn(3) == 0 {
		m.Alt, m.Speed = anyObservers(r), anyObservers(r)
	}
	values := reads(r, c, api.Vec{int64(r.Intn(300)), int64(r.Intn(300)), int64(r.Intn(300))})
	for i := range m.Sources {
		m.Sources[i] = anySource(r, values[i])
	}
	for range r.Intn(11) {
		m.Angle.Ring = append(m.Angle.Ring, anyRead(r, c))
	}
	m.Part = [][]byte{nil, {}, {0xa5}, {0xa5, 0x5a, 3}, {1, 2, 3, 4, 5, 6, 7, 8, 9, 10, 11, 12}}[r.Intn(5)]
	return m
}

// P36.1, by hand.
func TestP1New(t *testing.T) {
	var sources [12]api.Source
	for i := range sources {
		sources[i].Count = -1
	}
	alt := api.Observer{Value: api.Span{Lo: -60000, Hi: 60000}, Bias: api.Span{Lo: -200, Hi: 200}}
	speed := api.Observer{Value: api.Span{Lo: -1000, Hi: 1000}, Bias: api.Span{Lo: -80, Hi: 80}}
	alike(t, call("New"), fresh(t), api.Manager{
		Config:  config.Usual(),
		Sources: sources,
		Latch:   api.Latch{Usable: 6},
		Alt:     [4]api.Observer{alt, alt, alt, alt},
		Speed:   [4]api.Observer{speed, speed, speed, speed},
		Test:    api.Test{Gyro: -1},
		Mode:    api.ModeFull,
	})
}

// P36.1 of all configurations that may be.
func TestP1NewOfRight(t *testing.T) {
	for _, c := range rightConfigs() {
		m, err := manager.New(c)
		is(t, call("New", c), err, api.OK)
		alike(t, call("New", c), m, anewByWords(api.Manager{Config: c}))
	}
}

// P36.1 of configurations that may not be, in the errors' order.
func TestP1NewOfWrong(t *testing.T) {
	for n, e := range []struct {
		with func(c *api.Config)
		want api.Errno
	}{
		{func(c *api.Config) { c.Axes[4] = c.Axes[2] }, api.ErrFlat},
		{func(c *api.Config) { c.Axes = [6]api.Vec{} }, api.ErrFlat},
		{func(c *api.Config) { c.Axes[4], c.Eps = c.Axes[2], -1 }, api.ErrFlat},
		{func(c *api.Config) { c.Axes[4], c.Axes[2][0] = c.Axes[2], 31 }, api.ErrArg},
		{func(c *api.Config) { c.Axes[5][1] = -31 }, api.ErrArg},
		{func(c *api.Config) { c.Axes[0][2] = math.MinInt64 }, api.ErrArg},
		{func(c *api.Config) { c.Eps = -1 }, api.ErrArg},
		{func(c *api.Config) { c.Eps = 1<<20 + 1 }, api.ErrArg},
		{func(c *api.Config) { c.Rate = 0 }, api.ErrArg},
		{func(c *api.Config) { c.Rate = api.MaxRate + 1 }, api.ErrArg},
		{func(c *api.Config) { c.Rail = 0 }, api.ErrArg},
		{func(c *api.Config) { c.Rail = api.MaxRead + 1 }, api.ErrArg},
		{func(c *api.Config) { c.Limit = 0 }, api.ErrArg},
		{func(c *api.Config) { c.Ceil = c.Limit - 1 }, api.ErrArg},
		{func(c *api.Config) { c.Ceil = 1<<50 + 1 }, api.ErrArg},
		{func(c *api.Config) { c.Miss = 0 }, api.ErrArg},
		{func(c *api.Config) { c.Miss = 1001 }, api.ErrArg},
		{func(c *api.Config) { c.Clean = 0 }, api.ErrArg},
		{func(c *api.Config) { c.Clean = 1001 }, api.ErrArg},
		{func(c *api.Config) { c.Alt.Most = 0 }, api.ErrArg},
		{func(c *api.Config) { c.Speed.Eps[2] = -1 }, api.ErrArg},
		{func(c *api.Config) { c.Speed.Move = 1<<20 + 1 }, api.ErrArg},
		{func(c *api.Config) { *c = api.Config{} }, api.ErrFlat},
	} {
		c := config.Usual()
		e.with(&c)
		m, err := manager.New(c)
		is(t, call("New", n, c), err, e.want)
		is(t, call("config.Right", n, c), config.Right(c), e.want)
		alike(t, call("New", n, c), m, api.Manager{})
	}
}

// The chapter's example.
func TestExample(t *testing.T) {
	is(t, call("New's mode"), fresh(t).Mode, api.ModeFull)
}

// P36.2, by hand.
func TestP2ByHand(t *testing.T) {
	for n, e := range []struct {
		bank     api.Bank
		known    int
		alive    [][]int
		excluded int
	}{
		{api.Bank{}, 0, who[:], 0},
		{only(1), 0, [][]int{{1}, {0, 1}, {1, 2}, {1, 3}, {1, 4}, {1, 5}}, set(1)},
		{only(0, 5), 0, [][]int{{0, 5}}, set(0, 5)},
		{api.Bank{}, set(3), [][]int{{3}, {0, 3}, {1, 3}, {2, 3}, {3, 4}, {3, 5}}, set(3)},
		{api.Bank{}, set(3) | 64, [][]int{{3}, {0, 3}, {1, 3}, {2, 3}, {3, 4}, {3, 5}}, set(3)},
		{api.Bank{}, set(2, 4), [][]int{{2, 4}}, set(2, 4)},
		{only(1), set(3), [][]int{{1, 3}}, set(1, 3)},
		{only(1), set(1), [][]int{{1}, {0, 1}, {1, 2}, {1, 3}, {1, 4}, {1, 5}}, set(1)},
		{only(1, 2), set(3), [][]int{}, 0},
		{api.Bank{}, set(1, 2, 3), [][]int{}, 0},
		{nothingLeft, 0, [][]int{}, 0},
		{nothingLeft, set(1), [][]int{}, 0},
		{refuting(1<<15 - 1 - 1<<0 - 1<<1), 0, [][]int{{0, 1}, {0, 2}}, set(0)},
		{refuting(1<<15 - 1 - 1<<0 - 1<<9), 0, [][]int{{0, 1}, {2, 3}}, 0},
	} {
		m := saying(fresh(t), func(m *api.Manager) { m.Bank, m.Known = e.bank, e.known })
		var want [22]bool
		for place, gyros := range who {
			want[place] = slices.ContainsFunc(e.alive, func(l []int) bool { return slices.Equal(l, gyros) })
		}
		is(t, call("Alive", n), manager.Alive(m), want)
		is(t, call("Excluded", n), manager.Excluded(m), e.excluded)
	}
}

// P36.2 of all sets of pairs that have refuted, and who is known.
func TestP2Alive(t *testing.T) {
	m := fresh(t)
	knowns := []int{0, 0, 0, 1, 4, 32, 3, 48, 7, 63}
	for pairs := range 1 << 15 {
		m.Bank = refuting(pairs)
		m.Known = knowns[pairs%10] | others[pairs%6]
		alive := aliveByWords(m.Bank, m.Known)
		is(t, call("Alive", pairs, m.Known), manager.Alive(m), alive)
		is(t, call("Excluded", pairs, m.Known), manager.Excluded(m), excludedByWords(alive))
	}
}

// sent are the bytes of a frame that is well.
func sent(source, count int, value int64) []byte {
	b, _ := frame.Bytes(api.Frame{Source: source, Count: count, Well: true, Value: value})
	return b
}

// ill are the bytes of a frame that is not well.
func ill(source, count int, value int64) []byte {
	b, _ := frame.Bytes(api.Frame{Source: source, Count: count, Value: value})
	return b
}

// P36.3, by hand: byte by byte what came.
func TestP3FeedByHand(t *testing.T) {
	first := fresh(t)
	one, two := sent(2, 7, -900), sent(8, 200, 31000)
	m := first
	for n, e := range []struct {
		bytes []byte
		lost  int
		part  []byte
		two   api.Source
		eight api.Source
	}{
		{nil, 0, nil, api.Source{Count: -1}, api.Source{Count: -1}},
		{[]byte{1, 2, 3}, 3, nil, api.Source{Count: -1}, api.Source{Count: -1}},
		{one[:5], 0, one[:5], api.Source{Count: -1}, api.Source{Count: -1}},
		{nil, 0, one[:5], api.Source{Count: -1}, api.Source{Count: -1}},
		{append(slices.Clone(one[5:]), 9, 0xa5), 1, []byte{0xa5}, api.Source{Count: 7, Value: -900, There: true}, api.Source{Count: -1}},
		{two[1:], 0, nil, api.Source{Count: 7, Value: -900, There: true}, api.Source{Count: 200, Value: 31000, There: true}},
		{sent(2, 8, 5), 1, nil, api.Source{Count: 7, Value: -900, There: true}, api.Source{Count: 200, Value: 31000, There: true}},
		{append([]byte{0}, two...), 2, nil, api.Source{Count: 7, Value: -900, There: true}, api.Source{Count: 200, Value: 31000, There: true}},
	} {
		got, lost := manager.Feed(m, e.bytes)
		is(t, call("Feed's lost", n), lost, e.lost)
		want := first
		want.Part = e.part
		want.Sources[2], want.Sources[8] = e.two, e.eight
		alike(t, call("Feed", n), got, want)
		m = got
	}
}

// P36.3: all that may be wrong with a frame.
func TestP3FeedOfWrongFrames(t *testing.T) {
	first := saying(fresh(t), func(m *api.Manager) {
		m.Sources[0] = api.Source{Count: 5, Missed: 3, Silent: true}
		m.Sources[1] = api.Source{Count: 5, Value: 77, There: true}
		m.Sources[2] = api.Source{Count: 5}
	})
	unsummed := sent(2, 6, 1)
	unsummed[10] ^= 1
	twelve := []byte{0xa5, 0x5a, 12, 0, 1, 0, 0, 0, 0, 0, 0}
	for n, e := range []struct {
		bytes  []byte
		lost   int
		source int
		want   api.Source
	}{
		{sent(0, 6, 1), 1, 0, first.Sources[0]},
		{sent(1, 6, 1), 1, 1, first.Sources[1]},
		{sent(2, 5, 1), 1, 2, first.Sources[2]},
		{sent(2, 4, 1), 1, 2, first.Sources[2]},
		{sent(2, 133, 1), 1, 2, first.Sources[2]},
		{sent(2, 132, 1), 0, 2, api.Source{Count: 132, Value: 1, There: true}},
		{ill(2, 6, 1), 1, 2, api.Source{Count: 6}},
		{sent(2, 6, 100000), 1, 2, api.Source{Count: 6}},
		{sent(2, 6, -100000), 1, 2, api.Source{Count: 6}},
		{sent(2, 6, 99999), 0, 2, api.Source{Count: 6, Value: 99999, There: true}},
		{sent(2, 6, -99999), 0, 2, api.Source{Count: 6, Value: -99999, There: true}},
		{sent(6, 0, 1<<25), 1, 6, api.Source{Count: 0}},
		{sent(6, 0, 1<<25-1), 0, 6, api.Source{Count: 0, Value: 1<<25 - 1, There: true}},
		{sent(11, 255, -1<<25+1), 0, 11, api.Source{Count: 255, Value: -1<<25 + 1, There: true}},
		{unsummed, 11, 2, first.Sources[2]},
		{twelve, 11, 2, first.Sources[2]},
		{slices.Concat(sent(2, 6, 1), sent(2, 7, 2)), 1, 2, api.Source{Count: 6, Value: 1, There: true}},
		{slices.Concat(ill(2, 6, 1), []byte{3, 4}, sent(2, 7, 2), sent(2, 8, 2), sent(0, 8, 2)), 5, 2, api.Source{Count: 7, Value: 2, There: true}},
	} {
		got, lost := manager.Feed(first, e.bytes)
		is(t, call("Feed's lost", n), lost, e.lost)
		want := first
		want.Sources[e.source] = e.want
		alike(t, call("Feed", n), got, want)
	}
}

// anyBytes are frames of all sorts with other bytes between.
func anyBytes(r *rand.Rand) []byte {
	var b []byte
	for range r.Intn(12) {
		f, _ := frame.Bytes(api.Frame{Source: r.Intn(12), Count: r.Intn(4), Well: r.Intn(6) > 0, Value: int64(r.Intn(220000) - 110000)})
		switch r.Intn(6) {
		case 0:
			f[r.Intn(len(f))] ^= byte(1 << r.Intn(8))
		case 1:
			f = f[:r.Intn(len(f))]
		case 2:
			f = append(f, byte(r.Intn(256)), 0xa5)
		}
		b = append(b, f...)
	}
	return b
}

// P36.3: what is found and taken is what the layers below say of it, whatever the manager is.
func TestP3Feed(t *testing.T) {
	r := rand.New(rand.NewSource(363))
	sorts := map[int]int{}
	for range 4000 {
		m := anyManager(r)
		b := anyBytes(r)
		frames, left, lost := stream.Feed(m.Part, b)
		want := m
		want.Part = left
		for _, f := range frames {
			var err api.Errno
			want.Sources, err = bus.Take(want.Sources, f, m.Config)
			if err != api.OK {
				lost++
			}
		}
		got, n := manager.Feed(m, b)
		is(t, call("Feed's lost", b), n, lost)
		alike(t, call("Feed", b), got, want)
		sorts[min(lost, 3)]++
	}
	is(t, call("sorts of lost", sorts), len(sorts), 4)
}

// P36.3: fed piece by piece it is as fed in one.
func TestP3FeedPieceByPiece(t *testing.T) {
	r := rand.New(rand.NewSource(364))
	for range 2000 {
		m := fresh(t)
		b := anyBytes(r)
		whole, lost := manager.Feed(m, b)
		n := 0
		for rest := b; len(rest) > 0; {
			piece := 1 + r.Intn(min(15, len(rest)))
			next, more := manager.Feed(m, rest[:piece])
			m, rest, n = next, rest[piece:], n+more
		}
		is(t, call("Feed's lost", b), n, lost)
		alike(t, call("Feed", b), m, whole)
	}
}

// P36.4: a tick of managers of all kinds is what the chapter says in order.
func TestP4Tick(t *testing.T) {
	r := rand.New(rand.NewSource(364))
	seen := map[string]int{}
	for range 6000 {
		m := anyManager(r)
		want := tickByWords(m)
		got := manager.Tick(m)
		alike(t, call("Tick", m), got, want)
		seen[fmt.Sprint("passed ", m.Test.Gyro >= 0 && m.Test.Gyro < 6 && got.Test.Gyro < 0)]++
		seen[fmt.Sprint("valid ", got.Rate.Valid)]++
		seen[fmt.Sprint("refuted ", got.Bank.Refuted != m.Bank.Refuted)]++
		seen[fmt.Sprint("mode ", got.Mode)]++
	}
	if len(seen) < 6+5 {
		t.Errorf("not all was seen: %v", seen)
	}
}

// P36.4: ticks are counted up to MaxTicks.
func TestP4TickIsCounted(t *testing.T) {
	for _, e := range [][2]int{{0, 1}, {1, 2}, {41, 42}, {99998, 99999}, {99999, 100000}, {100000, 100000}, {100001, 100000}, {math.MaxInt, 100000}, {-1, 0}, {-9, -8}, {math.MinInt, math.MinInt + 1}} {
		m := saying(fresh(t), func(m *api.Manager) { m.Tick = e[0] })
		is(t, call("Tick's tick", e[0]), manager.Tick(m).Tick, e[1])
	}
}

// numbers are those of kinds and arguments, and such as are none.
var numbers = []int{math.MinInt, -1 << 32, -256, -2, -1, 0, 1, 2, 3, 4, 5, 6, 7, 11, 12, 255, 256, 257, 258, 1 << 32, 1<<32 + 1, math.MaxInt}

// P36.5: all commands of managers of all kinds.
func TestP5Do(t *testing.T) {
	r := rand.New(rand.NewSource(365))
	seen := map[api.Errno]int{}
	for range 400 {
		m := anyManager(r)
		for _, kind := range numbers {
			for _, arg := range numbers {
				c := api.Command{Kind: kind, Arg: arg}
				want, wrong := doByWords(m, c)
				got, err := manager.Do(m, c)
				seen[err]++
				is(t, call("Do's error", c), err, wrong)
				alike(t, call("Do", c, m), got, want)
			}
		}
	}
	is(t, call("errors seen", seen), len(seen), 4)
}

// P36.5, by hand: each command in each state.
func TestP5DoByHand(t *testing.T) {
	begun := fresh(t)
	in, out := fresh(t), fresh(t) // on the ground, in the air, with 1 and 4 excluded, 4 being tested on the ground
	for _, m := range []*api.Manager{&in, &out} {
		m.Tick, m.Bank, m.Inhibit, m.Part = 55, only(1, 4), set(2), []byte{0xa5}
		m.Latch, m.Mode = api.Latch{Usable: 3, Forgot: true}, api.ModeRateOnly
		m.Sources[3].Silent = true
		m.Rate = api.Rate{Valid: true, Value: api.Vec{1, 2, 3}}
		m.Angle = api.Angle{Base: api.Box{{Lo: 1, Hi: 2}}, Ring: []api.Read{{}}}
		m.Alt[0].Refuted, m.Speed[3].Refuted = true, true
	}
	in.Ground, in.Test = true, api.Test{Gyro: 4, Clean: 2}
	for n, e := range []struct {
		m    api.Manager
		c    api.Command
		err  api.Errno
		want func(m *api.Manager)
	}{
		{out, api.Command{Kind: 1, Arg: 1}, api.OK, func(m *api.Manager) { m.Ground = true }},
		{out, api.Command{Kind: 1, Arg: 0}, api.OK, func(m *api.Manager) {}},
		{in, api.Command{Kind: 1, Arg: 1}, api.OK, func(m *api.Manager) {}}, // the test goes on
		{in, api.Command{Kind: 1, Arg: 0}, api.OK, func(m *api.Manager) { m.Ground, m.Test = false, api.Test{Gyro: -1} }},
		{out, api.Command{Kind: 2}, api.ErrState, nil},
		{in, api.Command{Kind: 2}, api.OK, func(m *api.Manager) { *m = begun; m.Tick, m.Ground = 55, true }},
		{out, api.Command{Kind: 3, Arg: 0}, api.OK, func(m *api.Manager) {
			m.Inhibit = set(0, 2)
			m.Latch, m.Mode = api.Latch{Usable: 1, Alt: 1, Forgot: true}, api.ModeLost
		}},
		{out, api.Command{Kind: 3, Arg: 2}, api.OK, func(m *api.Manager) {
			m.Latch, m.Mode = api.Latch{Usable: 2, Alt: 1, Forgot: true}, api.ModeLost
		}},
		{out, api.Command{Kind: 3, Arg: 1}, api.OK, func(m *api.Manager) {
			m.Inhibit = set(1, 2)
			m.Latch, m.Mode = api.Latch{Usable: 2, Alt: 1, Forgot: true}, api.ModeLost
		}},
		{in, api.Command{Kind: 3, Arg: 5}, api.OK, func(m *api.Manager) {
			m.Inhibit = set(2, 5)
			m.Latch, m.Mode = api.Latch{Usable: 1, Alt: 1, Forgot: true}, api.ModeLost
		}},
		{out, api.Command{Kind: 4, Arg: 1}, api.ErrState, nil},
		{out, api.Command{Kind: 4, Arg: 0}, api.ErrState, nil},
		{in, api.Command{Kind: 4, Arg: 1}, api.OK, func(m *api.Manager) { m.Test = api.Test{Gyro: 1} }},
		{in, api.Command{Kind: 4, Arg: 4}, api.OK, func(m *api.Manager) { m.Test = api.Test{Gyro: 4} }},
		{in, api.Command{Kind: 4, Arg: 0}, api.ErrNone, nil},
		{in, api.Command{Kind: 4, Arg: 2}, api.ErrNone, nil}, // inhibited, but not excluded
		{in, api.Command{Kind: 4, Arg: 3}, api.ErrNone, nil}, // silent, but not excluded
		{in, api.Command{Kind: 4, Arg: 6}, api.ErrArg, nil},
		{out, api.Command{Kind: 4, Arg: 6}, api.ErrArg, nil}, // both are wrong: the first error counts
		{out, api.Command{Kind: 2, Arg: 1}, api.ErrArg, nil},
		{in, api.Command{Kind: 2, Arg: 1}, api.ErrArg, nil},
		{in, api.Command{Kind: 1, Arg: 2}, api.ErrArg, nil},
		{in, api.Command{Kind: 1, Arg: -1}, api.ErrArg, nil},
		{in, api.Command{Kind: 3, Arg: 6}, api.ErrArg, nil},
		{in, api.Command{Kind: 3, Arg: -1}, api.ErrArg, nil},
		{in, api.Command{Kind: 0, Arg: 0}, api.ErrArg, nil},
		{in, api.Command{Kind: 5, Arg: 0}, api.ErrArg, nil},
		{in, api.Command{Kind: -1, Arg: 1}, api.ErrArg, nil},
	} {
		want := e.m
		if e.want != nil {
			e.want(&want)
		}
		got, err := manager.Do(e.m, e.c)
		is(t, call("Do's error", n, e.c), err, e.err)
		alike(t, call("Do", n, e.c), got, want)
	}
}

// P36.5: who is inhibited adds up, and is not let go but by a reset.
func TestP5DoInhibits(t *testing.T) {
	m := fresh(t)
	modes := []int{api.ModeFailOp, api.ModeFailSafe, api.ModeRateOnly, api.ModeLost, api.ModeLost, api.ModeLost}
	inhibited := 0
	for n, i := range []int{3, 0, 5, 1, 2, 4} {
		next, err := manager.Do(m, api.Command{Kind: api.CmdInhibit, Arg: i})
		is(t, call("Do", "inhibit", i), err, api.OK)
		m, inhibited = next, inhibited|1<<i
		is(t, call("who is inhibited", i), m.Inhibit, inhibited)
		is(t, call("usable", i), m.Latch, api.Latch{Usable: 5 - n})
		is(t, call("mode", i), m.Mode, modes[n])
		again, err := manager.Do(m, api.Command{Kind: api.CmdInhibit, Arg: i})
		is(t, call("Do", "inhibit once more", i), err, api.OK)
		alike(t, call("Do", "inhibit once more", i), again, m)
	}
	m, _ = manager.Do(m, api.Command{Kind: api.CmdGround, Arg: 1})
	m, err := manager.Do(m, api.Command{Kind: api.CmdReset})
	is(t, call("Do", "reset"), err, api.OK)
	alike(t, call("Do", "reset"), m, saying(fresh(t), func(m *api.Manager) { m.Ground = true }))
}

// P36.6, by hand.
func TestP6NoteByHand(t *testing.T) {
	is(t, call("Note of a new one"), manager.Note(fresh(t)), api.Note{})
	for n, e := range []struct {
		with func(m *api.Manager)
		want api.Note
	}{
		{func(m *api.Manager) { m.Bank = only(1) }, api.Note{Excluded: 2}},
		{func(m *api.Manager) { m.Known = set(4) }, api.Note{Excluded: 16}},
		{func(m *api.Manager) { m.Known, m.Bank = set(4), only(1) }, api.Note{Excluded: 18}},
		{func(m *api.Manager) { m.Known, m.Bank = set(4), nothingLeft }, api.Note{}},
		{func(m *api.Manager) { m.Inhibit = set(0, 5) }, api.Note{Inhibited: 33}},
		{func(m *api.Manager) { m.Mode = api.ModeAmbiguous }, api.Note{Mode: 3}},
		{func(m *api.Manager) { m.Latch.Forgot = true }, api.Note{}}, // the mode is what it is, not reckoned again
		{func(m *api.Manager) { m.Sources[2].Silent = true }, api.Note{}},
		{func(m *api.Manager) { m.Bank, m.Inhibit, m.Mode = only(0, 3), 63, 5 }, api.Note{Excluded: 9, Inhibited: 63, Mode: 5}},
	} {
		is(t, call("Note", n), manager.Note(saying(fresh(t), e.with)), e.want)
	}
}

// P36.7, by hand.
func TestP7WordsByHand(t *testing.T) {
	for _, e := range []struct {
		with func(m *api.Manager)
		want string
	}{
		{func(m *api.Manager) {}, "FULL: -"},
		{func(m *api.Manager) { m.Mode, m.Bank = 1, only(4) }, "FAIL-OP: 4"},
		{func(m *api.Manager) { m.Mode, m.Bank = 2, only(4, 5) }, "FAIL-SAFE: 4+5"},
		{func(m *api.Manager) { m.Mode, m.Bank = 3, refuting(1<<15-1-1<<0-1<<9) }, "AMBIGUOUS: 0+1 or 2+3"},
		{func(m *api.Manager) { m.Mode, m.Known = 4, set(2) }, "RATE-ONLY: 2"},
		{func(m *api.Manager) { m.Mode, m.Bank = 5, nothingLeft }, "NAV-LOST: ?"},
		{func(m *api.Manager) { m.Mode = 6 }, ": -"},
		{func(m *api.Manager) { m.Mode = -1 }, ": -"},
		{func(m *api.Manager) { m.Mode, m.Inhibit = 1, set(3) }, "FAIL-OP: -, inhibited 3"},
		{func(m *api.Manager) { m.Mode, m.Inhibit = 2, set(5, 1)|64 }, "FAIL-SAFE: -, inhibited 1+5"},
		{func(m *api.Manager) { m.Inhibit = -64 }, "FULL: -"},
		{func(m *api.Manager) { m.Sources[0].Silent, m.Sources[2].Silent = true, true }, "FULL: -, silent 0+2"},
		{func(m *api.Manager) { m.Sources[6].Silent, m.Sources[11].Silent = true, true }, "FULL: -"}, // no gyros
		{func(m *api.Manager) { m.Test = api.Test{Gyro: 0} }, "FULL: -, tested 0"},
		{func(m *api.Manager) { m.Test = api.Test{Gyro: 5, Clean: 3} }, "FULL: -, tested 5"},
		{func(m *api.Manager) { m.Test = api.Test{Gyro: 6} }, "FULL: -"},
		{func(m *api.Manager) { m.Test = api.Test{Gyro: -2} }, "FULL: -"},
		{func(m *api.Manager) { m.Test = api.Test{Gyro: -16} }, "FULL: -"},
		{func(m *api.Manager) { m.Test = api.Test{Gyro: 64} }, "FULL: -"},
		{func(m *api.Manager) { m.Test = api.Test{Gyro: 1 << 32} }, "FULL: -"},
		{func(m *api.Manager) { m.Test = api.Test{Gyro: math.MinInt} }, "FULL: -"},
		{func(m *api.Manager) {
			m.Mode, m.Bank, m.Inhibit, m.Test = 4, only(2), set(0, 1), api.Test{Gyro: 2}
			m.Sources[1].Silent, m.Sources[5].Silent = true, true
		}, "RATE-ONLY: 2, inhibited 0+1, silent 1+5, tested 2"},
	} {
		is(t, call("Words"), manager.Words(saying(fresh(t), e.with)), e.want)
	}
}

// P36.8, by hand.
func TestP8HealthByHand(t *testing.T) {
	for n, e := range []struct {
		with func(m *api.Manager)
		want [6]int
	}{
		{func(m *api.Manager) {}, [6]int{}},
		{func(m *api.Manager) { m.Bank = only(1) }, [6]int{1, 4, 1, 1, 1, 1}},
		{func(m *api.Manager) { m.Bank = only(1, 3) }, [6]int{0, 4, 0, 4, 0, 0}},
		{func(m *api.Manager) { m.Known = set(5) }, [6]int{1, 1, 1, 1, 1, 4}},
		{func(m *api.Manager) { m.Bank = refuting(1<<15 - 1 - 1<<0 - 1<<9) }, [6]int{1, 1, 1, 1, 0, 0}},
		{func(m *api.Manager) { m.Bank = refuting(1<<15 - 1 - 1<<0 - 1<<1) }, [6]int{4, 1, 1, 0, 0, 0}},
		{func(m *api.Manager) { m.Bank = refuting(1 << 3) }, [6]int{1, 1, 1, 1, 1, 1}},
		{func(m *api.Manager) { m.Bank = nothingLeft }, [6]int{}},
		{func(m *api.Manager) { m.Bank, m.Inhibit = nothingLeft, set(2) }, [6]int{0, 0, 3, 0, 0, 0}},
		{func(m *api.Manager) { m.Inhibit = set(0, 4) | 1<<9 }, [6]int{3, 0, 0, 0, 3, 0}},
		{func(m *api.Manager) { m.Sources[3].Silent, m.Sources[9].Silent = true, true }, [6]int{0, 0, 0, 2, 0, 0}},
		{func(m *api.Manager) { m.Inhibit, m.Sources[3].Silent = set(3), true }, [6]int{0, 0, 0, 3, 0, 0}},
		{func(m *api.Manager) { m.Bank, m.Inhibit, m.Sources[3].Silent = only(3), set(3), true }, [6]int{1, 1, 1, 4, 1, 1}},
		{func(m *api.Manager) { m.Bank, m.Inhibit, m.Sources[1].Silent = only(3), set(0), true }, [6]int{3, 2, 1, 4, 1, 1}},
		{func(m *api.Manager) { m.Bank, m.Sources[1].Silent, m.Sources[3].Silent = only(3), true, true }, [6]int{1, 2, 1, 4, 1, 1}},
	} {
		is(t, call("Health", n), manager.Health(saying(fresh(t), e.with)), e.want)
	}
}

// P36.6, P36.7, P36.8, P36.11 of managers of all kinds.
func TestP6P7P8P11(t *testing.T) {
	r := rand.New(rand.NewSource(366))
	seen := map[int]int{}
	for range 20000 {
		m := anyManager(r)
		alive := aliveByWords(m.Bank, m.Known)
		is(t, call("Note", m), manager.Note(m), api.Note{Excluded: excludedByWords(alive), Inhibited: m.Inhibit, Mode: m.Mode})
		is(t, call("Words", m), manager.Words(m), wordsByWords(m))
		health := manager.Health(m)
		is(t, call("Health", m), health, healthByWords(m))
		is(t, call("how many are well", m), below2(health), latch.Usable(manager.Excluded(m), m.Inhibit, bus.Gyros(m.Sources)))
		for _, n := range health {
			seen[n]++
		}
	}
	is(t, call("sorts of health", seen), len(seen), 5)
}

// below2 is how many have a health below 2.
func below2(health [6]int) int {
	n := 0
	for _, x := range health {
		if x < 2 {
			n++
		}
	}
	return n
}

// full is m with room behind the ends of its lists, in which there is something.
func full(m api.Manager) api.Manager {
	m.Part = append(append(make([]byte, 0, 64), m.Part...), 0xa5, 0x5a, 7, 7)[:len(m.Part)]
	m.Angle.Ring = append(append(make([]api.Read, 0, 64), m.Angle.Ring...), api.Read{Value: [12]int64{9}}, api.Read{})[:len(m.Angle.Ring)]
	return m
}

// behind is what lies in the room behind the ends of m's lists.
func behind(m api.Manager) ([]byte, []api.Read) {
	return slices.Clone(m.Part[:cap(m.Part)]), slices.Clone(m.Angle.Ring[:cap(m.Angle.Ring)])
}

// R3: what is handed in is not changed, nor what lies behind it, and what is made of it is new.
func TestMemory(t *testing.T) {
	r := rand.New(rand.NewSource(367))
	for range 300 {
		m := full(anyManager(r))
		bytes, ring := behind(m)
		b := anyBytes(r)
		given := append(slices.Clone(b), 0xa5, 1, 2)
		given = given[:len(b)]
		fed, _ := manager.Feed(m, given)
		ticked := manager.Tick(m)
		manager.Do(m, api.Command{Kind: 1 + r.Intn(4), Arg: r.Intn(2)})
		manager.Note(m)
		manager.Words(m)
		manager.Health(m)
		moreBytes, moreRing := behind(m)
		if !slices.Equal(bytes, moreBytes) || !slices.Equal(ring, moreRing) || !slices.Equal(given, b) {
			t.Fatalf("what was handed in was changed: %+v", m)
		}
		part, gone := slices.Clone(fed.Part), slices.Clone(ticked.Angle.Ring)
		clear(given)
		clear(m.Part[:cap(m.Part)])
		clear(m.Angle.Ring[:cap(m.Angle.Ring)])
		if !slices.Equal(part, fed.Part) || !slices.Equal(gone, ticked.Angle.Ring) {
			t.Fatalf("what was handed in was kept: %+v", m)
		}
	}
}

// R1: no call panics, whatever it is given, and of the same it answers the same.
func TestWhatever(t *testing.T) {
	r := rand.New(rand.NewSource(368))
	for range 2000 {
		m := anyManager(r)
		m.Test = api.Test{Gyro: int(anyNumber(r)), Clean: int(anyNumber(r))}
		m.Tick, m.Mode, m.Known, m.Inhibit = int(anyNumber(r)), int(anyNumber(r)), int(anyNumber(r)), int(anyNumber(r))
		m.Latch.Usable, m.Latch.Alt, m.Latch.Speed = int(anyNumber(r)), int(anyNumber(r)), int(anyNumber(r))
		m.Config.Miss, m.Config.Clean, m.Config.Eps, m.Config.Rate = int(anyNumber(r)), int(anyNumber(r)), anyNumber(r), anyNumber(r)
		m.Config.Limit, m.Config.Ceil, m.Config.Rail = anyNumber(r), anyNumber(r), anyNumber(r)
		for i := range m.Sources {
			m.Sources[i].Count, m.Sources[i].Missed = int(anyNumber(r)), int(anyNumber(r))
			m.Config.Axes[i%6] = anyVec(r)
		}
		fed, _ := manager.Feed(m, anyBytes(r))
		alike(t, call("Tick"), manager.Tick(fed), manager.Tick(fed))
		manager.Do(m, api.Command{Kind: int(anyNumber(r)), Arg: int(anyNumber(r))})
		manager.Note(m)
		manager.Words(m)
		manager.Health(m)
	}
	alike(t, call("Tick of nothing"), manager.Tick(api.Manager{}), manager.Tick(api.Manager{}))
}

// P36.4: what the layers' own calls tell of both quantities of the air.
func TestP4TickOfTheAir(t *testing.T) {
	r := rand.New(rand.NewSource(369))
	for range 500 {
		m := anyManager(r)
		read := bus.Read(m.Sources)
		got := manager.Tick(m)
		is(t, call("the altitude"), got.Alt, air.Alt(m.Config, m.Alt, read))
		is(t, call("the speed"), got.Speed, air.Speed(m.Config, m.Speed, read))
	}
}
