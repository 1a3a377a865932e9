package manager_test

import (
	"fmt"
	"math/rand"
	"slices"
	"strings"
	"testing"

	"teetotum/angle"
	"teetotum/api"
	"teetotum/bus"
	"teetotum/clean"
	"teetotum/config"
	"teetotum/frame"
	"teetotum/hull"
	"teetotum/ladder"
	"teetotum/latch"
	"teetotum/manager"
	"teetotum/rate"
	"teetotum/triple"
)

// flight is a manager with what its sensors sent so far, and the true angle. Where it is rough, frames may get lost.
type flight struct {
	t      *testing.T
	m      api.Manager
	counts [12]int
	angle  api.Vec
	rough  bool
}

// begin is a flight of the usual configuration.
func begin(t *testing.T) *flight {
	t.Helper()
	return &flight{t: t, m: fresh(t)}
}

// level is a flight that does not turn.
var level = api.Truth{Alt: 30000, Speed: 500}

// turning is a flight that does.
var turning = api.Truth{Rate: api.Vec{120, -75, 310}, Alt: 2000, Speed: 250, Press: -40, Wind: 33}

// off is the truth with the source's reading off by that.
func off(truth api.Truth, i int, by int64) api.Truth {
	truth.Off[i] = by
	return truth
}

// drop is the truth without these sources' readings.
func drop(truth api.Truth, sources ...int) api.Truth {
	for _, i := range sources {
		truth.Drop[i] = true
	}
	return truth
}

// reading is what the source i reads of the truth.
func reading(c api.Config, truth api.Truth, i int) int64 {
	x := truth.Off[i]
	switch {
	case i < 6:
		for axis, entry := range c.Axes[i] {
			x += entry * truth.Rate[axis]
		}
	case i < 9:
		x += truth.Alt
		if c.Alt.Biased[i-6] {
			x += truth.Press
		}
	default:
		x += truth.Speed
		if c.Speed.Biased[i-9] {
			x += truth.Wind
		}
	}
	return x
}

// read is what all sources read of the truth.
func read(c api.Config, truth api.Truth) api.Read {
	var r api.Read
	for i := range 12 {
		if !truth.Drop[i] {
			r.Value[i], r.There[i] = reading(c, truth, i), true
		}
	}
	return r
}

// feed feeds a tick's frames.
func (f *flight) feed(truth api.Truth) {
	f.t.Helper()
	var b []byte
	for i := range 12 {
		f.counts[i] = (f.counts[i] + 1) % 256
		if truth.Drop[i] || f.m.Sources[i].Silent {
			continue
		}
		one, err := frame.Bytes(api.Frame{Source: i, Count: f.counts[i], Well: true, Value: reading(f.m.Config, truth, i)})
		is(f.t, call("frame.Bytes", i), err, api.OK)
		b = append(b, one...)
	}
	m, lost := manager.Feed(f.m, b)
	is(f.t, call("Feed's lost", lost), lost == 0 || f.rough, true)
	f.m = m
}

// fly is n ticks of the truth.
func (f *flight) fly(truth api.Truth, n int) {
	f.t.Helper()
	for range n {
		f.feed(truth)
		f.m = manager.Tick(f.m)
		for axis := range f.angle {
			f.angle[axis] += truth.Rate[axis]
		}
	}
}

// do carries a command out.
func (f *flight) do(kind, arg int) {
	f.t.Helper()
	m, err := manager.Do(f.m, api.Command{Kind: kind, Arg: arg})
	is(f.t, call("Do", kind, arg), err, api.OK)
	f.m = m
	if kind == api.CmdReset {
		f.angle = api.Vec{}
	}
}

// tells fails if the words are others, or the mode is not theirs.
func (f *flight) tells(words string) {
	f.t.Helper()
	is(f.t, call("Words"), manager.Words(f.m), words)
	is(f.t, call("the mode's name"), ladder.Name(f.m.Mode), strings.Split(words, ":")[0])
}

// sure fails if something is not where it is told to be.
func (f *flight) sure(truth api.Truth) {
	f.t.Helper()
	is(f.t, call("rate.Sure", f.m.Rate, truth), rate.Sure(f.m.Rate, truth.Rate), true)
	total := angle.Total(f.m.Angle, f.m.Config, manager.Alive(f.m))
	is(f.t, call("angle.Has", total, f.angle), angle.Has(total, f.angle), true)
	alt, speed := triple.Hull(f.m.Alt), triple.Hull(f.m.Speed)
	is(f.t, call("the altitude", alt, truth.Alt), alt.Lo <= truth.Alt && truth.Alt <= alt.Hi, true)
	is(f.t, call("the speed", speed, truth.Speed), speed.Lo <= truth.Speed && truth.Speed <= speed.Hi, true)
}

// bound is the greatest bound of the rate.
func (f *flight) bound() int64 { return slices.Max(f.m.Rate.Bound[:]) }

// The whole's first example: all six read well.
func TestFlightAllWell(t *testing.T) {
	for _, truth := range []api.Truth{level, turning} {
		f := begin(t)
		for tick := range 20 {
			f.fly(truth, 1)
			f.tells("FULL: -")
			f.sure(truth)
			is(t, call("Tick's tick"), f.m.Tick, tick+1)
			is(t, call("a bound of a few units", f.bound()), f.bound() <= 6, true)
			is(t, call("Bank"), f.m.Bank, api.Bank{})
			is(t, call("Latch"), f.m.Latch, api.Latch{Usable: 6})
			is(t, call("Health"), manager.Health(f.m), [6]int{})
			is(t, call("Note"), manager.Note(f.m), api.Note{})
			is(t, call("how long the ring is"), len(f.m.Angle.Ring), min(tick+1, 8))
			for i, s := range f.m.Sources { // the tick has ended
				is(t, call("source", i), s, api.Source{Count: tick + 1})
			}
		}
	}
}

// One drifts: its tests count, and refute in unlike ticks, so that it is open for some ticks who it is, which stays in the mode.
func TestFlightDrifts(t *testing.T) {
	f := begin(t)
	truth := turning
	seen := map[string]int{}
	for tick := 0; manager.Excluded(f.m) == 0; tick++ {
		truth.Off[1] += 2
		f.fly(truth, 1)
		f.sure(truth)
		is(t, call("a tick of drift", tick), tick < 100, true)
		seen[ladder.Name(f.m.Mode)]++
	}
	f.tells("AMBIGUOUS: 1")
	is(t, call("how many have refuted"), f.m.Bank.Refuted, only(1).Refuted)
	is(t, call("Latch"), f.m.Latch, api.Latch{Usable: 5, Ambig: true})
	is(t, call("ticks in FULL, and in AMBIGUOUS", seen), seen["FULL"] > 5 && seen["AMBIGUOUS"] > 1, true)
	f.do(api.CmdGround, 1)
	f.do(api.CmdAdmit, 1)
	f.fly(turning, 4)
	f.tells("FULL: -")
}

// The second, third and fourth example: one goes, so that all ten tests refute in a tick, then a second one, then a third one.
func TestFlightThreeGo(t *testing.T) {
	f := begin(t)
	truth := turning
	f.fly(truth, 3)
	truth.Off[1] = 2000
	f.fly(truth, 1)
	f.sure(truth)
	f.tells("FAIL-OP: 1")
	is(t, call("how many have refuted"), f.m.Bank.Refuted, only(1).Refuted)
	is(t, call("Latch"), f.m.Latch, api.Latch{Usable: 5})
	is(t, call("Health"), manager.Health(f.m), [6]int{1, 4, 1, 1, 1, 1})
	truth.Off[4] = 3000
	f.fly(truth, 1)
	f.sure(truth)
	f.tells("FAIL-SAFE: 1+4")
	is(t, call("Note"), manager.Note(f.m), api.Note{Excluded: 18, Mode: 2})
	is(t, call("Health"), manager.Health(f.m), [6]int{0, 4, 0, 0, 4, 0})
	is(t, call("Latch"), f.m.Latch, api.Latch{Usable: 4})
	truth.Off[0] = -2000
	f.fly(truth, 1)
	f.tells("NAV-LOST: ?")
	is(t, call("Rate"), f.m.Rate, api.Rate{})
	is(t, call("Latch"), f.m.Latch, api.Latch{Usable: 4, Nothing: true})
	is(t, call("Note"), manager.Note(f.m), api.Note{Mode: 5})
	is(t, call("Health"), manager.Health(f.m), [6]int{})
	f.fly(level, 20)
	f.tells("NAV-LOST: ?")
	is(t, call("Rate"), f.m.Rate, api.Rate{})
}

// The fifth example: 0 and 1 read nothing of a rate, 2 and 3 read it, 4 and 5 do not: either pair may be bad.
func TestFlightTwins(t *testing.T) {
	f := begin(t)
	turn := api.Vec{-45 * 4, -25 * 4, 90 * 4} // what 0 and 1 do not read
	is(t, call("what 0 reads"), reading(f.m.Config, api.Truth{Rate: turn}, 0), 0)
	is(t, call("what 1 reads"), reading(f.m.Config, api.Truth{Rate: turn}, 1), 0)
	truth := level
	for _, i := range []int{2, 3} {
		truth.Off[i] = reading(f.m.Config, api.Truth{Rate: turn}, i)
	}
	other := level
	other.Rate = turn
	for _, i := range []int{4, 5} {
		other.Off[i] = -reading(f.m.Config, api.Truth{Rate: turn}, i)
	}
	is(t, call("both read"), read(f.m.Config, truth), read(f.m.Config, other))
	for range 60 {
		f.fly(truth, 1)
		f.sure(truth)
		is(t, call("the other one's rate"), rate.Sure(f.m.Rate, other.Rate), true)
	}
	f.tells("AMBIGUOUS: 2+3 or 4+5")
	is(t, call("Latch"), f.m.Latch, api.Latch{Usable: 6, Ambig: true})
	is(t, call("Health"), manager.Health(f.m), [6]int{0, 0, 1, 1, 1, 1})
	is(t, call("a wide bound", f.bound()), f.bound() > 100, true)
	truth.Off[3] += 4000 // now it is told who it is, but the mode stays
	f.fly(truth, 10)
	f.sure(truth)
	f.tells("AMBIGUOUS: 2+3")
	is(t, call("Latch"), f.m.Latch, api.Latch{Usable: 4, Ambig: true})
}

// The sixth example: a gyro is silent for three ticks, which is told in the third one.
func TestFlightSilent(t *testing.T) {
	f := begin(t)
	f.fly(turning, 2)
	for n, words := range []string{"FULL: -", "FULL: -", "FAIL-OP: -, silent 2", "FAIL-OP: -, silent 2"} {
		f.fly(drop(turning, 2), 1)
		f.sure(turning)
		f.tells(words)
		is(t, call("silent"), f.m.Sources[2], api.Source{Count: 2, Missed: min(n+1, 3), Silent: n >= 2})
	}
	is(t, call("Latch"), f.m.Latch, api.Latch{Usable: 5})
	f.fly(turning, 9)
	f.tells("FAIL-OP: -, silent 2")
	f.fly(drop(turning, 0), 2)
	f.fly(turning, 1)
	f.tells("FAIL-OP: -, silent 2")
	f.fly(drop(turning, 0, 7), 3)
	f.tells("FAIL-SAFE: -, silent 0+2")
	is(t, call("Health"), manager.Health(f.m), [6]int{2, 0, 2, 0, 0, 0})
}

// The ninth example: on the ground a gyro is clean for four ticks, and is let in again.
func TestFlightLetIn(t *testing.T) {
	f := begin(t)
	f.fly(off(level, 3, 5000), 1)
	f.tells("FAIL-OP: 3")
	_, err := manager.Do(f.m, api.Command{Kind: api.CmdAdmit, Arg: 3})
	is(t, call("Do", "in the air"), err, api.ErrState)
	f.do(api.CmdGround, 1)
	_, err = manager.Do(f.m, api.Command{Kind: api.CmdAdmit, Arg: 2})
	is(t, call("Do", "of 2"), err, api.ErrNone)
	f.do(api.CmdAdmit, 3)
	f.tells("FAIL-OP: 3, tested 3")
	f.fly(level, 2)
	is(t, call("Test"), f.m.Test, api.Test{Gyro: 3, Clean: 2})
	f.fly(off(level, 3, 900), 1)
	is(t, call("Test"), f.m.Test, api.Test{Gyro: 3, Clean: 0})
	f.fly(level, 3)
	is(t, call("Test"), f.m.Test, api.Test{Gyro: 3, Clean: 3})
	f.tells("FAIL-OP: 3, tested 3")
	before := f.m
	f.fly(level, 1)
	f.tells("FULL: -")
	f.sure(level)
	is(t, call("Bank"), f.m.Bank, api.Bank{})
	is(t, call("Known"), f.m.Known, 0)
	is(t, call("Test"), f.m.Test, api.Test{Gyro: -1})
	is(t, call("Latch"), f.m.Latch, api.Latch{Usable: 6})
	is(t, call("Note"), manager.Note(f.m), api.Note{})
	is(t, call("Rate, by who was alive ahead of it"), f.m.Rate, rate.Out(before.Config, manager.Alive(before), read(before.Config, level)))
	f.fly(off(level, 3, 5000), 1)
	f.tells("FAIL-OP: 3")
}

// P36.4: who passes comes back, and the other one stays excluded.
func TestFlightLetInOneOfTwo(t *testing.T) {
	for _, back := range []int{1, 4} {
		stays := 5 - back
		f := begin(t)
		f.fly(off(level, 1, 5000), 1)
		f.fly(off(off(level, 1, 5000), 4, -4000), 1)
		f.tells("FAIL-SAFE: 1+4")
		f.do(api.CmdGround, 1)
		f.do(api.CmdAdmit, back)
		f.fly(off(level, stays, 5000), 4)
		f.tells(fmt.Sprintf("FAIL-OP: %d", stays))
		is(t, call("Known"), f.m.Known, 1<<stays)
		is(t, call("Bank"), f.m.Bank, api.Bank{})
		is(t, call("Latch"), f.m.Latch, api.Latch{Usable: 5})
		f.fly(off(level, stays, 5000), 30) // it is known, and its tests count anew
		f.sure(level)
		f.tells(fmt.Sprintf("FAIL-OP: %d", stays))
		f.do(api.CmdAdmit, stays)
		f.fly(level, 4)
		f.tells("FULL: -")
		is(t, call("Known"), f.m.Known, 0)
	}
}

// P36.4: of the latch only what the gyros made worse gets better with a test that is passed, and no further than they are now.
func TestLetInMendsTheLatch(t *testing.T) {
	for n, e := range []struct {
		with  func(m *api.Manager)
		latch api.Latch
		mode  int
	}{
		{func(m *api.Manager) {}, api.Latch{Usable: 6}, api.ModeFull},
		{func(m *api.Manager) { m.Latch.Ambig = true }, api.Latch{Usable: 6}, api.ModeFull},
		{func(m *api.Manager) { m.Latch.Nothing = true }, api.Latch{Usable: 6}, api.ModeFull},
		{func(m *api.Manager) { m.Latch.Usable = 0 }, api.Latch{Usable: 6}, api.ModeFull},
		{func(m *api.Manager) { m.Latch.Forgot = true }, api.Latch{Usable: 6, Forgot: true}, api.ModeFailSafe},
		{func(m *api.Manager) { m.Latch.Alt = api.AirOne }, api.Latch{Usable: 6, Alt: 1}, api.ModeFailOp},
		{func(m *api.Manager) { m.Latch.Speed = api.AirLost }, api.Latch{Usable: 6, Speed: 2}, api.ModeFailSafe},
		{func(m *api.Manager) { m.Latch.Speed, m.Latch.Alt = api.AirLost, api.AirLost }, api.Latch{Usable: 6, Alt: 2, Speed: 2}, api.ModeRateOnly},
		{func(m *api.Manager) { m.Inhibit = set(0) }, api.Latch{Usable: 5}, api.ModeFailOp},
		{func(m *api.Manager) { m.Inhibit, m.Sources[5].Silent = set(0, 1), true }, api.Latch{Usable: 3}, api.ModeRateOnly},
		{func(m *api.Manager) { m.Sources[5].Missed, m.Sources[5].There = 2, false }, api.Latch{Usable: 5}, api.ModeFailOp}, // it gets silent in this tick
		{func(m *api.Manager) { m.Known = set(4) }, api.Latch{Usable: 5}, api.ModeFailOp},
		{func(m *api.Manager) {
			m.Latch = api.Latch{Usable: 2, Ambig: true, Alt: 1, Speed: 1, Forgot: true, Nothing: true}
			m.Known, m.Inhibit = set(4), set(0)
		}, api.Latch{Usable: 4, Alt: 1, Speed: 1, Forgot: true}, api.ModeFailSafe},
	} {
		f := begin(t)
		f.fly(level, 1)
		f.feed(level)
		f.m.Bank, f.m.Latch, f.m.Mode = only(2), api.Latch{Usable: 5}, api.ModeLost
		f.m.Test = api.Test{Gyro: 2, Clean: 3}
		e.with(&f.m)
		m := manager.Tick(f.m)
		is(t, call("Test", n), m.Test, api.Test{Gyro: -1})
		is(t, call("Latch", n), m.Latch, e.latch)
		is(t, call("Mode", n), m.Mode, e.mode)
		is(t, call("Known", n), m.Known, f.m.Known)
		is(t, call("Bank", n), m.Bank, api.Bank{})
	}
}

// P36.4: a tick is clean by its own rate, and only if the gyro reads, is not inhibited, and is not off.
func TestFlightCleanTicks(t *testing.T) {
	for n, e := range []struct {
		truth   api.Truth
		inhibit bool
		want    int
	}{
		{level, false, 2},
		{turning, false, 2}, // other than the tick ahead
		{off(turning, 3, 2), false, 2},
		{off(turning, 3, 500), false, 0},
		{off(level, 3, -500), false, 0},
		{drop(level, 3), false, 0},
		{drop(level, 0, 1, 2), false, 2},
		{level, true, 0},
	} {
		f := begin(t)
		f.fly(off(level, 3, 5000), 1)
		f.do(api.CmdGround, 1)
		f.do(api.CmdAdmit, 3)
		f.fly(level, 1)
		if e.inhibit {
			f.do(api.CmdInhibit, 3)
		}
		f.fly(e.truth, 1)
		is(t, call("Test", n), f.m.Test, api.Test{Gyro: 3, Clean: e.want})
	}
}

// P36.4: where no rate is valid no tick is clean.
func TestCleanTicksWithoutARate(t *testing.T) {
	f := begin(t)
	f.m.Bank, f.m.Known = nothingLeft, set(3)
	f.m.Test = api.Test{Gyro: 3, Clean: 3}
	f.fly(level, 1)
	is(t, call("Test"), f.m.Test, api.Test{Gyro: 3})
	is(t, call("Known"), f.m.Known, set(3))
	f.tells("NAV-LOST: ?, tested 3")
}

// P36.5: a test goes on where the ground command tells once more that it is on the ground, and ends where it leaves it.
func TestFlightTestGoesOnOnTheGround(t *testing.T) {
	f := begin(t)
	f.fly(off(level, 3, 5000), 1)
	f.do(api.CmdGround, 1)
	f.do(api.CmdAdmit, 3)
	f.do(api.CmdGround, 1)
	is(t, call("Test that has just begun"), f.m.Test, api.Test{Gyro: 3})
	for clean := 1; clean < f.m.Config.Clean; clean++ {
		f.fly(level, 1)
		before := f.m
		f.do(api.CmdGround, 1)
		alike(t, call("Do", "on the ground once more", clean), f.m, before)
		is(t, call("Test"), f.m.Test, api.Test{Gyro: 3, Clean: clean})
		f.tells("FAIL-OP: 3, tested 3")
		left, err := manager.Do(f.m, api.Command{Kind: api.CmdGround})
		is(t, call("Do's error"), err, api.OK)
		before.Ground, before.Test = false, api.Test{Gyro: -1}
		alike(t, call("Do", "off the ground", clean), left, before)
	}
	f.fly(level, 1)
	f.tells("FULL: -")
}

// P36.5: a test ends where the ground is left, with a reset, and where another one begins.
func TestFlightTestEnds(t *testing.T) {
	f := begin(t)
	f.fly(off(off(level, 3, 5000), 1, 7000), 1)
	f.do(api.CmdGround, 1)
	f.do(api.CmdAdmit, 3)
	f.fly(level, 3)
	f.do(api.CmdAdmit, 1)
	is(t, call("Test"), f.m.Test, api.Test{Gyro: 1})
	f.fly(level, 3)
	f.do(api.CmdAdmit, 1)
	is(t, call("Test"), f.m.Test, api.Test{Gyro: 1})
	f.do(api.CmdGround, 0)
	is(t, call("Test"), f.m.Test, api.Test{Gyro: -1})
	f.fly(level, 9)
	f.tells("FAIL-SAFE: 1+3")
	f.do(api.CmdGround, 1)
	is(t, call("Test"), f.m.Test, api.Test{Gyro: -1})
	f.do(api.CmdAdmit, 1)
	f.fly(level, 3)
	f.do(api.CmdReset, 0)
	is(t, call("Test"), f.m.Test, api.Test{Gyro: -1})
	f.fly(level, 1)
	f.tells("FULL: -")
}

// The tenth example: both baros agree, and GPS does not. And then one more of each is off.
func TestFlightAir(t *testing.T) {
	f := begin(t)
	f.fly(turning, 5)
	f.fly(off(turning, 8, 700), 1)
	f.sure(turning)
	f.tells("FAIL-OP: -")
	is(t, call("triple.Bad"), triple.Bad(f.m.Alt), 2)
	is(t, call("Latch"), f.m.Latch, api.Latch{Usable: 6, Alt: 1})
	f.fly(turning, 5)
	f.tells("FAIL-OP: -")
	f.fly(off(off(turning, 8, 700), 6, -900), 1)
	f.tells("FAIL-SAFE: -")
	is(t, call("Latch"), f.m.Latch, api.Latch{Usable: 6, Alt: 2})
	f.fly(off(turning, 9, 400), 1)
	f.tells("FAIL-SAFE: -")
	is(t, call("Latch"), f.m.Latch, api.Latch{Usable: 6, Alt: 2, Speed: 1})
	is(t, call("triple.Bad"), triple.Bad(f.m.Speed), 0)
	f.fly(off(turning, 10, 400), 1)
	f.tells("RATE-ONLY: -")
	is(t, call("Latch"), f.m.Latch, api.Latch{Usable: 6, Alt: 2, Speed: 2})
	is(t, call("Rate"), rate.Sure(f.m.Rate, turning.Rate), true)
}

// P36.4: who is refuted by a tick's readings is not trusted in that tick's rate, nor for the angle from there on.
func TestFlightSameTick(t *testing.T) {
	for i := range 6 {
		f := begin(t)
		f.fly(turning, 9)
		base := f.m.Angle.Base
		f.fly(off(turning, i, 5000), 1)
		f.tells(fmt.Sprintf("FAIL-OP: %d", i))
		f.sure(turning)
		is(t, call("a bound of a few units", f.bound()), f.bound() <= 12, true)
		gone, _ := hull.Of(f.m.Config, aliveByWords(only(i), 0), read(f.m.Config, turning))
		is(t, call("Base"), f.m.Angle.Base, angle.Add(base, gone))
	}
}

// P36.4, P36.5: who is inhibited is not read, for nothing.
func TestFlightInhibited(t *testing.T) {
	for i := range 6 {
		f := begin(t)
		f.do(api.CmdInhibit, i)
		for n := range 20 {
			f.fly(off(turning, i, int64(5000*n)), 1)
			f.sure(turning)
			f.tells(fmt.Sprintf("FAIL-OP: -, inhibited %d", i))
			is(t, call("Bank"), f.m.Bank, api.Bank{})
			last := f.m.Angle.Ring[len(f.m.Angle.Ring)-1]
			is(t, call("what is kept"), last, read(f.m.Config, drop(turning, i)))
		}
		f.fly(off(turning, (i+1)%6, 5000), 1) // one of five: nobody can tell who it is
		f.sure(turning)
		is(t, call("Mode"), f.m.Mode, api.ModeAmbiguous)
	}
}

// step is something that happens, and what it was.
type step struct {
	m    api.Manager
	what string
}

// anyTruth is one in which some are off, and some are dropped.
func anyTruth(r *rand.Rand) api.Truth {
	truth := turning
	for axis := range truth.Rate {
		truth.Rate[axis] = int64(r.Intn(801) - 400)
	}
	for i := range truth.Off {
		truth.Off[i] = int64(r.Intn(7) - 3)
	}
	for range r.Intn(4) {
		truth.Off[r.Intn(12)] = int64(r.Intn(9000) - 4500)
	}
	for range r.Intn(3) {
		truth.Drop[r.Intn(12)] = true
	}
	return truth
}

// calm is a truth in which just who is bad is off.
func calm(r *rand.Rand, bad int) api.Truth {
	truth := anyTruth(r)
	truth.Drop = [12]bool{}
	for i := range truth.Off {
		truth.Off[i] = int64(r.Intn(7) - 3)
	}
	if r.Intn(3) == 0 {
		truth.Off[bad] = int64(r.Intn(6000) - 3000)
	}
	return truth
}

// anyStep is a tick, a command, or bytes of any kind.
func anyStep(r *rand.Rand, f *flight, bad int) string {
	switch n := r.Intn(24); n {
	case 0:
		f.m, _ = manager.Feed(f.m, anyBytes(r))
		return "bytes"
	case 1:
		f.m = manager.Tick(f.m)
		return "tick"
	case 2, 3, 4, 5, 6:
		c := api.Command{Kind: []int{1, 1, 1, 2, 3, 4, 4, 4, 4, 5}[r.Intn(10)], Arg: r.Intn(7)}
		if c.Kind < 3 {
			c.Arg = min(c.Arg, 2-c.Kind)
		}
		if c.Kind == 3 && r.Intn(3) > 0 || c.Kind == 2 && r.Intn(2) > 0 {
			c.Kind = 4
		}
		m, err := manager.Do(f.m, c)
		f.m = m
		if c.Kind == api.CmdReset && err == api.OK {
			return "reset"
		}
		return "command"
	case 7:
		f.fly(anyTruth(r), 1)
		return "tick"
	default:
		f.fly(calm(r, bad), 1)
		return "tick"
	}
}

// isPassed is whether a test was passed between both, and whose.
func isPassed(old, now api.Manager) (int, bool) {
	if old.Test.Gyro < 0 || now.Test.Gyro >= 0 {
		return -1, false
	}
	return old.Test.Gyro, old.Test.Clean == old.Config.Clean-1
}

// P36.9, P36.10, P36.11, over courses of all kinds.
func TestP9P10P11(t *testing.T) {
	seen := map[string]int{}
	for seed := range int64(150) {
		r := rand.New(rand.NewSource(seed))
		f := begin(t)
		f.rough = true
		bad := r.Intn(6)
		for range 120 {
			old := f.m
			what := anyStep(r, f, bad)
			seen[what]++
			is(t, call("Mode", seed, what), f.m.Mode, ladder.Mode(f.m.Latch))
			is(t, call("how many are well", seed, what), below2(manager.Health(f.m)), latch.Usable(manager.Excluded(f.m), f.m.Inhibit, bus.Gyros(f.m.Sources)))
			who, passed := isPassed(old, f.m)
			passed = passed && what == "tick"
			was, is2 := manager.Excluded(old), manager.Excluded(f.m)
			switch {
			case what == "reset":
				is(t, call("Mode behind a reset", seed), f.m.Mode, api.ModeFull)
				is(t, call("Excluded behind a reset", seed), is2, 0)
				is(t, call("on the ground", seed), old.Ground, true)
				continue
			case passed:
				seen["passed"]++
				is(t, call("who was excluded", seed), in(was, who), true)
				is(t, call("who is excluded", seed), is2|1<<who, was|is2|1<<who)
				is(t, call("who is excluded", seed), in(is2, who), false)
				is(t, call("Known", seed), f.m.Known, is2)
				if f.m.Mode < old.Mode {
					seen["better"]++
				}
				continue
			}
			is(t, call("no better mode", seed, what), f.m.Mode >= old.Mode, true)
			is(t, call("nowhere better", seed, what), ladder.Worse(f.m.Latch, old.Latch), true)
			isAny := aliveByWords(f.m.Bank, f.m.Known) != [22]bool{}
			is(t, call("nobody is let in", seed, what, was, is2), !isAny || was&^is2 == 0, true)
			is(t, call("nobody is let in", seed, what), old.Inhibit&^f.m.Inhibit, 0)
			seen[fmt.Sprint("mode ", f.m.Mode)]++
		}
	}
	for _, what := range []string{"bytes", "command", "reset", "tick", "passed", "better", "mode 0", "mode 1", "mode 2", "mode 3", "mode 4", "mode 5"} {
		if seen[what] == 0 {
			t.Errorf("%s was not seen: %v", what, seen)
		}
	}
}

// fair is a truth in which nothing is off too far but who is bad, and nothing changes too fast.
func fair(r *rand.Rand, c api.Config, old api.Truth, bad []int) api.Truth {
	truth := old
	for axis := range truth.Rate {
		truth.Rate[axis] = int64(r.Intn(2*2000+1) - 2000)
	}
	near := func(x, move, lo, hi int64) int64 {
		return min(max(x+int64(r.Intn(int(2*move+1)))-move, lo), hi)
	}
	truth.Alt = near(old.Alt, c.Alt.Move, -c.Alt.Most, c.Alt.Most)
	truth.Speed = near(old.Speed, c.Speed.Move, -c.Speed.Most, c.Speed.Most)
	truth.Press = near(old.Press, c.Alt.Change, -c.Alt.Bias, c.Alt.Bias)
	truth.Wind = near(old.Wind, c.Speed.Change, -c.Speed.Bias, c.Speed.Bias)
	eps := [12]int64{c.Eps, c.Eps, c.Eps, c.Eps, c.Eps, c.Eps, c.Alt.Eps[0], c.Alt.Eps[1], c.Alt.Eps[2], c.Speed.Eps[0], c.Speed.Eps[1], c.Speed.Eps[2]}
	for i := range truth.Off {
		truth.Off[i] = near(0, eps[i], -eps[i], eps[i])
		truth.Drop[i] = r.Intn(40) == 0
	}
	for _, i := range bad {
		if r.Intn(2) == 0 {
			truth.Off[i] = int64(r.Intn(5000) - 2500)
		}
	}
	return truth
}

// What the whole promises of fair flights, over ticks and commands: nobody else is excluded, and all is where it is told to be.
func TestFairFlights(t *testing.T) {
	seen := map[string]int{}
	for seed := range int64(120) {
		r := rand.New(rand.NewSource(seed))
		f := begin(t)
		bad := who[r.Intn(22)]
		air := []int{6 + r.Intn(3), 9 + r.Intn(3)}
		truth := turning
		for range 60 {
			if n := r.Intn(10); n < 4 && r.Intn(3) == 0 {
				kind := []int{1, 2, 3, 4}[n]
				arg := []int{r.Intn(2), 0, r.Intn(6), r.Intn(6)}[n]
				m, err := manager.Do(f.m, api.Command{Kind: kind, Arg: arg})
				if f.m = m; kind == 2 && err == api.OK {
					f.angle = api.Vec{}
				}
			}
			if excluded := manager.Excluded(f.m); f.m.Ground && excluded > 0 && f.m.Test.Gyro < 0 {
				for i := range 6 {
					if in(excluded, i) {
						f.do(api.CmdAdmit, i)
					}
				}
			}
			truth = fair(r, f.m.Config, truth, append(slices.Clone(bad), air...))
			before := f.m
			f.fly(truth, 1)
			f.sure(truth)
			is(t, call("who is excluded", seed, bad), manager.Excluded(f.m)&^set(bad...), 0)
			place := slices.IndexFunc(who[:], func(l []int) bool { return slices.Equal(l, bad) })
			is(t, call("is alive", seed, bad), manager.Alive(f.m)[place], true)
			for quantity, told := range []int{triple.Bad(f.m.Alt), triple.Bad(f.m.Speed)} {
				is(t, call("who of the air is told as bad", seed, air), told == -1 || 6+3*quantity+told == air[quantity], true)
			}
			if f.m.Test != before.Test && f.m.Test == clean.None() {
				seen["passed"]++
			}
			seen[fmt.Sprint("mode ", f.m.Mode)]++
			seen[fmt.Sprint("out ", manager.Excluded(f.m) > 0)]++
		}
	}
	for _, what := range []string{"passed", "out true", "out false", "mode 0", "mode 1", "mode 2", "mode 3"} {
		if seen[what] == 0 {
			t.Errorf("%s was not seen: %v", what, seen)
		}
	}
}

// The whole's third promise: where all six read, a bound is at most what rate.Most tells of whom is excluded.
func TestTightFlights(t *testing.T) {
	seen := map[int]int{}
	for seed := range int64(60) {
		r := rand.New(rand.NewSource(seed))
		f := begin(t)
		for range 12 {
			truth := anyTruth(r)
			for i := range 6 {
				truth.Drop[i] = false
			}
			f.fly(truth, 1)
			most := rate.Most(f.m.Config, manager.Excluded(f.m))
			for axis, bound := range f.m.Rate.Bound {
				is(t, call("a bound", seed, f.m.Rate, most), bound <= most[axis], true)
			}
			if f.m.Rate.Valid {
				seen[manager.Excluded(f.m)]++
			}
		}
	}
	is(t, call("who was excluded", seen), len(seen) > 6, true)
}

// The usual configuration's numbers, on which what is told here by hand hangs.
func TestUsual(t *testing.T) {
	c := config.Usual()
	is(t, call("Miss"), c.Miss, 3)
	is(t, call("Clean"), c.Clean, 4)
	is(t, call("Limit"), c.Limit, 40000)
	is(t, call("axis 0"), c.Axes[0], api.Vec{10, 0, 5})
	is(t, call("axis 1"), c.Axes[1], api.Vec{5, 9, 5})
}
