package bus_test

import (
	"fmt"
	"math"
	"regexp"
	"slices"
	"strings"
	"testing"

	"teetotum/api"
	"teetotum/bus"
	"teetotum/config"
	"teetotum/source"
	"teetotum/stream"
	"teetotum/subset"
)

// asked is a call, written out only where it is told.
type asked struct {
	name string
	args []any
}

func call(name string, args ...any) asked { return asked{name, args} }

func (a asked) String() string {
	var words []string
	for _, x := range a.args {
		words = append(words, fmt.Sprintf("%+v", x))
	}
	return a.name + " of " + strings.Join(words, ", ")
}

// is fails if got is not want.
func is[T comparable](t *testing.T, what asked, got, want T) {
	t.Helper()
	if got != want {
		t.Fatalf("%s: %+v, want %+v", what, got, want)
	}
}

// are fails if got has not just what want has, in its order.
func are[T comparable](t *testing.T, what asked, got, want []T) {
	t.Helper()
	if !slices.Equal(got, want) {
		t.Fatalf("%s: %+v, want %+v", what, got, want)
	}
}

// took fails if Take answers anything but want and wrong.
func took(t *testing.T, l [12]api.Source, f api.Frame, c api.Config, want [12]api.Source, wrong api.Errno) {
	t.Helper()
	got, err := bus.Take(l, f, c)
	is(t, call("Take's error", l, f, c), err, wrong)
	is(t, call("Take's sources", l, f, c), got, want)
}

// tookAll fails if All answers anything but want and wrong, or changes the frames.
func tookAll(t *testing.T, l [12]api.Source, frames []api.Frame, c api.Config, want [12]api.Source, wrong int) {
	t.Helper()
	kept := slices.Clone(frames)
	got, n := bus.All(l, frames, c)
	is(t, call("All's errors", l, frames, c), n, wrong)
	is(t, call("All's sources", l, frames, c), got, want)
	are(t, call("the frames behind All", l), frames, kept)
}

// noSource are numbers that no source has.
var noSource = []int{math.MinInt, -12, -1, 12, 13, 15, 255, 256, 1 << 32, math.MaxInt}

// railed is a configuration of which just the rail is known.
func railed(rail int64) api.Config { return api.Config{Rail: rail} }

// mixed is sources of all sorts, other ones of each seed; there is what is asked with seeds that go by thousands.
func mixed(seed int) [12]api.Source {
	var l [12]api.Source
	for i := range l {
		n := (seed*12+i)*7919 + seed*seed*13
		l[i] = api.Source{Count: n % 257, Value: int64(n%401 - 200), There: n%3 == 0, Missed: n % 4, Silent: n%5 == 0}
	}
	return l
}

// P17.1: none of them sent anything.
func TestP1New(t *testing.T) {
	mute := api.Source{Count: -1}
	is(t, call("New"), bus.New(), [12]api.Source{mute, mute, mute, mute, mute, mute, mute, mute, mute, mute, mute, mute})
	first := bus.New()
	first[3].Count = 9
	is(t, call("New, once more"), bus.New()[3], mute)
}

// P17.2: the frame's source has its reading, and no other one.
func TestP2Take(t *testing.T) {
	for i := range 12 {
		l := mixed(40 + i)
		l[i] = api.Source{Count: 255, Missed: 2}
		want := l
		want[i] = api.Source{Count: 0, Value: -99, There: true, Missed: 2}
		took(t, l, api.Frame{Source: i, Count: 0, Well: true, Value: -99}, railed(100), want, api.OK)
	}
}

// P17.2: a gyro's rail is the configuration's, that of others twice MaxAir, whatever the configuration has.
func TestP2Rail(t *testing.T) {
	const air = 2 << 24
	for i := range 12 {
		for _, rail := range []int64{-1, 0, 1, 2, 100, air - 1, air, air + 1, math.MaxInt64} {
			own := rail
			if i >= 6 {
				own = air
			}
			for _, value := range []int64{0, 1, -1, 99, 100, -100, air - 1, air, air + 1, 1 - air, -air, math.MaxInt64, math.MinInt64} {
				want, wrong := bus.New(), api.ErrRange
				want[i].Count = 5
				if value < own && -own < value {
					want[i].Value, want[i].There, wrong = value, true, api.OK
				}
				took(t, bus.New(), api.Frame{Source: i, Count: 5, Well: true, Value: value}, railed(rail), want, wrong)
			}
		}
	}
	all := config.Usual()
	all.Alt.Most, all.Speed.Most = 1, 1
	want := bus.New()
	want[6] = api.Source{Count: 1, Value: air - 1, There: true}
	took(t, bus.New(), api.Frame{Source: 6, Count: 1, Well: true, Value: air - 1}, all, want, api.OK)
}

// P17.2: a frame of a source that there is not leaves all as it was.
func TestP2NoSource(t *testing.T) {
	for seed := range 20 {
		l := mixed(seed)
		for _, i := range noSource {
			for _, f := range []api.Frame{{Source: i, Count: 5, Well: true, Value: 3}, {Source: i, Count: -1, Value: math.MaxInt64}} {
				took(t, l, f, railed(100), l, api.ErrArg)
				took(t, bus.New(), f, railed(100), bus.New(), api.ErrArg)
			}
		}
	}
}

// P17.2: what is wrong is source.Take's error, and what that leaves of the frame is kept.
func TestP2TakeWrong(t *testing.T) {
	well := api.Frame{Count: 8, Well: true, Value: 3}
	ill := api.Frame{Count: 8, Value: 1 << 25}
	high := api.Frame{Count: 8, Well: true, Value: 1 << 25}
	old := api.Frame{Count: 7, Value: 1 << 25}
	for i := range 12 {
		for _, c := range []struct {
			from  api.Source
			f     api.Frame
			want  api.Source
			wrong api.Errno
		}{
			{api.Source{Count: 7, Silent: true}, well, api.Source{Count: 7, Silent: true}, api.ErrState},
			{api.Source{Count: 7, Value: 1, There: true}, well, api.Source{Count: 7, Value: 1, There: true}, api.ErrOld},
			{api.Source{Count: 7}, old, api.Source{Count: 7}, api.ErrOld},
			{api.Source{Count: 7}, ill, api.Source{Count: 8}, api.ErrBad},
			{api.Source{Count: 7}, high, api.Source{Count: 8}, api.ErrRange},
			{api.Source{Count: 7}, well, api.Source{Count: 8, Value: 3, There: true}, api.OK},
		} {
			l := mixed(i)
			l[i] = c.from
			want := l
			want[i] = c.want
			c.f.Source = i
			took(t, l, c.f, railed(100), want, c.wrong)
		}
	}
}

// some is frames of all sorts, other ones of each seed: also of sources that there are not.
func some(seed, n int) []api.Frame {
	var frames []api.Frame
	for k := range n {
		x := (seed+1)*104729 + k*k*31 + k*7907
		frames = append(frames, api.Frame{Source: x%15 - 1, Count: x / 7 % 258, Well: x%11 != 0, Value: int64(x%301 - 150)})
	}
	return frames
}

// taking is P17.3's words, with P17.2's, by source.Take.
func taking(l [12]api.Source, frames []api.Frame, rail int64) ([12]api.Source, int) {
	wrong := 0
	for _, f := range frames {
		own := rail
		switch f.Source {
		case 0, 1, 2, 3, 4, 5:
		case 6, 7, 8, 9, 10, 11:
			own = 33554432
		default:
			wrong++
			continue
		}
		s, err := source.Take(l[f.Source], f, own)
		l[f.Source] = s
		if err != api.OK {
			wrong++
		}
	}
	return l, wrong
}

// P17.3: frames one behind the other, and how many had an error.
func TestP3All(t *testing.T) {
	usual := config.Usual()
	tookAll(t, mixed(3), nil, usual, mixed(3), 0)
	tookAll(t, mixed(3), []api.Frame{}, usual, mixed(3), 0)
	want := bus.New()
	want[2] = api.Source{Count: 6, Value: 20, There: true}
	want[6] = api.Source{Count: 4}
	want[11] = api.Source{Count: 0, Value: 100000, There: true}
	tookAll(t, bus.New(), []api.Frame{
		{Source: 2, Count: 5, Value: 20},
		{Source: 2, Count: 6, Well: true, Value: 20},
		{Source: 2, Count: 7, Well: true, Value: 30},
		{Source: 12, Count: 1, Well: true, Value: 30},
		{Source: 6, Count: 3, Well: true, Value: -1 << 25},
		{Source: 6, Count: 3, Well: true, Value: 1},
		{Source: 6, Count: 4, Value: 1},
		{Source: -1, Count: 4, Well: true, Value: 1},
		{Source: 11, Count: 0, Well: true, Value: 100000},
	}, usual, want, 7)
}

// P17.3: frames of all sorts, held against the chapter's words, and against Take of each.
func TestP3AllOfAll(t *testing.T) {
	for seed := range 400 {
		for _, rail := range []int64{1, 60, 1000} {
			l, frames := mixed(seed), some(seed, seed%50)
			want, wrong := taking(l, frames, rail)
			tookAll(t, l, frames, railed(rail), want, wrong)
			wrong = 0
			for _, f := range frames {
				after, err := bus.Take(l, f, railed(rail))
				if err != api.OK {
					wrong++
				}
				l = after
			}
			tookAll(t, mixed(seed), frames, railed(rail), l, wrong)
		}
	}
}

// P17.3: a list that is cut off: the frames in the room behind its end do not count, and stay.
func TestP3RoomBehind(t *testing.T) {
	room := some(8, 40)
	for n := range room {
		kept := slices.Clone(room)
		want, wrong := taking(bus.New(), kept[:n:n], 100)
		tookAll(t, bus.New(), room[:n], railed(100), want, wrong)
		are(t, call("the room behind All's frames", n), room, kept)
	}
}

// P17.4: readings of those that have one, whatever Value the others have.
func TestP4Read(t *testing.T) {
	is(t, call("Read", bus.New()), bus.Read(bus.New()), api.Read{})
	is(t, call("Read", [12]api.Source{}), bus.Read([12]api.Source{}), api.Read{})
	var l [12]api.Source
	for i := range l {
		l[i] = api.Source{Count: i, Value: int64(100 + i), Silent: i%2 == 0}
	}
	for set := range 1 << 12 {
		var want api.Read
		for i := range l {
			l[i].There = set>>i&1 == 1
			if l[i].There {
				want.There[i], want.Value[i] = true, int64(100+i)
			}
		}
		is(t, call("Read", l), bus.Read(l), want)
	}
	ends := [12]api.Source{0: {Value: math.MinInt64, There: true}, 5: {There: true}, 11: {Value: math.MaxInt64, There: true, Silent: true}}
	is(t, call("Read", ends), bus.Read(ends), api.Read{
		Value: [12]int64{0: math.MinInt64, 11: math.MaxInt64},
		There: [12]bool{0: true, 5: true, 11: true},
	})
}

// P17.5: each source's tick ends.
func TestP5End(t *testing.T) {
	for seed := range 300 {
		l := mixed(seed)
		for _, miss := range []int{math.MinInt, -1, 0, 1, 2, 3, 4, 9, math.MaxInt} {
			want := l
			for i := range want {
				want[i] = source.End(l[i], miss)
			}
			is(t, call("End", l, miss), bus.End(l, miss), want)
			is(t, call("the sources behind End"), l, mixed(seed))
		}
	}
	l := [12]api.Source{0: {Count: 4, Value: 9, There: true, Missed: 2}, 5: {Missed: 2}, 11: {Missed: 1, Value: 3}}
	want := [12]api.Source{0: {Count: 4}, 5: {Missed: 3, Silent: true}, 11: {Missed: 2}}
	for _, i := range []int{1, 2, 3, 4, 6, 7, 8, 9, 10} {
		want[i].Missed = 1
	}
	is(t, call("End", l, 3), bus.End(l, 3), want)
}

// P17.6: all sets of sources that are silent.
func TestP6Silent(t *testing.T) {
	for set := range 1 << 12 {
		l := mixed(set)
		var want []int
		for i := range l {
			l[i].Silent = set>>i&1 == 1
			if l[i].Silent {
				want = append(want, i)
			}
		}
		are(t, call("Silent", l), bus.Silent(l), want)
		is(t, call("Gyros", l), bus.Gyros(l), set&63)
	}
}

// P17.6: what is answered is new.
func TestP6SilentIsNew(t *testing.T) {
	l := [12]api.Source{2: {Silent: true}, 3: {Silent: true}, 9: {Silent: true}}
	first := bus.Silent(l)
	for i := range first {
		first[i] = 77
	}
	are(t, call("Silent", l), bus.Silent(l), []int{2, 3, 9})
	is(t, call("Gyros", l), subset.Text(bus.Gyros(l)), "2+3")
}

// P17.7: each source's group.
func TestP7Group(t *testing.T) {
	for i, want := range []int{0, 0, 0, 0, 0, 0, 1, 1, 1, 2, 2, 2} {
		is(t, call("Group", i), bus.Group(i), want)
	}
	for _, i := range noSource {
		is(t, call("Group", i), bus.Group(i), -1)
	}
	for i := 12; i < 2000; i++ {
		is(t, call("Group", i), bus.Group(i), -1)
		is(t, call("Group", 11-i), bus.Group(11-i), -1)
	}
}

// P17.8: all sets of readings, whatever Value there is.
func TestP8Have(t *testing.T) {
	is(t, call("Have", api.Read{}), bus.Have(api.Read{}), [3]int{})
	for set := range 1 << 12 {
		var r api.Read
		var want [3]int
		for i := range r.There {
			r.Value[i] = int64(i % 3)
			r.There[i] = set>>i&1 == 1
			if r.There[i] {
				want[[]int{0, 0, 0, 0, 0, 0, 1, 1, 1, 2, 2, 2}[i]]++
			}
		}
		is(t, call("Have", r), bus.Have(r), want)
	}
}

// P17.9: each source's word, and nothing of others.
func TestP9Word(t *testing.T) {
	for i, want := range []string{
		"gyro 0", "gyro 1", "gyro 2", "gyro 3", "gyro 4", "gyro 5",
		"baro A", "baro B", "GPS altitude", "pitot A", "pitot B", "GPS speed",
	} {
		is(t, call("Word", i), bus.Word(i), want)
	}
	for _, i := range noSource {
		is(t, call("Word", i), bus.Word(i), "")
	}
	for i := 12; i < 2000; i++ {
		is(t, call("Word", i), bus.Word(i), "")
		is(t, call("Word", 11-i), bus.Word(11-i), "")
	}
}

// tick is a frame of each source: some are fine, and of some each thing is wrong that may be.
func tick(l [12]api.Source, seed int) []api.Frame {
	var frames []api.Frame
	for i, s := range l {
		f := api.Frame{Source: i, Count: (s.Count + 1 + seed>>i%3) & 255, Well: (seed+i)%5 != 0, Value: int64((seed + i*i) % 7)}
		if (seed+2*i)%6 == 0 {
			f.Value = -1 << 25
		}
		frames = append(frames, f)
	}
	return frames
}

// orders hands out all orders of n things.
func orders(n int, out func([]int)) {
	var order []int
	var more func()
	more = func() {
		if len(order) == n {
			out(order)
			return
		}
		for i := range n {
			if !slices.Contains(order, i) {
				order = append(order, i)
				more()
				order = order[:len(order)-1]
			}
		}
	}
	more()
}

// P17.10: frames of six sources in all orders.
func TestP10AnyOrder(t *testing.T) {
	for seed := range 12 {
		l := mixed(seed)
		for _, from := range []int{0, 3, 6} {
			frames := tick(l, seed)[from : from+6]
			want, wrong := taking(l, frames, 5)
			orders(6, func(order []int) {
				var turned []api.Frame
				for _, i := range order {
					turned = append(turned, frames[i])
				}
				got, n := bus.All(l, turned, railed(5))
				is(t, call("All's errors", l, turned), n, wrong)
				is(t, call("All's sources", l, turned), got, want)
			})
		}
	}
}

// P17.10: frames of all twelve, several of each one: what counts is just in which order those of one source come.
func TestP10AnyOrderOfSources(t *testing.T) {
	for seed := range 60 {
		l, frames := mixed(seed), some(seed, 120)
		want, wrong := taking(l, frames, 60)
		for _, step := range []int{1, 2, 4, 7, 8, 11, 13, 14} {
			turned := slices.Clone(frames)
			slices.SortStableFunc(turned, func(a, b api.Frame) int {
				return (a.Source+1)*step%15 - (b.Source+1)*step%15
			})
			tookAll(t, l, turned, railed(60), want, wrong)
		}
	}
}

// P17.11: no two sources have the same word, and each one's is of the group's sort.
func TestP11Words(t *testing.T) {
	sorts := []*regexp.Regexp{
		regexp.MustCompile(`^gyro [0-5]$`),
		regexp.MustCompile(`^(baro [AB]|GPS altitude)$`),
		regexp.MustCompile(`^(pitot [AB]|GPS speed)$`),
	}
	seen := map[string]int{}
	for i := range 12 {
		seen[bus.Word(i)] = i
		if !sorts[bus.Group(i)].MatchString(bus.Word(i)) {
			t.Fatalf("source %d of group %d: %q", i, bus.Group(i), bus.Word(i))
		}
	}
	is(t, call("how many words there are"), len(seen), 12)
}

// P17.11: all readings that sources have are there, and are had.
func TestP11Had(t *testing.T) {
	for seed := range 400 {
		l, _ := bus.All(bus.End(mixed(seed), 9), some(seed, 30), railed(100))
		r := bus.Read(l)
		there := 0
		for i, s := range l {
			is(t, call("Read's There", l, i), r.There[i], s.There)
			if s.There {
				there++
			}
		}
		have := bus.Have(r)
		is(t, call("Have", r), have[0]+have[1]+have[2], there)
	}
}

// The chapter's example: of twelve sources that sent nothing there is no reading.
func TestExample(t *testing.T) {
	is(t, call("Have", "nothing"), bus.Have(bus.Read(bus.New())), [3]int{})
}

// P17.3, P17.5: ticks one behind the other, from bytes on: who sends nothing for three ticks is silent for good.
func TestP3Ticks(t *testing.T) {
	c := config.Usual()
	l := bus.New()
	for n := range 300 {
		var frames []api.Frame
		for i := 11; i >= 0; i-- {
			if i == 4 && n >= 5 && n < 8 || i == 9 && n >= 5 && n < 7 {
				continue
			}
			frames = append(frames, api.Frame{Source: i, Count: n % 256, Well: true, Value: int64(n - i)})
		}
		b, _ := stream.Many(frames)
		read, _, _ := stream.Feed(nil, b)
		wrong := 0
		if n >= 8 {
			wrong = 1
		}
		after, errs := bus.All(l, read, c)
		is(t, call("All's errors", n), errs, wrong)
		want := [3]int{6, 3, 3}
		if n >= 5 {
			want[0] = 5
		}
		if n == 5 || n == 6 {
			want[2] = 2
		}
		is(t, call("Have", n), bus.Have(bus.Read(after)), want)
		l = bus.End(after, c.Miss)
		is(t, call("Read behind the tick", n), bus.Read(l), api.Read{})
		var silent []int
		if n >= 7 {
			silent = []int{4}
		}
		are(t, call("Silent", n), bus.Silent(l), silent)
	}
}
