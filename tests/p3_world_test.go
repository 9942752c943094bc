package tests

import (
	"math"
	"runtime"
	"slices"
	"strings"
	"testing"

	"loop.example/deadman/impl"
)

// swiftBrakes reach a speed that shows in few ticks.
func swiftBrakes(delay int) impl.Brakes {
	return impl.Brakes{Soft: 10, Hard: 20, Delay: delay, Acc: 100, Warn: 2}
}

// goOn has room and limit enough for every train that is here.
func goOn(want int) impl.Act {
	return impl.Act{Want: want, End: impl.MaxRoom, Limit: impl.MaxSpeed}
}

func letGo(want int) impl.Act {
	a := goOn(want)
	a.Ack = true
	return a
}

// cutOff takes the leash away.
func cutOff(want int) impl.Act {
	a := goOn(want)
	a.End = -1
	return a
}

func speedsOf(all []impl.True) []int {
	var speeds []int
	for _, x := range all {
		speeds = append(speeds, x.Speed)
	}
	return speeds
}

func statesOf(all []impl.True) []int {
	var states []int
	for _, x := range all {
		states = append(states, x.Said.Guard.State)
	}
	return states
}

func actBounds() []edge[impl.Act] {
	want := func(a *impl.Act, n int) { a.Want = n }
	off := func(a *impl.Act, n int) { a.Off = n }
	fast := func(a *impl.Act, n int) { a.Fast = n }
	more := func(a *impl.Act, n int) { a.More = n }
	end := func(a *impl.Act, n int) { a.End = n }
	limit := func(a *impl.Act, n int) { a.Limit = n }
	return []edge[impl.Act]{
		{"least Want", want, -1000, -1},
		{"most Want", want, guardBrakes().Acc, 1},
		{"least Off", off, 0, -1},
		{"most Off", off, 1000, 1},
		{"least Fast", fast, 0, -1},
		{"most Fast", fast, 100, 1},
		{"least More", more, 0, -1},
		{"most More", more, 1000, 1},
		{"least End", end, -1, -1},
		{"most End", end, 100000000, 1},
		{"least Limit", limit, 0, -1},
		{"most Limit", limit, 10000, 1},
	}
}

func plainAct() impl.Act {
	return impl.Act{Want: 2, Off: 5, Fast: 1, More: 7, End: 400, Limit: 99}
}

func wrongActs() []impl.Act {
	var wrong []impl.Act
	for _, c := range actBounds() {
		for _, n := range []int{c.bound + c.beyond, c.beyond * math.MaxInt, math.MinInt} {
			a := plainAct()
			c.set(&a, n)
			wrong = append(wrong, a)
		}
	}
	return wrong
}

func TestP3ActBounds(t *testing.T) {
	for _, ack := range []bool{false, true} {
		for _, c := range actBounds() {
			a := plainAct()
			a.Ack = ack
			c.set(&a, c.bound)
			if !impl.ActOk(guardBrakes(), a) {
				t.Errorf("%s met: refused", c.name)
			}
			if got := impl.Drive(guardBrakes(), 100, 50, []impl.Act{a, a}); len(got) != 2 || !got[0].Said.Ok || !got[1].Said.Ok {
				t.Errorf("%s met: %+v", c.name, got)
			}
		}
	}
	for _, a := range wrongActs() {
		if impl.ActOk(guardBrakes(), a) {
			t.Errorf("%+v: accepted", a)
		}
	}
	if !impl.ActOk(guardBrakes(), impl.Act{}) {
		t.Error("zero value: refused")
	}
}

func TestP3MostWantIsAcc(t *testing.T) {
	for _, acc := range []int{0, 1, 99, 100} {
		b := guardBrakes()
		b.Acc = acc
		if !impl.ActOk(b, impl.Act{Want: acc}) || impl.ActOk(b, impl.Act{Want: acc + 1}) {
			t.Errorf("Acc %d", acc)
		}
	}
}

func TestP3NoActWithWrongBrakes(t *testing.T) {
	for _, b := range wrongBrakes() {
		if impl.ActOk(b, impl.Act{}) || impl.ActOk(b, plainAct()) || impl.ActOk(b, impl.Act{Want: b.Acc}) {
			t.Errorf("%+v: accepted", b)
		}
	}
}

// checkNothing holds for Drive and Answer alike.
func checkNothing(t *testing.T, name string, b impl.Brakes, at, speed int, acts []impl.Act) {
	t.Helper()
	if got := impl.Drive(b, at, speed, acts); len(got) != 0 {
		t.Errorf("%s: %+v", name, got)
	}
	if got := impl.Answer(b, at, speed, acts); got != "" {
		t.Errorf("%s: %q", name, got)
	}
}

func TestP3WrongDriveAnswersNothing(t *testing.T) {
	acts := slices.Repeat([]impl.Act{plainAct()}, 5)
	for _, b := range wrongBrakes() {
		checkNothing(t, "brakes", b, 100, 50, acts)
		checkNothing(t, "brakes, an act that asks for nothing", b, 0, 0, []impl.Act{{}})
		checkNothing(t, "brakes, no act", b, 100, 50, nil)
	}
	for _, a := range wrongActs() {
		for i := range acts {
			wrong := slices.Clone(acts)
			wrong[i] = a
			checkNothing(t, "an act", guardBrakes(), 100, 50, wrong)
		}
		checkNothing(t, "the one act", guardBrakes(), 100, 50, []impl.Act{a})
	}
	for _, at := range []int{math.MinInt, -1, 1000001, impl.MaxRoom, math.MaxInt} {
		checkNothing(t, "at", guardBrakes(), at, 50, acts)
	}
	for _, speed := range []int{math.MinInt, -1, 9901, impl.MaxSpeed, math.MaxInt} {
		checkNothing(t, "speed", guardBrakes(), 100, speed, acts)
	}
	checkNothing(t, "no act", guardBrakes(), 100, 50, nil)
	checkNothing(t, "no act", guardBrakes(), 100, 50, []impl.Act{})
}

func TestP3StartBounds(t *testing.T) {
	for _, at := range []int{0, 1, 999999, 1000000} {
		for _, speed := range []int{0, 1, 9899, 9900} {
			slower := max(0, speed-20)
			want := []impl.True{{At: at + slower, Speed: slower, Said: said(impl.GHard, -1, 0)}}
			if got := impl.Drive(guardBrakes(), at, speed, []impl.Act{cutOff(3)}); !slices.Equal(got, want) {
				t.Errorf("%d, %d: %+v, not %+v", at, speed, got, want)
			}
		}
	}
}

func TestP3DriveCountsActs(t *testing.T) {
	acts := slices.Repeat([]impl.Act{plainAct()}, impl.MaxTicks+1)
	for _, n := range []int{0, 1, 2, impl.MaxTicks - 1, impl.MaxTicks} {
		if got := impl.Drive(guardBrakes(), 100, 50, acts[:n]); len(got) != n {
			t.Errorf("%d acts: %d", n, len(got))
		}
		if got := impl.Answer(guardBrakes(), 100, 50, acts[:n]); strings.Count(got, "\n") != n {
			t.Errorf("%d acts: %q", n, got)
		}
	}
	checkNothing(t, "one too many", guardBrakes(), 100, 50, acts)
}

// The greatest of everything is a place and a speed still, in every tick.
func TestP3FarthestAndFastest(t *testing.T) {
	acts := slices.Repeat([]impl.Act{{Want: 100, Off: 1000, Fast: 100, End: impl.MaxRoom, Limit: impl.MaxSpeed}}, impl.MaxTicks)
	acts[0] = letGo(100)
	got := impl.Drive(swiftBrakes(20), 1000000, 0, acts)
	if len(got) != impl.MaxTicks {
		t.Fatal(len(got))
	}
	for i, x := range got {
		if !x.Said.Ok || x.Said.Guard.State != impl.GFree || x.Speed != min(100*(i+1), 9900) {
			t.Fatalf("tick %d: %+v", i, x)
		}
	}
	// 100 .. 9900 in 99 ticks, then 901 of 9900.
	if last := got[impl.MaxTicks-1]; last.At != 1000000+495000+901*9900 {
		t.Errorf("%+v", last)
	}
}

type driveCase struct {
	name   string
	b      impl.Brakes
	speed  int
	acts   []impl.Act
	states []int
	speeds []int
}

func checkDrives(t *testing.T, cases []driveCase) {
	t.Helper()
	for _, c := range cases {
		got := impl.Drive(c.b, 500, c.speed, c.acts)
		if !slices.Equal(statesOf(got), c.states) || !slices.Equal(speedsOf(got), c.speeds) {
			t.Errorf("%s: states %v, not %v; speeds %v, not %v", c.name, statesOf(got), c.states, speedsOf(got), c.speeds)
		}
		at := 500
		for i, x := range got {
			at += x.Speed
			if x.At != at {
				t.Errorf("%s, tick %d: at %d, not %d", c.name, i, x.At, at)
			}
		}
	}
}

func TestP3HardBrakeBegins(t *testing.T) {
	const free, hard = impl.GFree, impl.GHard
	checkDrives(t, []driveCase{
		{"Delay 0: in the first", swiftBrakes(0), 0,
			[]impl.Act{letGo(100), cutOff(100), cutOff(100)},
			[]int{free, hard, hard}, []int{100, 80, 60}},
		{"Delay 1: in the second", swiftBrakes(1), 0,
			[]impl.Act{letGo(100), cutOff(100), cutOff(100), cutOff(100)},
			[]int{free, hard, hard, hard}, []int{100, 200, 180, 160}},
		{"Delay 1, the driver brakes ahead of it", swiftBrakes(1), 0,
			[]impl.Act{letGo(100), cutOff(-1), cutOff(-1)},
			[]int{free, hard, hard}, []int{100, 99, 79}},
		{"Delay 2: in the third", swiftBrakes(2), 0,
			[]impl.Act{letGo(100), cutOff(1), cutOff(2), cutOff(3)},
			[]int{free, hard, hard, hard}, []int{100, 101, 103, 83}},
		{"left by who stands, comes again: the delay too", swiftBrakes(1), 0,
			[]impl.Act{letGo(100), cutOff(-100), letGo(100), cutOff(100), cutOff(100)},
			[]int{free, hard, free, hard, hard}, []int{100, 0, 100, 200, 180}},
		{"left after it had begun, comes again: the delay too", swiftBrakes(1), 0,
			[]impl.Act{letGo(30), cutOff(0), cutOff(0), cutOff(0), letGo(100), cutOff(0), cutOff(0)},
			[]int{free, hard, hard, hard, free, hard, hard}, []int{30, 30, 10, 0, 100, 100, 80}},
		{"comes again, Delay 0", swiftBrakes(0), 0,
			[]impl.Act{letGo(20), cutOff(0), letGo(50), cutOff(0)},
			[]int{free, hard, free, hard}, []int{20, 0, 50, 30}},
		{"a leash that is back does not end it", swiftBrakes(1), 0,
			[]impl.Act{letGo(100), cutOff(0), letGo(0), letGo(0)},
			[]int{free, hard, hard, hard}, []int{100, 100, 80, 60}},
	})
}

func TestP3HardBrakeBeginsAfterTwenty(t *testing.T) {
	acts := append([]impl.Act{letGo(100)}, slices.Repeat([]impl.Act{cutOff(1)}, 23)...)
	got := speedsOf(impl.Drive(swiftBrakes(20), 0, 0, acts))
	want := []int{100, 101, 102, 103, 104, 105, 106, 107, 108, 109, 110, 111, 112, 113, 114, 115, 116, 117, 118, 119, 120, 100, 80, 60}
	if !slices.Equal(got, want) {
		t.Errorf("%v, not %v", got, want)
	}
}

func TestP3HardBrakeAtFirst(t *testing.T) {
	const free, hard = impl.GFree, impl.GHard
	var cases []driveCase
	for _, delay := range []int{0, 1, 20} {
		cases = append(cases,
			driveCase{"has begun", swiftBrakes(delay), 50,
				[]impl.Act{cutOff(100), letGo(100), cutOff(100), cutOff(100)},
				[]int{hard, hard, hard, hard}, []int{30, 10, 0, 0}},
			driveCase{"holds who wants to move", swiftBrakes(delay), 0,
				[]impl.Act{cutOff(100), goOn(100), letGo(100), goOn(50)},
				[]int{hard, hard, free, free}, []int{0, 0, 100, 150}},
			driveCase{"comes to stand, and is let go of", swiftBrakes(delay), 20,
				[]impl.Act{letGo(100), letGo(100), goOn(-30)},
				[]int{hard, free, free}, []int{0, 100, 70}})
	}
	cases = append(cases,
		driveCase{"left at once, comes again: Delay 0", swiftBrakes(0), 0,
			[]impl.Act{letGo(100), cutOff(100)}, []int{free, hard}, []int{100, 80}},
		driveCase{"left at once, comes again: Delay 20", swiftBrakes(20), 0,
			[]impl.Act{letGo(100), cutOff(100), cutOff(-7)}, []int{free, hard, hard}, []int{100, 200, 193}})
	checkDrives(t, cases)
}

func TestP3HardBrakeBrakesMore(t *testing.T) {
	more := func(n int) impl.Act {
		a := cutOff(3)
		a.More = n
		return a
	}
	hard := []int{impl.GHard}
	b := guardBrakes()
	checkDrives(t, []driveCase{
		{"by 0", b, 50, []impl.Act{more(0)}, hard, []int{30}},
		{"by 1", b, 50, []impl.Act{more(1)}, hard, []int{29}},
		{"by one less than is left", b, 50, []impl.Act{more(29)}, hard, []int{1}},
		{"by what is left", b, 50, []impl.Act{more(30)}, hard, []int{0}},
		{"by one more than is left", b, 50, []impl.Act{more(31)}, hard, []int{0}},
		{"by 1000", b, 50, []impl.Act{more(1000)}, hard, []int{0}},
		{"by 1000, fast", b, 9900, []impl.Act{more(1000)}, hard, []int{8880}},
		{"who stands", b, 0, []impl.Act{more(1000)}, hard, []int{0}},
		{"below a brake", b, 19, []impl.Act{more(0)}, hard, []int{0}},
		{"each its own", b, 100, []impl.Act{more(5), more(0), more(20)}, []int{impl.GHard, impl.GHard, impl.GHard}, []int{75, 55, 15}},
	})
	early, soft := goOn(7), goOn(7)
	early.End, early.More = -1, 1000
	soft.Limit, soft.More = 5, 1000
	checkDrives(t, []driveCase{
		{"not ahead of the hard brake", swiftBrakes(1), 0, []impl.Act{letGo(50), early}, []int{impl.GFree, impl.GHard}, []int{50, 57}},
		{"not when warned, nor in the soft brake", swiftBrakes(1), 0, []impl.Act{letGo(50), soft, soft}, []int{impl.GFree, impl.GWarn, impl.GSoft}, []int{50, 57, 47}},
	})
}

func TestP3WantHasBounds(t *testing.T) {
	const free = impl.GFree
	checkDrives(t, []driveCase{
		{"to 1", swiftBrakes(1), 0, []impl.Act{letGo(30), goOn(-29)}, []int{free, free}, []int{30, 1}},
		{"to 0", swiftBrakes(1), 0, []impl.Act{letGo(30), goOn(-30)}, []int{free, free}, []int{30, 0}},
		{"not below 0", swiftBrakes(1), 0, []impl.Act{letGo(30), goOn(-31), goOn(5)}, []int{free, free, free}, []int{30, 0, 5}},
		{"not below 0 by far", swiftBrakes(1), 0, []impl.Act{letGo(-1000), goOn(-1000)}, []int{free, free}, []int{0, 0}},
		{"as it is", swiftBrakes(1), 0, []impl.Act{letGo(30), goOn(0)}, []int{free, free}, []int{30, 30}},
	})
	acts := slices.Repeat([]impl.Act{letGo(100)}, 98)
	acts = append(acts, goOn(99), goOn(2), goOn(1), goOn(-1), goOn(1), goOn(100), cutOff(100), cutOff(100))
	got := speedsOf(impl.Drive(swiftBrakes(1), 0, 0, acts))
	if want := []int{9700, 9800, 9899, 9900, 9900, 9899, 9900, 9900, 9900, 9880}; len(got) != 106 || !slices.Equal(got[96:], want) {
		t.Errorf("%v, not %v", got, want)
	}
}

func TestP3SoftBrake(t *testing.T) {
	const free, warn, soft = impl.GFree, impl.GWarn, impl.GSoft
	slow := func(want, limit int) impl.Act {
		a := goOn(want)
		a.Limit = limit
		return a
	}
	checkDrives(t, []driveCase{
		{"a warning leaves the driver be", swiftBrakes(1), 0,
			[]impl.Act{letGo(50), slow(100, 40), slow(100, 40), slow(100, 40), slow(-100, 40)},
			[]int{free, warn, soft, soft, soft}, []int{50, 150, 140, 130, 120}},
		{"down to the limit", swiftBrakes(1), 0,
			[]impl.Act{letGo(55), slow(0, 40), slow(0, 40), slow(0, 40), slow(0, 40)},
			[]int{free, warn, soft, soft, free}, []int{55, 55, 45, 35, 35}},
		{"not below 0", swiftBrakes(1), 0,
			[]impl.Act{letGo(5), slow(4, 0), slow(100, 0), slow(0, 0)},
			[]int{free, warn, soft, free}, []int{5, 9, 0, 0}},
		{"the driver would brake harder", swiftBrakes(1), 0,
			[]impl.Act{letGo(50), slow(0, 0), slow(-1000, 0)},
			[]int{free, warn, soft}, []int{50, 50, 40}},
	})
}

// 9 keeps a train that stands, 121 one that is felt to have 40, to 1120 from 999.
func TestP3WhatIsFelt(t *testing.T) {
	b := guardBrakes()
	feel := func(off, fast, end int) impl.Act {
		return impl.Act{Off: off, Fast: fast, End: end, Limit: 99, Ack: true}
	}
	for _, c := range []struct {
		name string
		at   int
		act  impl.Act
		want impl.Said
	}{
		{"where it is", 0, feel(0, 0, 9), changed(said(impl.GFree, 9, 0), true)},
		{"where it is, one too far", 1, feel(0, 0, 9), changed(said(impl.GHard, 9, 0), true)},
		{"too far", 0, feel(1000, 0, 1009), changed(said(impl.GFree, 1009, 0), true)},
		{"too far by one more", 0, feel(1000, 0, 1008), changed(said(impl.GHard, 1008, 0), true)},
		{"much room", 1000, feel(0, 0, 1220), changed(said(impl.GFree, 1220, 40), true)},
		{"much room, place and Off", 300, feel(700, 0, 1220), changed(said(impl.GFree, 1220, 40), true)},
		{"seems to move", 1000, feel(0, 1, 1220), changed(said(impl.GHard, 1220, 0), true)},
	} {
		got := impl.Drive(b, c.at, 0, []impl.Act{c.act})
		if len(got) != 1 || got[0] != (impl.True{At: c.at, Said: c.want}) {
			t.Errorf("%s: %+v", c.name, got)
		}
	}
	start := letGo(3)
	for _, c := range []struct {
		name  string
		act   impl.Act
		state int
	}{
		{"too fast, just kept", feel(996, 37, 1120), impl.GWarn},
		{"too fast by one more", feel(996, 38, 1120), impl.GHard},
		{"too fast, too far by one more", feel(997, 37, 1120), impl.GHard},
		{"too fast, one too short", feel(996, 37, 1119), impl.GHard},
	} {
		got := impl.Drive(b, 0, 0, []impl.Act{start, c.act})
		if len(got) != 2 || got[0].At != 3 || got[1].Said.Guard.State != c.state || got[1].Speed != 3 || got[1].At != 6 {
			t.Errorf("%s: %+v", c.name, got)
		}
	}
}

func TestP3LeashesThatChange(t *testing.T) {
	b := guardBrakes()
	act := func(want, end int, ack bool) impl.Act {
		return impl.Act{Want: want, End: end, Limit: 30, Ack: ack}
	}
	got := impl.Drive(b, 1000, 0, []impl.Act{
		act(3, -1, true),
		act(3, 1220, true),
		act(3, 1300, false),
		act(3, 1250, false),
		act(3, 1250, false),
		act(3, -1, false),
		act(3, 1250, false),
		act(3, 1250, true),
		act(3, 1026, true),
		act(3, 1027, true),
	})
	want := []impl.True{
		{At: 1000, Speed: 0, Said: said(impl.GHard, -1, 0)},
		{At: 1003, Speed: 3, Said: changed(said(impl.GFree, 1220, 30), true)},
		{At: 1009, Speed: 6, Said: changed(said(impl.GFree, 1300, 30), true)},
		{At: 1018, Speed: 9, Said: changed(said(impl.GFree, 1250, 30), true)},
		{At: 1030, Speed: 12, Said: said(impl.GFree, 1250, 30)},
		{At: 1045, Speed: 15, Said: changed(said(impl.GHard, -1, 0), false)},
		{At: 1045, Speed: 0, Said: changed(said(impl.GHard, 1250, 0), true)},
		{At: 1048, Speed: 3, Said: said(impl.GFree, 1250, 30)},
		{At: 1054, Speed: 6, Said: changed(said(impl.GHard, 1026, 0), false)},
		{At: 1054, Speed: 0, Said: changed(said(impl.GHard, 1027, 0), true)},
	}
	if !slices.Equal(got, want) {
		t.Errorf("%+v\nnot\n%+v", got, want)
	}
}

func TestP3AnswerByHand(t *testing.T) {
	act := func(end, limit int, ack bool) impl.Act {
		return impl.Act{Want: 3, End: end, Limit: limit, Ack: ack}
	}
	got := impl.Answer(guardBrakes(), 1000, 0, []impl.Act{
		act(-1, 99, true),
		act(1220, 99, false),
		act(1220, 99, true),
		act(1221, 99, false),
		act(1221, 5, false),
		act(1221, 5, false),
		act(1221, 99, false),
		act(1230, 2, false),
		act(1200, 2, false),
		act(1035, 99, false),
		act(1035, 99, false),
		act(-1, 99, false),
		act(0, 99, false),
	})
	want := "1000 0 hard 0 -1\n" +
		"1000 0 hard 0 1220 kept\n" +
		"1003 3 free 40 1220\n" +
		"1009 6 free 39 1221 kept\n" +
		"1018 9 warn 5 1221\n" +
		"1018 0 soft 5 1221\n" +
		"1021 3 free 37 1221\n" +
		"1027 6 warn 2 1230 kept\n" +
		"1027 0 soft 2 1200 kept\n" +
		"1030 3 hard 0 1035 refused\n" +
		"1030 0 hard 0 1035\n" +
		"1030 0 hard 0 -1 refused\n" +
		"1030 0 hard 0 0 kept\n"
	if got != want {
		t.Errorf("%q\nnot\n%q", got, want)
	}
	if got := impl.Answer(guardBrakes(), 1000000, 9900, []impl.Act{act(impl.MaxRoom, 0, true)}); got != "1009880 9880 hard 0 100000000 kept\n" {
		t.Errorf("%q", got)
	}
}

// world goes through a drive again as the document tells it; GHard came in the tick since.
type world struct {
	reckoned
	g         impl.Guard
	at, speed int
	tick      int
	since     int
}

func (r reckoned) world(at, speed int) world {
	return world{reckoned: r, g: impl.Guard{State: impl.GHard, End: -1}, at: at, speed: speed, since: -r.b.Delay}
}

func (w *world) felt(a impl.Act) impl.Felt {
	return impl.Felt{High: w.at + a.Off, Speed: w.speed + a.Fast, End: a.End, Limit: a.Limit, Ack: a.Ack}
}

func (w *world) step(a impl.Act) impl.True {
	s := w.reckoned.tick(w.g, w.felt(a))
	if w.g.State != impl.GHard && s.Guard.State == impl.GHard {
		w.since = w.tick
	}
	if s.Guard.State == impl.GHard && w.tick >= w.since+w.b.Delay {
		w.speed -= w.b.Hard + a.More
	} else if s.Guard.State == impl.GSoft {
		w.speed -= w.b.Soft
	} else {
		w.speed += a.Want
	}
	if w.speed < 0 {
		w.speed = 0
	}
	if w.speed > 9900 {
		w.speed = 9900
	}
	w.at += w.speed
	w.tick++
	w.g = s.Guard
	return impl.True{At: w.at, Speed: w.speed, Said: s}
}

// leash is one that often just keeps the train, or just does not.
func (w *world) leash(d *dice, off, fast int) int {
	just := w.at + off + w.worst[w.speed+fast]
	switch d.below(12) {
	case 0:
		return -1
	case 1:
		return just
	case 2:
		return just - 1
	case 3:
		return max(0, w.at-1-d.below(50))
	case 4:
		return just + d.below(200)
	case 5, 6, 7:
		return just + d.below(200000)
	}
	return w.g.End
}

func (w *world) act(d *dice) impl.Act {
	a := impl.Act{Want: w.b.Acc, Limit: 1 + d.below(300), Ack: d.below(2) == 0}
	if d.below(3) == 0 {
		a.Want = d.below(w.b.Acc+41) - 40
	}
	if d.below(2) == 0 {
		a.Off = d.below(30)
		a.More = d.below(60)
	}
	if d.below(4) == 0 {
		a.Fast = d.below(20)
	}
	if d.below(3) == 0 {
		a.Limit = d.below(1 + w.speed)
	}
	a.End = w.leash(d, a.Off, a.Fast)
	return a
}

// outing is a drive by somebody who mostly wants to become faster, and where leashes change.
func (w *world) outing(d *dice, ticks int) ([]impl.Act, []impl.True) {
	var acts []impl.Act
	var all []impl.True
	for range ticks {
		a := w.act(d)
		acts = append(acts, a)
		all = append(all, w.step(a))
	}
	return acts, all
}

// outingBrakes have an Acc, or nothing would move.
func outingBrakes() []impl.Brakes {
	return []impl.Brakes{
		plainBrakes(),
		guardBrakes(),
		swiftBrakes(0),
		{Soft: 10, Hard: 10, Acc: 1},
		{Soft: 10, Hard: 13, Delay: 20, Acc: 100},
		{Soft: 10, Hard: 1000, Delay: 20, Acc: 100, Warn: 60},
		{Soft: 10, Hard: 40, Delay: 3, Acc: 11, Warn: 1},
	}
}

func lineAgain(x impl.True) string {
	name := []string{"free", "warn", "soft", "hard"}[x.Said.Guard.State]
	kept := ""
	if x.Said.Change && x.Said.Kept {
		kept = " kept"
	} else if x.Said.Change {
		kept = " refused"
	}
	return decimal(x.At) + " " + decimal(x.Speed) + " " + name + " " + decimal(x.Said.Speed) + " " + decimal(x.Said.Guard.End) + kept + "\n"
}

func decimal(n int) string {
	if n < 0 {
		return "-" + decimal(-n)
	}
	if n < 10 {
		return string(rune('0' + n))
	}
	return decimal(n/10) + decimal(n%10)
}

func TestP3OutingsTickByTick(t *testing.T) {
	d := dice(30)
	states := map[int]int{}
	late := 0
	for _, b := range outingBrakes() {
		r := reckon(b, impl.MaxSpeed)
		for n := range 30 {
			at, speed := d.below(1000), 0
			if n%3 == 0 {
				speed = d.below(300)
			}
			w := r.world(at, speed)
			acts, want := w.outing(&d, 300)
			if got := impl.Drive(b, at, speed, acts); !slices.Equal(got, want) {
				t.Fatalf("%+v: %+v: %+v, not %+v", b, acts, got, want)
			}
			var text strings.Builder
			for i, x := range want {
				text.WriteString(lineAgain(x))
				states[x.Said.Guard.State]++
				if i > 0 && x.Said.Guard.State == impl.GHard && x.Speed > want[i-1].Speed {
					late++
				}
			}
			if got := impl.Answer(b, at, speed, acts); got != text.String() {
				t.Fatalf("%+v: %q, not %q", b, got, text.String())
			}
		}
	}
	for state := impl.GFree; state <= impl.GHard; state++ {
		if states[state] < 1000 {
			t.Errorf("state %d in %d ticks only", state, states[state])
		}
	}
	if late < 100 {
		t.Errorf("faster ahead of the hard brake in %d ticks only", late)
	}
}

// All goroutines have ended when a call answers, also where an act between is not right; a few are other tests' or are just ending.
func TestP3TrainsAreLetGo(t *testing.T) {
	right := slices.Repeat([]impl.Act{plainAct()}, 5)
	wrong := slices.Clone(right)
	wrong[2].Off = -1
	before := runtime.NumGoroutine()
	for range 500 {
		impl.Drive(guardBrakes(), 0, 0, right)
		impl.Drive(guardBrakes(), 0, 0, wrong)
		impl.Drive(guardBrakes(), 0, 0, nil)
		impl.Answer(guardBrakes(), 0, 0, wrong)
	}
	if after := runtime.NumGoroutine(); after > before+20 {
		t.Errorf("%d goroutines, %d before", after, before)
	}
}
