package tests

import (
	"math"
	"slices"
	"testing"

	"loop.example/deadman/impl"
)

func guardBrakes() impl.Brakes {
	return impl.Brakes{Soft: 10, Hard: 20, Delay: 1, Acc: 3, Warn: 2}
}

// The cases worked by hand lean on these rooms: 9 keeps a train that stands, 121 one of 40; 220 permits 40, 228 41, 121 25.
func TestP2RoomsByHand(t *testing.T) {
	for _, c := range []struct{ v, worst, gentle int }{
		{0, 3 + 6, 0},
		{25, 28 + 31 + 11, 4*25 + 15 + 5},
		{26, 29 + 32 + 12, 4*26 + 16 + 6},
		{40, 43 + 46 + 26 + 6, 4*40 + 30 + 20 + 10},
		{41, 44 + 47 + 27 + 7, 4*41 + 31 + 21 + 11 + 1},
	} {
		if w, g := impl.Worst(guardBrakes(), c.v), impl.Gentle(guardBrakes(), c.v); w != c.worst || g != c.gentle {
			t.Errorf("%d: %d %d", c.v, w, g)
		}
	}
}

func plainGuard() impl.Guard { return impl.Guard{State: impl.GFree, End: 1220} }

func plainFelt() impl.Felt {
	return impl.Felt{High: 1000, Speed: 40, End: 1220, Limit: 99}
}

func said(state, end, speed int) impl.Said {
	return impl.Said{Ok: true, Guard: impl.Guard{State: state, End: end}, Speed: speed}
}

func changed(s impl.Said, kept bool) impl.Said {
	s.Change, s.Kept = true, kept
	return s
}

func TestP2NumbersOfStates(t *testing.T) {
	if impl.GFree != 0 || impl.GWarn != 1 || impl.GSoft != 2 || impl.GHard != 3 || impl.MaxTicks != 1000 {
		t.Error(impl.GFree, impl.GWarn, impl.GSoft, impl.GHard, impl.MaxTicks)
	}
}

func feltBounds() []edge[impl.Felt] {
	high := func(f *impl.Felt, n int) { f.High = n }
	speed := func(f *impl.Felt, n int) { f.Speed = n }
	end := func(f *impl.Felt, n int) { f.End = n }
	limit := func(f *impl.Felt, n int) { f.Limit = n }
	return []edge[impl.Felt]{
		{"least High", high, 0, -1},
		{"most High", high, 100000000, 1},
		{"least Speed", speed, 0, -1},
		{"most Speed", speed, 10000, 1},
		{"least End", end, -1, -1},
		{"most End", end, 100000000, 1},
		{"least Limit", limit, 0, -1},
		{"most Limit", limit, 10000, 1},
	}
}

func wrongFelts() []impl.Felt {
	var wrong []impl.Felt
	for _, c := range feltBounds() {
		for _, n := range []int{c.bound + c.beyond, c.beyond * math.MaxInt, math.MinInt} {
			f := plainFelt()
			c.set(&f, n)
			wrong = append(wrong, f)
		}
	}
	return wrong
}

func wrongGuards() []impl.Guard {
	var wrong []impl.Guard
	for _, n := range []int{math.MinInt, -1, 4, math.MaxInt} {
		wrong = append(wrong, impl.Guard{State: n, End: 1220})
	}
	for _, n := range []int{math.MinInt, -2, impl.MaxRoom + 1, math.MaxInt} {
		wrong = append(wrong, impl.Guard{State: impl.GFree, End: n}, impl.Guard{State: impl.GHard, End: n})
	}
	return wrong
}

func wrongBrakes() []impl.Brakes {
	wrong := []impl.Brakes{{}, {Soft: math.MaxInt, Hard: math.MaxInt, Delay: math.MaxInt, Acc: math.MaxInt, Warn: math.MaxInt}}
	for _, c := range brakesBounds() {
		b := plainBrakes()
		c.set(&b, c.bound+c.beyond)
		wrong = append(wrong, b)
	}
	return wrong
}

func TestP2FeltBounds(t *testing.T) {
	for _, ack := range []bool{false, true} {
		for _, c := range feltBounds() {
			f := plainFelt()
			f.Ack = ack
			c.set(&f, c.bound)
			if !impl.FeltOk(f) || !impl.Tick(guardBrakes(), plainGuard(), f).Ok {
				t.Errorf("%s met: refused", c.name)
			}
		}
	}
	for _, f := range wrongFelts() {
		if impl.FeltOk(f) {
			t.Errorf("%+v: accepted", f)
		}
	}
	if !impl.FeltOk(impl.Felt{}) {
		t.Error("zero value: refused")
	}
}

func TestP2GuardBounds(t *testing.T) {
	for state := impl.GFree; state <= impl.GHard; state++ {
		for _, end := range []int{-1, 0, 1, impl.MaxRoom - 1, impl.MaxRoom} {
			g := impl.Guard{State: state, End: end}
			if !impl.GuardOk(g) || !impl.Tick(guardBrakes(), g, plainFelt()).Ok {
				t.Errorf("%+v: refused", g)
			}
		}
	}
	for _, g := range wrongGuards() {
		if impl.GuardOk(g) {
			t.Errorf("%+v: accepted", g)
		}
	}
}

func TestP2WrongTickSaysNothing(t *testing.T) {
	for state := impl.GFree; state <= impl.GHard; state++ {
		g := impl.Guard{State: state, End: 1220}
		for _, b := range wrongBrakes() {
			if s := impl.Tick(b, g, plainFelt()); s != (impl.Said{}) {
				t.Errorf("%+v: %+v", b, s)
			}
		}
		for _, f := range wrongFelts() {
			if s := impl.Tick(guardBrakes(), g, f); s != (impl.Said{}) {
				t.Errorf("%+v: %+v", f, s)
			}
		}
	}
	for _, g := range wrongGuards() {
		if s := impl.Tick(guardBrakes(), g, plainFelt()); s != (impl.Said{}) {
			t.Errorf("%+v: %+v", g, s)
		}
	}
}

type tickCase struct {
	name string
	b    impl.Brakes
	g    impl.Guard
	f    impl.Felt
	want impl.Said
}

func checkTicks(t *testing.T, cases []tickCase) {
	t.Helper()
	for _, c := range cases {
		if got := impl.Tick(c.b, c.g, c.f); got != c.want {
			t.Errorf("%s: %+v, not %+v", c.name, got, c.want)
		}
	}
}

func TestP2SpeedSaidAndOneMore(t *testing.T) {
	b := guardBrakes()
	free, warn := impl.Guard{State: impl.GFree, End: 1220}, impl.Guard{State: impl.GWarn, End: 1220}
	soft, hard := impl.Guard{State: impl.GSoft, End: 1220}, impl.Guard{State: impl.GHard, End: 1220}
	at := func(speed, limit int, ack bool) impl.Felt {
		return impl.Felt{High: 1000, Speed: speed, End: 1220, Limit: limit, Ack: ack}
	}
	checkTicks(t, []tickCase{
		{"free, just it", b, free, at(40, 99, false), said(impl.GFree, 1220, 40)},
		{"warned, just it", b, warn, at(40, 99, false), said(impl.GFree, 1220, 40)},
		{"soft, just it", b, soft, at(40, 99, false), said(impl.GFree, 1220, 40)},
		{"hard, just it", b, hard, at(40, 99, false), said(impl.GHard, 1220, 0)},
		{"free, one more", b, free, at(41, 99, false), said(impl.GWarn, 1220, 40)},
		{"warned, one more", b, warn, at(41, 99, false), said(impl.GSoft, 1220, 40)},
		{"soft, one more", b, soft, at(41, 99, false), said(impl.GSoft, 1220, 40)},
		{"hard, one more", b, hard, at(41, 99, false), said(impl.GHard, 1220, 0)},
		{"free, one more, the driver is there", b, free, at(41, 99, true), said(impl.GWarn, 1220, 40)},
		{"hard, one more, the driver is there", b, hard, at(41, 99, true), said(impl.GHard, 1220, 0)},
		{"free, just the limit", b, free, at(30, 30, false), said(impl.GFree, 1220, 30)},
		{"free, the limit passed", b, free, at(31, 30, false), said(impl.GWarn, 1220, 30)},
		{"soft, the limit passed", b, soft, at(31, 30, false), said(impl.GSoft, 1220, 30)},
		{"free, limit 0, stands", b, free, at(0, 0, false), said(impl.GFree, 1220, 0)},
		{"warned, limit 0, moves", b, warn, at(1, 0, false), said(impl.GSoft, 1220, 0)},
	})
}

func TestP2JustEnoughRoom(t *testing.T) {
	b, still := guardBrakes(), impl.Brakes{Soft: 10, Hard: 20}
	var cases []tickCase
	for state := impl.GFree; state <= impl.GHard; state++ {
		g := impl.Guard{State: state, End: 1000}
		felt := func(high, speed int, ack bool) impl.Felt {
			return impl.Felt{High: high, Speed: speed, End: 1000, Limit: 99, Ack: ack}
		}
		gone := said(impl.GHard, 1000, 0)
		cases = append(cases,
			tickCase{"stands, just enough", b, g, felt(991, 0, true), said(impl.GFree, 1000, 0)},
			tickCase{"stands, one too little", b, g, felt(992, 0, true), gone},
			tickCase{"stands at the end, can become faster", b, g, felt(1000, 0, true), gone},
			tickCase{"stands at the end, can't become faster", still, g, felt(1000, 0, true), said(impl.GFree, 1000, 0)},
			tickCase{"stands one beyond the end", still, g, felt(1001, 0, true), gone},
			tickCase{"stands far beyond the end", still, g, felt(impl.MaxRoom, 0, true), gone},
			tickCase{"moves, one too little", b, g, felt(880, 40, true), gone},
			tickCase{"moves beyond the end", b, g, felt(1001, 40, true), gone},
		)
	}
	for state, want := range []int{impl.GFree: impl.GWarn, impl.GWarn: impl.GSoft, impl.GSoft: impl.GSoft, impl.GHard: impl.GHard} {
		speed := 25
		if state == impl.GHard {
			speed = 0
		}
		cases = append(cases, tickCase{"moves, just enough", b, impl.Guard{State: state, End: 1000}, impl.Felt{High: 879, Speed: 40, End: 1000, Limit: 99}, said(want, 1000, speed)})
	}
	cases = append(cases,
		tickCase{"all the room there is", b, impl.Guard{End: impl.MaxRoom}, impl.Felt{Speed: impl.MaxSpeed, End: impl.MaxRoom, Limit: impl.MaxSpeed}, said(impl.GFree, impl.MaxRoom, impl.MaxSpeed)},
		tickCase{"at the last place", still, impl.Guard{End: impl.MaxRoom}, impl.Felt{High: impl.MaxRoom, End: impl.MaxRoom, Limit: 99}, said(impl.GFree, impl.MaxRoom, 0)},
		tickCase{"at the first place", still, impl.Guard{}, impl.Felt{Limit: 99}, said(impl.GFree, 0, 0)},
	)
	checkTicks(t, cases)
}

func TestP2LeashesThatChange(t *testing.T) {
	b, still := guardBrakes(), impl.Brakes{Soft: 10, Hard: 20}
	free, hard := plainGuard(), impl.Guard{State: impl.GHard, End: 1220}
	none := impl.Guard{State: impl.GFree, End: -1}
	to := func(end int) impl.Felt { return impl.Felt{High: 1000, Speed: 40, End: end, Limit: 99} }
	checkTicks(t, []tickCase{
		{"the same", b, free, to(1220), said(impl.GFree, 1220, 40)},
		{"one more", b, free, to(1221), changed(said(impl.GFree, 1221, 40), true)},
		{"more, permits more", b, free, to(1228), changed(said(impl.GFree, 1228, 41), true)},
		{"one less", b, free, to(1219), changed(said(impl.GWarn, 1219, 39), true)},
		{"less, just kept", b, free, to(1121), changed(said(impl.GWarn, 1121, 25), true)},
		{"less, not kept", b, free, to(1120), changed(said(impl.GHard, 1120, 0), false)},
		{"less, behind the train", b, free, to(0), changed(said(impl.GHard, 0, 0), false)},
		{"taken away", b, free, to(-1), changed(said(impl.GHard, -1, 0), false)},
		{"taken away from who stands", still, free, impl.Felt{End: -1, Ack: true}, changed(said(impl.GHard, -1, 0), false)},
		{"taken away in hard", b, hard, to(-1), changed(said(impl.GHard, -1, 0), false)},
		{"given", b, none, to(1220), changed(said(impl.GFree, 1220, 40), true)},
		{"given, too short", b, none, to(1120), changed(said(impl.GHard, 1120, 0), true)},
		{"given, the first place", b, none, to(0), changed(said(impl.GHard, 0, 0), true)},
		{"given in hard", b, impl.Guard{State: impl.GHard, End: -1}, to(1220), changed(said(impl.GHard, 1220, 0), true)},
		{"none as before", b, none, to(-1), said(impl.GHard, -1, 0)},
		{"more, still too short", b, impl.Guard{End: 1119}, to(1120), changed(said(impl.GHard, 1120, 0), true)},
		{"the same, too short", b, impl.Guard{End: 1120}, to(1120), said(impl.GHard, 1120, 0)},
		{"less in hard, just kept", b, hard, to(1121), changed(said(impl.GHard, 1121, 0), true)},
		{"less in hard, not kept", b, hard, to(1120), changed(said(impl.GHard, 1120, 0), false)},
		{"more in hard", b, hard, to(5000), changed(said(impl.GHard, 5000, 0), true)},
		{"less, let go of at once", b, hard, impl.Felt{High: 1000, End: 1009, Limit: 99, Ack: true}, changed(said(impl.GFree, 1009, 0), true)},
		{"less, one too short to let go", b, hard, impl.Felt{High: 1000, End: 1008, Limit: 99, Ack: true}, changed(said(impl.GHard, 1008, 0), false)},
	})
}

// reckoned is a train's rooms for each speed, gone tick by tick.
type reckoned struct {
	b             impl.Brakes
	worst, gentle []int
}

func reckon(b impl.Brakes, most int) reckoned {
	r := reckoned{b: b}
	for v := range most + 1 {
		r.worst = append(r.worst, goneWorst(b, v))
		r.gentle = append(r.gentle, goneGentle(b, v))
	}
	return r
}

func (r reckoned) permitted(room, limit int) int {
	for v := limit; v > 0; v-- {
		if r.worst[v] <= room && r.gentle[v] <= room {
			return v
		}
	}
	return 0
}

func (r reckoned) kept(f impl.Felt) bool { return r.worst[f.Speed] <= f.End-f.High }

// tick says again what the document says, bullet by bullet.
func (r reckoned) tick(g impl.Guard, f impl.Felt) impl.Said {
	want := said(impl.GFree, f.End, r.permitted(f.End-f.High, f.Limit))
	if f.End != g.End {
		want = changed(want, f.End > g.End || r.kept(f))
	}
	letGo := f.Speed == 0 && f.Ack && r.kept(f)
	if g.State == impl.GHard && !letGo || !r.kept(f) {
		want.Guard.State, want.Speed = impl.GHard, 0
	} else if f.Speed > want.Speed && (g.State == impl.GWarn || g.State == impl.GSoft) {
		want.Guard.State = impl.GSoft
	} else if f.Speed > want.Speed {
		want.Guard.State = impl.GWarn
	}
	return want
}

const narrowSpeed = 16

func narrowTrains() []reckoned {
	var all []reckoned
	for _, b := range []impl.Brakes{
		{Soft: 10, Hard: 10},
		{Soft: 10, Hard: 12, Acc: 1, Warn: 1},
		{Soft: 10, Hard: 1000, Delay: 1, Acc: 3, Warn: 2},
	} {
		all = append(all, reckon(b, narrowSpeed))
	}
	return all
}

// narrowFelts are close to the end of a leash: each speed and each end there, at some places and limits.
func narrowFelts(yield func(f impl.Felt) bool) {
	for _, high := range []int{0, 7, 40} {
		for end := -1; end <= 50; end++ {
			for speed := range narrowSpeed + 1 {
				for _, limit := range []int{0, 6, narrowSpeed} {
					for _, ack := range []bool{false, true} {
						if !yield(impl.Felt{High: high, Speed: speed, End: end, Limit: limit, Ack: ack}) {
							return
						}
					}
				}
			}
		}
	}
}

func TestP2NarrowTicks(t *testing.T) {
	for _, r := range narrowTrains() {
		for f := range narrowFelts {
			for state := impl.GFree; state <= impl.GHard; state++ {
				for _, end := range []int{-1, max(f.End-1, -1), f.End, f.End + 1, 60} {
					g := impl.Guard{State: state, End: end}
					if got, want := impl.Tick(r.b, g, f), r.tick(g, f); got != want {
						t.Fatalf("%+v %+v %+v: %+v, not %+v", r.b, g, f, got, want)
					}
				}
			}
		}
	}
}

// dice throws the same numbers every time.
type dice uint32

func (d *dice) below(n int) int {
	*d = *d*1664525 + 1013904223
	return int(*d>>8) % n
}

// journey is a run of ticks in which speeds, places and leashes change, and of which many are let go of again.
func journey(d *dice, ticks int) []impl.Felt {
	all := make([]impl.Felt, ticks)
	end := -1
	for i := range all {
		if d.below(4) == 0 {
			end = d.below(400) - 1
		}
		f := impl.Felt{High: d.below(60), Speed: d.below(50), End: end, Limit: d.below(50), Ack: d.below(2) == 0}
		if d.below(2) == 0 {
			f.Speed = 0
		}
		all[i] = f
	}
	return all
}

func TestP2RunsTickByTick(t *testing.T) {
	d := dice(1)
	for _, b := range someBrakes() {
		r := reckon(b, 50)
		for range 20 {
			ticks := journey(&d, 200)
			g := impl.Guard{State: impl.GHard, End: -1}
			var want []impl.Said
			for _, f := range ticks {
				s := r.tick(g, f)
				want = append(want, s)
				g = s.Guard
			}
			if got := impl.Run(b, ticks); !slices.Equal(got, want) {
				t.Fatalf("%+v: %+v: %+v, not %+v", b, ticks, got, want)
			}
		}
	}
}

func TestP2RunByHand(t *testing.T) {
	b := guardBrakes()
	at := func(high, speed, end int, ack bool) impl.Felt {
		return impl.Felt{High: high, Speed: speed, End: end, Limit: 99, Ack: ack}
	}
	got := impl.Run(b, []impl.Felt{
		at(1000, 0, -1, true),
		at(1000, 0, 1220, false),
		at(1000, 0, 1220, true),
		at(1000, 40, 1220, false),
		at(1000, 41, 1220, false),
		at(1000, 41, 1220, false),
		at(1000, 41, 1220, false),
		at(1000, 40, 1220, false),
		at(1000, 40, 1120, false),
		at(1000, 20, 1120, true),
		at(1000, 0, 1120, false),
		at(1000, 0, 1120, true),
		at(1000, 0, -1, true),
	})
	want := []impl.Said{
		said(impl.GHard, -1, 0),
		changed(said(impl.GHard, 1220, 0), true),
		said(impl.GFree, 1220, 40),
		said(impl.GFree, 1220, 40),
		said(impl.GWarn, 1220, 40),
		said(impl.GSoft, 1220, 40),
		said(impl.GSoft, 1220, 40),
		said(impl.GFree, 1220, 40),
		changed(said(impl.GHard, 1120, 0), false),
		said(impl.GHard, 1120, 0),
		said(impl.GHard, 1120, 0),
		said(impl.GFree, 1120, 25),
		changed(said(impl.GHard, -1, 0), false),
	}
	if !slices.Equal(got, want) {
		t.Errorf("%+v\nnot\n%+v", got, want)
	}
}

func TestP2RunCountsTicks(t *testing.T) {
	d := dice(2)
	ticks := journey(&d, impl.MaxTicks+1)
	for _, n := range []int{0, 1, 2, impl.MaxTicks - 1, impl.MaxTicks} {
		if got := impl.Run(guardBrakes(), ticks[:n]); len(got) != n {
			t.Errorf("%d ticks: %d", n, len(got))
		}
	}
	if got := impl.Run(guardBrakes(), ticks); len(got) != 0 {
		t.Errorf("one too many: %d", len(got))
	}
	if got := impl.Run(guardBrakes(), nil); len(got) != 0 {
		t.Errorf("nil: %d", len(got))
	}
}

func TestP2WrongRunSaysNothing(t *testing.T) {
	d := dice(3)
	ticks := journey(&d, 5)
	for _, b := range wrongBrakes() {
		if got := impl.Run(b, ticks); len(got) != 0 {
			t.Errorf("%+v: %+v", b, got)
		}
		if got := impl.Run(b, nil); len(got) != 0 {
			t.Errorf("%+v, no tick: %+v", b, got)
		}
	}
	for _, f := range wrongFelts() {
		for i := range ticks {
			wrong := slices.Clone(ticks)
			wrong[i] = f
			if got := impl.Run(guardBrakes(), wrong); len(got) != 0 {
				t.Errorf("%+v at %d: %+v", f, i, got)
			}
		}
	}
}

func TestP2RunLeavesItsArgument(t *testing.T) {
	d := dice(4)
	ticks := journey(&d, 30)
	before := slices.Clone(ticks)
	first := impl.Run(guardBrakes(), ticks)
	kept := slices.Clone(first)
	if !slices.Equal(ticks, before) {
		t.Error("written into the argument")
	}
	clear(ticks)
	if !slices.Equal(first, kept) {
		t.Error("the answer shares with the argument")
	}
	clear(first)
	if second := impl.Run(guardBrakes(), before); !slices.Equal(second, kept) {
		t.Error("another answer at the same argument")
	}
}
