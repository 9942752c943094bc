package tests

import (
	"math"
	"testing"

	"loop.example/deadman/impl"
)

func plainBrakes() impl.Brakes {
	return impl.Brakes{Soft: 13, Hard: 37, Delay: 2, Acc: 5, Warn: 4}
}

// edge names a bound of one field; beyond is the step that passes it.
type edge[T any] struct {
	name   string
	set    func(of *T, n int)
	bound  int
	beyond int
}

func brakesBounds() []edge[impl.Brakes] {
	soft := func(b *impl.Brakes, n int) { b.Soft, b.Hard = n, max(n, b.Hard) }
	softUpToHard := func(b *impl.Brakes, n int) { b.Soft = n }
	hard := func(b *impl.Brakes, n int) { b.Hard = n }
	delay := func(b *impl.Brakes, n int) { b.Delay = n }
	acc := func(b *impl.Brakes, n int) { b.Acc = n }
	warn := func(b *impl.Brakes, n int) { b.Warn = n }
	return []edge[impl.Brakes]{
		{"least Soft", soft, 10, -1},
		{"most Soft", soft, 1000, 1},
		{"Soft up to Hard", softUpToHard, plainBrakes().Hard, 1},
		{"Hard down to Soft", hard, plainBrakes().Soft, -1},
		{"most Hard", hard, 1000, 1},
		{"least Delay", delay, 0, -1},
		{"most Delay", delay, 20, 1},
		{"least Acc", acc, 0, -1},
		{"most Acc", acc, 100, 1},
		{"least Warn", warn, 0, -1},
		{"most Warn", warn, 60, 1},
	}
}

func TestP1BrakesBounds(t *testing.T) {
	for _, c := range brakesBounds() {
		met, passed, extreme := plainBrakes(), plainBrakes(), plainBrakes()
		c.set(&met, c.bound)
		c.set(&passed, c.bound+c.beyond)
		c.set(&extreme, math.MaxInt)
		if c.beyond < 0 {
			c.set(&extreme, math.MinInt)
		}
		if !impl.BrakesOk(met) {
			t.Errorf("%s met: refused", c.name)
		}
		if impl.BrakesOk(passed) {
			t.Errorf("%s passed by one: accepted", c.name)
		}
		if impl.BrakesOk(extreme) {
			t.Errorf("%s passed by far: accepted", c.name)
		}
	}
	if impl.BrakesOk(impl.Brakes{}) {
		t.Error("zero value: accepted")
	}
	for _, b := range []impl.Brakes{
		{Soft: 10, Hard: 10},
		{Soft: 10, Hard: 1000},
		{Soft: 1000, Hard: 1000, Delay: 20, Acc: 100, Warn: 60},
	} {
		if !impl.BrakesOk(b) {
			t.Errorf("%+v: refused", b)
		}
	}
}

func TestP1WrongBrakesAnswerNothing(t *testing.T) {
	wrong := []impl.Brakes{{}, {Soft: math.MinInt, Hard: math.MinInt}, {Soft: math.MaxInt, Hard: math.MaxInt}}
	for _, c := range brakesBounds() {
		for _, n := range []int{c.bound + c.beyond, c.beyond * math.MaxInt} {
			b := plainBrakes()
			c.set(&b, n)
			wrong = append(wrong, b)
		}
	}
	for _, b := range wrong {
		for _, v := range []int{math.MinInt, 0, 1, 50, impl.MaxSpeed, math.MaxInt} {
			if w, g := impl.Worst(b, v), impl.Gentle(b, v); w != -1 || g != -1 {
				t.Errorf("%+v: curves of %d: %d %d", b, v, w, g)
			}
		}
		for _, room := range []int{math.MinInt, 0, 1, 5000, impl.MaxRoom, math.MaxInt} {
			if m, p := impl.MostHard(b, room), impl.Permitted(b, room, 100); m != -1 || p != -1 {
				t.Errorf("%+v: speeds for %d: %d %d", b, room, m, p)
			}
		}
	}
}

func TestP1CurvesByHand(t *testing.T) {
	bare := impl.Brakes{Soft: 10, Hard: 10}
	quick := impl.Brakes{Soft: 1000, Hard: 1000, Delay: 20, Acc: 100, Warn: 60}
	slow := impl.Brakes{Soft: 10, Hard: 10, Delay: 20, Acc: 100, Warn: 60}
	for _, c := range []struct {
		name             string
		b                impl.Brakes
		v, worst, gentle int
	}{
		{"stands, Acc and Delay 0", bare, 0, 0, 0},
		{"below a brake", bare, 9, 9, 9},
		{"a brake", bare, 10, 10, 10},
		{"above a brake: 11, 1", bare, 11, 12, 12},
		{"no multiple: 25, 15, 5", bare, 25, 45, 45},
		{"a multiple: 30, 20, 10", bare, 30, 60, 60},
		{"MaxSpeed, 10 at a time", bare, 10000, 5005000, 5005000},
		{"stands, 100 .. 2100, then 1100, 100", quick, 0, 24300, 0},
		{"MaxSpeed, 10100 .. 12100, then 11100 .. 100; 81 ticks, then 9000 .. 1000", quick, 10000, 300300, 855000},
		{"MaxSpeed, 10100 .. 12100, then 12090 .. 10; 81 ticks, then 9990 .. 10", slow, 10000, 7547550, 5805000},
		{"Delay 0: 13, then 3; 10 in 3 ticks", impl.Brakes{Soft: 10, Hard: 10, Acc: 3, Warn: 2}, 10, 16, 30},
		{"Acc 0: 15 in 3 ticks, then 5; the same", impl.Brakes{Soft: 10, Hard: 10, Delay: 2}, 15, 50, 50},
		{"Hard and Soft told apart: 45, then 5; 45, then 30, 15", impl.Brakes{Soft: 15, Hard: 40}, 45, 50, 90},
	} {
		if w := impl.Worst(c.b, c.v); w != c.worst {
			t.Errorf("%s: worst %d, not %d", c.name, w, c.worst)
		}
		if g := impl.Gentle(c.b, c.v); g != c.gentle {
			t.Errorf("%s: gentle %d, not %d", c.name, g, c.gentle)
		}
	}
}

func TestP1NoSpeed(t *testing.T) {
	for _, v := range []int{-1, impl.MaxSpeed + 1, math.MinInt, math.MaxInt} {
		if w, g := impl.Worst(plainBrakes(), v), impl.Gentle(plainBrakes(), v); w != -1 || g != -1 {
			t.Errorf("%d: %d %d", v, w, g)
		}
	}
}

// manyBrakes takes each field at its least, its most and between.
func manyBrakes() []impl.Brakes {
	var all []impl.Brakes
	for _, soft := range []int{10, 77, 1000} {
		for _, more := range []int{0, 1, 500, 990} {
			for _, delay := range []int{0, 1, 20} {
				for _, acc := range []int{0, 7, 100} {
					for _, warn := range []int{0, 3, 60} {
						all = append(all, impl.Brakes{Soft: soft, Hard: min(soft+more, 1000), Delay: delay, Acc: acc, Warn: warn})
					}
				}
			}
		}
	}
	return all
}

// goneBraking goes tick by tick, as the document tells it.
func goneBraking(v, by int) int {
	gone := 0
	for v > 0 {
		v = max(0, v-by)
		gone += v
	}
	return gone
}

func goneWorst(b impl.Brakes, v int) int {
	gone := 0
	for range b.Delay + 1 {
		v += b.Acc
		gone += v
	}
	return gone + goneBraking(v, b.Hard)
}

func goneGentle(b impl.Brakes, v int) int {
	gone := 0
	for range b.Delay + b.Warn + 1 {
		gone += v
	}
	return gone + goneBraking(v, b.Soft)
}

func TestP1CurvesTickByTick(t *testing.T) {
	for _, b := range manyBrakes() {
		for _, v := range []int{0, 1, 9, 10, 11, 76, 77, 78, 153, 154, 999, 1000, 1001, 4321, 9999, 10000} {
			if w := impl.Worst(b, v); w != goneWorst(b, v) {
				t.Errorf("%+v: worst of %d: %d, not %d", b, v, w, goneWorst(b, v))
			}
			if g := impl.Gentle(b, v); g != goneGentle(b, v) {
				t.Errorf("%+v: gentle of %d: %d, not %d", b, v, g, goneGentle(b, v))
			}
		}
	}
}

func TestP1MoreSpeedNoLessRoom(t *testing.T) {
	for _, b := range manyBrakes() {
		for v := range impl.MaxSpeed {
			if impl.Worst(b, v+1) < impl.Worst(b, v) || impl.Gentle(b, v+1) < impl.Gentle(b, v) {
				t.Fatalf("%+v: %d needs less than %d", b, v+1, v)
			}
		}
	}
}

func someBrakes() []impl.Brakes {
	return []impl.Brakes{
		plainBrakes(),
		{Soft: 10, Hard: 10},
		{Soft: 10, Hard: 10, Delay: 20, Acc: 100},
		{Soft: 10, Hard: 1000, Delay: 20, Acc: 100, Warn: 60},
		{Soft: 1000, Hard: 1000, Delay: 20, Acc: 100, Warn: 1},
		{Soft: 1000, Hard: 1000, Acc: 1, Warn: 60},
	}
}

// Each speed needs more room than the one below it: its own room permits it, and one less does not.
func TestP1MostHardBySpeed(t *testing.T) {
	for _, b := range someBrakes() {
		for v := range impl.MaxSpeed + 1 {
			room := goneWorst(b, v)
			if m := impl.MostHard(b, room); m != v {
				t.Fatalf("%+v: room %d: %d, not %d", b, room, m, v)
			}
			if m := impl.MostHard(b, room-1); m != v-1 {
				t.Fatalf("%+v: room %d: %d, not %d", b, room-1, m, v-1)
			}
		}
	}
}

func TestP1PermittedBySpeed(t *testing.T) {
	for _, b := range someBrakes() {
		for v := range impl.MaxSpeed + 1 {
			room := max(goneWorst(b, v), goneGentle(b, v))
			for _, c := range []struct{ room, limit, want int }{
				{room, impl.MaxSpeed, v},
				{room, v, v},
				{room, min(v+1, impl.MaxSpeed), v},
				{room, max(v-1, 0), max(v-1, 0)},
				{room, 0, 0},
				{max(room-1, 0), impl.MaxSpeed, max(v-1, 0)},
				{max(room-1, 0), v, max(v-1, 0)},
			} {
				if p := impl.Permitted(b, c.room, c.limit); p != c.want {
					t.Fatalf("%+v: room %d, limit %d: %d, not %d", b, c.room, c.limit, p, c.want)
				}
			}
		}
	}
}

func TestP1SpeedsByHand(t *testing.T) {
	// Of a train that stands the worst is 24300.
	quick := impl.Brakes{Soft: 1000, Hard: 1000, Delay: 20, Acc: 100, Warn: 60}
	// The worst of 0 is 3, of 1 is 4; the gentle of 1 is 61.
	warned := impl.Brakes{Soft: 10, Hard: 10, Acc: 3, Warn: 60}
	// The worst of 0 is 3, of 1 is 4; the gentle of 1 is 1.
	eager := impl.Brakes{Soft: 10, Hard: 10, Acc: 3}
	still := impl.Brakes{Soft: 10, Hard: 10}
	for _, c := range []struct {
		name                       string
		b                          impl.Brakes
		room, limit, hard, allowed int
	}{
		{"room 0, Acc 0", still, 0, 99, 0, 0},
		{"room 0, Acc 3", eager, 0, 99, -1, 0},
		{"room 1, Acc 0", still, 1, 99, 1, 1},
		{"room 45 met", still, 45, 99, 25, 25},
		{"room 44: 24, 14, 4 are 42", still, 44, 99, 24, 24},
		{"one less than 0 needs", quick, 24299, 10000, -1, 0},
		{"what 0 needs", quick, 24300, 10000, 0, 0},
		{"the worst holds it", eager, 4, 99, 1, 1},
		{"the gentle holds it; hard 30, 20, 10", warned, 61, 99, 27, 1},
		{"the gentle holds it, one less", warned, 60, 99, 27, 0},
		{"the limit holds it", warned, 100000000, 7, 10000, 7},
		{"MaxRoom, MaxSpeed", warned, impl.MaxRoom, impl.MaxSpeed, 10000, 10000},
		{"limit 0", still, 45, 0, 25, 0},
	} {
		if m := impl.MostHard(c.b, c.room); m != c.hard {
			t.Errorf("%s: most hard %d, not %d", c.name, m, c.hard)
		}
		if p := impl.Permitted(c.b, c.room, c.limit); p != c.allowed {
			t.Errorf("%s: permitted %d, not %d", c.name, p, c.allowed)
		}
	}
}

func TestP1NoPlaceNoLimit(t *testing.T) {
	for _, b := range someBrakes() {
		for _, room := range []int{-1, impl.MaxRoom + 1, math.MinInt, math.MaxInt} {
			if m, p := impl.MostHard(b, room), impl.Permitted(b, room, 20); m != -1 || p != -1 {
				t.Errorf("room %d: %d %d", room, m, p)
			}
		}
		for _, limit := range []int{-1, impl.MaxSpeed + 1, math.MinInt, math.MaxInt} {
			if p := impl.Permitted(b, 5000, limit); p != -1 {
				t.Errorf("limit %d: %d", limit, p)
			}
		}
		if m, p := impl.MostHard(b, impl.MaxRoom), impl.Permitted(b, impl.MaxRoom, impl.MaxSpeed); m != impl.MaxSpeed || p != impl.MaxSpeed {
			t.Errorf("MaxRoom: %d %d", m, p)
		}
	}
}
