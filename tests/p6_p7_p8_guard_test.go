package tests

import (
	"testing"

	"loop.example/deadman/impl"
)

// Who keeps to what is permitted, by one and by far, at a room that is just enough and one more.
func TestP6KeepsToItFromEveryState(t *testing.T) {
	for _, b := range someBrakes() {
		for _, v := range []int{0, 1, 9, 10, 11, 500, 4321, 9999, 10000} {
			for _, room := range []int{max(goneWorst(b, v), goneGentle(b, v)), max(goneWorst(b, v), goneGentle(b, v)) + 1} {
				for _, speed := range []int{v, max(v-1, 0), v / 2, 0} {
					for state := impl.GFree; state < impl.GHard; state++ {
						f := impl.Felt{High: 123, Speed: speed, End: 123 + room, Limit: v}
						g := impl.Guard{State: state, End: f.End}
						if s := impl.Tick(b, g, f); s != said(impl.GFree, f.End, v) {
							t.Fatalf("%+v %+v %+v: %+v", b, g, f, s)
						}
					}
				}
			}
		}
	}
}

func TestP6NarrowTicks(t *testing.T) {
	free := 0
	for _, r := range narrowTrains() {
		for f := range narrowFelts {
			if !r.kept(f) || f.Speed > impl.Permitted(r.b, f.End-f.High, f.Limit) {
				continue
			}
			for state := impl.GFree; state < impl.GHard; state++ {
				if s := impl.Tick(r.b, impl.Guard{State: state, End: 20}, f); !s.Ok || s.Guard.State != impl.GFree {
					t.Fatalf("%+v, state %d, %+v: %+v", r.b, state, f, s)
				}
				free++
			}
		}
	}
	if free == 0 {
		t.Error("no tick was free")
	}
}

func TestP7EachOfTheThree(t *testing.T) {
	// 9 keeps who stands, 11 who has a speed of 1.
	for _, c := range []struct {
		name  string
		speed int
		room  int
		ack   bool
		state int
		said  int
	}{
		{"all three", 0, 9, true, impl.GFree, 0},
		{"all three, much room", 0, 220, true, impl.GFree, 40},
		{"does not stand", 1, 220, true, impl.GHard, 0},
		{"nobody says so", 0, 220, false, impl.GHard, 0},
		{"can't be kept", 0, 8, true, impl.GHard, 0},
		{"stands alone", 0, 8, false, impl.GHard, 0},
		{"says so alone", 1, 10, true, impl.GHard, 0},
		{"can be kept alone", 1, 220, false, impl.GHard, 0},
		{"none of them", 1, 10, false, impl.GHard, 0},
	} {
		f := impl.Felt{High: 1000, Speed: c.speed, End: 1000 + c.room, Limit: 99, Ack: c.ack}
		if s := impl.Tick(guardBrakes(), impl.Guard{State: impl.GHard, End: f.End}, f); s != said(c.state, f.End, c.said) {
			t.Errorf("%s: %+v", c.name, s)
		}
	}
}

func TestP7NarrowTicks(t *testing.T) {
	left := 0
	for _, r := range narrowTrains() {
		for f := range narrowFelts {
			s := impl.Tick(r.b, impl.Guard{State: impl.GHard, End: 20}, f)
			leaves := s.Guard.State != impl.GHard
			if !s.Ok || leaves != (f.Speed == 0 && f.Ack && r.kept(f)) {
				t.Fatalf("%+v %+v: %+v", r.b, f, s)
			}
			if !leaves && s.Speed != 0 {
				t.Fatalf("%+v %+v: a hard brake says %d", r.b, f, s.Speed)
			}
			if leaves {
				left++
			}
		}
	}
	if left == 0 {
		t.Error("GHard was never left")
	}
}

func TestP7WholeRuns(t *testing.T) {
	d := dice(7)
	left := 0
	for _, b := range someBrakes() {
		r := reckon(b, 50)
		for range 20 {
			ticks := journey(&d, 100)
			was := impl.GHard
			for i, s := range impl.Run(b, ticks) {
				f := ticks[i]
				if was == impl.GHard && s.Guard.State != impl.GHard {
					left++
					if f.Speed != 0 || !f.Ack || !r.kept(f) {
						t.Fatalf("%+v: GHard left at %+v", b, f)
					}
				}
				was = s.Guard.State
			}
		}
	}
	if left == 0 {
		t.Error("GHard was never left")
	}
}

// gentler is a tick that asks less of a train, by so much; it may be the same at a bound.
func gentler(f impl.Felt, leash, slower, nearer int) impl.Felt {
	f.End = min(f.End+leash, impl.MaxRoom)
	f.Speed = max(f.Speed-slower, 0)
	f.High = max(f.High-nearer, 0)
	return f
}

func TestP8NarrowTicks(t *testing.T) {
	held := 0
	for _, r := range narrowTrains() {
		for f := range narrowFelts {
			for state := impl.GFree; state <= impl.GHard; state++ {
				g := impl.Guard{State: state, End: 20}
				if impl.Tick(r.b, g, f).Guard.State == impl.GHard {
					continue
				}
				held++
				for _, easier := range []impl.Felt{gentler(f, 1, 0, 0), gentler(f, 0, 1, 0), gentler(f, 0, 0, 1), gentler(f, impl.MaxRoom, 0, 0), gentler(f, 3, 2, 1)} {
					if s := impl.Tick(r.b, g, easier); !s.Ok || s.Guard.State == impl.GHard {
						t.Fatalf("%+v %+v: not %+v, but %+v", r.b, g, f, easier)
					}
				}
			}
		}
	}
	if held == 0 {
		t.Error("every tick was braked hard")
	}
}

// At each speed there is a room that just keeps it: from there every easing holds, up to the greatest numbers.
func TestP8AtTheEdge(t *testing.T) {
	for _, b := range someBrakes() {
		for _, v := range []int{0, 1, 10, 99, 1000, 5555, 9999, 10000} {
			for state := impl.GFree; state < impl.GHard; state++ {
				f := impl.Felt{High: 5000, Speed: v, End: 5000 + goneWorst(b, v), Limit: 7}
				g := impl.Guard{State: state, End: f.End}
				for _, easier := range []impl.Felt{f, gentler(f, 1, 0, 0), gentler(f, 0, 1, 0), gentler(f, 0, 0, 1), gentler(f, impl.MaxRoom, 0, 0), gentler(f, 0, impl.MaxSpeed, 0), gentler(f, 0, 0, impl.MaxRoom)} {
					if s := impl.Tick(b, g, easier); !s.Ok || s.Guard.State == impl.GHard {
						t.Errorf("%+v %+v %+v: %+v", b, g, easier, s)
					}
				}
				for _, harder := range []impl.Felt{gentler(f, -1, 0, 0), gentler(f, 0, 0, -1)} {
					if s := impl.Tick(b, g, harder); s.Guard.State != impl.GHard {
						t.Errorf("%+v %+v %+v: %+v", b, g, harder, s)
					}
				}
			}
		}
	}
}

func TestP8WholeRuns(t *testing.T) {
	d := dice(8)
	for _, b := range someBrakes() {
		for range 40 {
			ticks := journey(&d, 100)
			easier := make([]impl.Felt, len(ticks))
			for i, f := range ticks {
				easier[i] = gentler(f, d.below(40), d.below(10), d.below(10))
			}
			before, after := impl.Run(b, ticks), impl.Run(b, easier)
			if len(before) != len(ticks) || len(after) != len(ticks) {
				t.Fatal(len(before), len(after))
			}
			for i := range ticks {
				if before[i].Guard.State != impl.GHard && after[i].Guard.State == impl.GHard {
					t.Fatalf("%+v: tick %d: %+v eased to %+v", b, i, ticks[i], easier[i])
				}
			}
		}
	}
}
