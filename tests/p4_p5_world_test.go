package tests

import (
	"slices"
	"testing"

	"loop.example/deadman/impl"
)

// bounds says for each tick the end to which the train could last be kept; at first, where it stands.
func bounds(r reckoned, at int, acts []impl.Act, all []impl.True) []int {
	var ends []int
	last, speed := at, 0
	for i, a := range acts {
		f := impl.Felt{High: at + a.Off, Speed: speed + a.Fast, End: a.End}
		if r.kept(f) {
			last = a.End
		}
		ends = append(ends, last)
		at, speed = all[i].At, all[i].Speed
	}
	return ends
}

// checkWithin answers how near the train came to its bound after it had been let go of: the least that was left.
func checkWithin(t *testing.T, r reckoned, at int, acts []impl.Act) int {
	t.Helper()
	all := impl.Drive(r.b, at, 0, acts)
	if len(all) != len(acts) {
		t.Fatalf("%+v: %d ticks of %d", r.b, len(all), len(acts))
	}
	least := impl.MaxRoom
	for i, end := range bounds(r, at, acts, all) {
		if all[i].At > end {
			t.Fatalf("%+v from %d, tick %d: at %d, beyond %d: %+v", r.b, at, i, all[i].At, end, acts[:i+1])
		}
		if all[i].At > at {
			least = min(least, end-all[i].At)
		}
	}
	return least
}

// worstDrive becomes faster for some ticks, is then given a leash that just keeps the train, and becomes faster still.
func worstDrive(b impl.Brakes, at, ticks int, then impl.Act) ([]impl.Act, int) {
	acts := slices.Repeat([]impl.Act{letGo(b.Acc)}, ticks)
	all := impl.Drive(b, at, 0, acts)
	x := all[len(all)-1]
	then.Want, then.Limit = b.Acc, impl.MaxSpeed
	then.End = x.At + then.Off + goneWorst(b, x.Speed+then.Fast)
	return append(acts, slices.Repeat([]impl.Act{then}, 400)...), then.End
}

// A hard brake that does just what it must brings the train to its end, and no farther.
func TestP4JustToTheEnd(t *testing.T) {
	for _, b := range outingBrakes() {
		r := reckon(b, impl.MaxSpeed)
		for _, ticks := range []int{1, 2, 3, 10, 20} {
			acts, end := worstDrive(b, 77, ticks, impl.Act{})
			if left := checkWithin(t, r, 77, acts); left != 0 {
				t.Errorf("%+v, %d ticks: %d left", b, ticks, left)
			}
			all := impl.Drive(b, 77, 0, acts)
			if x := all[len(all)-1]; x.At != end || x.Speed != 0 {
				t.Errorf("%+v, %d ticks: %+v, not at %d", b, ticks, x, end)
			}
		}
	}
}

func TestP4LeashTakenAwayFromTheWorst(t *testing.T) {
	for _, b := range outingBrakes() {
		r := reckon(b, impl.MaxSpeed)
		for _, ticks := range []int{1, 2, 3, 10, 20} {
			for _, later := range []int{-1, 0, 77, impl.MaxRoom} {
				acts, end := worstDrive(b, 77, ticks, impl.Act{})
				for i := ticks + 1; i < len(acts); i++ {
					acts[i].End = -1
					if i > ticks+b.Delay+1 {
						acts[i].End = later
					}
				}
				all := impl.Drive(b, 77, 0, acts)
				for i, x := range all {
					if i >= ticks && x.At > end {
						t.Fatalf("%+v, %d ticks, then %d: %+v, beyond %d", b, ticks, later, x, end)
					}
				}
				checkWithin(t, r, 77, acts)
			}
		}
	}
}

func TestP4NotKnownJust(t *testing.T) {
	for _, b := range outingBrakes() {
		r := reckon(b, impl.MaxSpeed)
		for _, ticks := range []int{1, 2, 3, 10, 20} {
			for _, then := range []impl.Act{{Off: 1}, {Off: 1000}, {Fast: 1}, {Fast: 100}, {Off: 1000, Fast: 100}, {More: 1}, {More: 1000}, {Off: 3, Fast: 2, More: 1}} {
				acts, _ := worstDrive(b, 5, ticks, then)
				checkWithin(t, r, 5, acts)
			}
		}
	}
}

// Nobody moves who has not been let go of, and an end behind it or none is no end to go to.
func TestP4StandsWhereItStands(t *testing.T) {
	for _, b := range someBrakes() {
		need := goneWorst(b, 0)
		for _, at := range []int{0, 1, 5000, 1000000} {
			for _, a := range []impl.Act{
				{End: -1, Ack: true},
				{End: 0, Ack: at > 0 || need > 0},
				{End: max(0, at+need-1), Ack: at+need > 0},
				{End: impl.MaxRoom, Ack: false},
				{End: impl.MaxRoom, Fast: 1, Ack: true},
				{Off: 1000, End: at + need + 999, Ack: true},
			} {
				a.Want, a.Limit = b.Acc, impl.MaxSpeed
				acts := slices.Repeat([]impl.Act{a}, 50)
				all := impl.Drive(b, at, 0, acts)
				if len(all) != 50 {
					t.Fatal(len(all))
				}
				for i, x := range all {
					if x.At != at || x.Speed != 0 || x.Said.Guard.State != impl.GHard {
						t.Fatalf("%+v %+v, tick %d: %+v", b, a, i, x)
					}
				}
			}
		}
	}
}

// worstAct always wants to become faster, and gives a leash that is hard to keep to.
func (w *world) worstAct(d *dice, more int) impl.Act {
	a := impl.Act{Want: w.b.Acc, Limit: impl.MaxSpeed, Ack: true}
	if d.below(5) == 0 {
		a.Off, a.Fast = d.below(40), d.below(10)
	}
	if more > 0 {
		a.More = d.below(more)
	}
	a.End = w.leash(d, a.Off, a.Fast)
	return a
}

func TestP4WorstDrivers(t *testing.T) {
	d := dice(40)
	touched, moved := 0, 0
	for _, b := range outingBrakes() {
		r := reckon(b, impl.MaxSpeed)
		for n := range 60 {
			w := r.world(123, 0)
			var acts []impl.Act
			for range 150 {
				a := w.worstAct(&d, n%3*20)
				acts = append(acts, a)
				w.step(a)
			}
			if w.at > 123 {
				moved++
			}
			if checkWithin(t, r, 123, acts) == 0 {
				touched++
			}
		}
	}
	if touched < 20 || moved < 300 {
		t.Errorf("%d came just to an end, %d moved", touched, moved)
	}
}

func TestP4AnyDrivers(t *testing.T) {
	d := dice(41)
	for _, b := range outingBrakes() {
		r := reckon(b, impl.MaxSpeed)
		for range 60 {
			at := d.below(2000)
			w := r.world(at, 0)
			acts, _ := w.outing(&d, 200)
			checkWithin(t, r, at, acts)
		}
	}
}

// kinds counts what the ticks of some drives were.
type kinds struct{ early, braked, faster int }

func (k *kinds) check(t *testing.T, b impl.Brakes, speed int, acts []impl.Act, all []impl.True) {
	t.Helper()
	if len(all) != len(acts) {
		t.Fatalf("%+v: %d ticks of %d", b, len(all), len(acts))
	}
	hard := b.Delay
	for i, x := range all {
		if x.Speed < 0 || x.Speed > 9900 || x.Speed > speed+b.Acc {
			t.Fatalf("%+v, tick %d: %d after %d", b, i, x.Speed, speed)
		}
		if x.Speed == speed+b.Acc && b.Acc > 0 {
			k.faster++
		}
		if x.Said.Guard.State != impl.GHard {
			hard = 0
		} else if hard < b.Delay {
			hard++
			if x.Speed != min(max(0, speed+acts[i].Want), 9900) {
				t.Fatalf("%+v, tick %d: %d after %d, %d ticks into GHard", b, i, x.Speed, speed, hard)
			}
			k.early++
		} else {
			if x.Speed > max(0, speed-b.Hard) || x.Speed > max(0, speed-b.Hard-acts[i].More) {
				t.Fatalf("%+v, tick %d: braked from %d to %d", b, i, speed, x.Speed)
			}
			if speed > 0 {
				k.braked++
			}
		}
		speed = x.Speed
	}
}

func TestP5Outings(t *testing.T) {
	d := dice(50)
	for _, b := range outingBrakes() {
		r := reckon(b, impl.MaxSpeed)
		var k kinds
		for n := range 40 {
			at, speed := d.below(1000), n%2*d.below(300)
			w := r.world(at, speed)
			acts, _ := w.outing(&d, 200)
			k.check(t, b, speed, acts, impl.Drive(b, at, speed, acts))
		}
		if k.faster == 0 || k.braked == 0 || (k.early == 0) != (b.Delay == 0) {
			t.Errorf("%+v: %+v", b, k)
		}
	}
}

// Each delay: GHard comes to a train of 100 that goes on, and each of its ticks has the speed that it must.
func TestP5EachDelay(t *testing.T) {
	for delay := range 21 {
		for _, more := range []int{0, 1, 33, 1000} {
			b := swiftBrakes(delay)
			cut := cutOff(2)
			cut.More = more
			acts := append([]impl.Act{letGo(100)}, slices.Repeat([]impl.Act{cut}, delay+10)...)
			all := impl.Drive(b, 0, 0, acts)
			if len(all) != len(acts) {
				t.Fatal(len(all))
			}
			for i, x := range all {
				want := 100 + 2*i
				if i > delay {
					want = max(0, 100+2*delay-(i-delay)*(20+more))
				}
				if x.Speed != want {
					t.Errorf("Delay %d, More %d, tick %d: %d, not %d", delay, more, i, x.Speed, want)
				}
			}
		}
	}
}

func TestP5AtFirstBrakedAtOnce(t *testing.T) {
	for _, b := range append(outingBrakes(), someBrakes()...) {
		for _, speed := range []int{0, 1, 9, 10, 11, 999, 1000, 1001, 9900} {
			acts := slices.Repeat([]impl.Act{cutOff(b.Acc)}, impl.MaxTicks)
			for i, x := range impl.Drive(b, 0, speed, acts) {
				if want := max(0, speed-(i+1)*b.Hard); x.Speed != want {
					t.Fatalf("%+v from %d, tick %d: %d, not %d", b, speed, i, x.Speed, want)
				}
			}
		}
	}
}
