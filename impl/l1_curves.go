package impl

const (
	MaxSpeed = 10000
	MaxRoom  = 100000000
)

const (
	leastBrake = 10
	mostBrake  = 1000
	mostDelay  = 20
	mostAcc    = 100
	mostWarn   = 60
)

// Brakes is what a train can do: how much it brakes in a tick when the driver does, how much at least when it must, after how many ticks that begins, by how much it can become faster in a tick, and for how many ticks a driver wants to be warned ahead.
type Brakes struct {
	Soft  int
	Hard  int
	Delay int
	Acc   int
	Warn  int
}

func BrakesOk(b Brakes) bool {
	return within(b.Soft, leastBrake, mostBrake) &&
		within(b.Hard, b.Soft, mostBrake) &&
		within(b.Delay, 0, mostDelay) &&
		within(b.Acc, 0, mostAcc) &&
		within(b.Warn, 0, mostWarn)
}

func Worst(b Brakes, v int) int {
	if !BrakesOk(b) || !isSpeed(v) {
		return -1
	}
	return worstCurve(b).length(v)
}

func Gentle(b Brakes, v int) int {
	if !BrakesOk(b) || !isSpeed(v) {
		return -1
	}
	return gentleCurve(b).length(v)
}

func MostHard(b Brakes, room int) int {
	if !BrakesOk(b) || !isPlace(room) {
		return -1
	}
	return greatest(MaxSpeed, spanOf(b, room).endsHard)
}

func Permitted(b Brakes, room, limit int) int {
	if !BrakesOk(b) || !isPlace(room) || !isSpeed(limit) {
		return -1
	}
	return max(0, greatest(limit, spanOf(b, room).endsBoth))
}

func within(n, least, most int) bool { return least <= n && n <= most }

func isSpeed(v int) bool { return within(v, 0, MaxSpeed) }

func isPlace(at int) bool { return within(at, 0, MaxRoom) }

// curve is how a train comes to stand: some ticks without a brake, in each of which it gains speed, then the brake.
type curve struct {
	ticks int
	gain  int
	brake int
}

// The tick more is the one in which nobody has noticed yet.
func worstCurve(b Brakes) curve {
	return curve{ticks: b.Delay + 1, gain: b.Acc, brake: b.Hard}
}

func gentleCurve(b Brakes) curve {
	return curve{ticks: b.Delay + b.Warn + 1, brake: b.Soft}
}

func (c curve) length(v int) int {
	return c.unbraked(v) + c.braked(v+c.ticks*c.gain)
}

// The gain comes ahead of the move, so the first tick counts it once already.
func (c curve) unbraked(v int) int {
	return c.ticks*v + c.gain*c.ticks*(c.ticks+1)/2
}

// Only whole brakes count: a rest below one is gone ahead of the move of its tick.
func (c curve) braked(v int) int {
	n := v / c.brake
	return n*v - c.brake*n*(n+1)/2
}

// span holds a room against the curves that have to end within it.
type span struct {
	worst  curve
	gentle curve
	room   int
}

func spanOf(b Brakes, room int) span {
	return span{worst: worstCurve(b), gentle: gentleCurve(b), room: room}
}

func (s span) endsHard(v int) bool { return s.worst.length(v) <= s.room }

func (s span) endsBoth(v int) bool { return s.endsHard(v) && s.gentle.length(v) <= s.room }

// greatest may halve since more speed never needs less room: what holds at a speed holds at all below it. It is -1 when it holds nowhere.
func greatest(most int, holds func(v int) bool) int {
	low, high := -1, most
	for low < high {
		middle := high - (high-low)/2
		if holds(middle) {
			low = middle
		} else {
			high = middle - 1
		}
	}
	return low
}
