package tests

import (
	"slices"
	"sync"
	"testing"

	"loop.example/deadman/impl"
)

// someOuting has more acts behind those that it is given, to tell whether they stay as they are.
func someOuting(seed int) (given, spare []impl.Act) {
	d := dice(seed)
	w := reckon(guardBrakes(), impl.MaxSpeed).world(10, 0)
	all, _ := w.outing(&d, 120)
	return all[:100], all
}

func TestP9NothingIsWritten(t *testing.T) {
	given, spare := someOuting(90)
	before := slices.Clone(spare)
	wrong := slices.Clone(given)
	wrong[60].Fast = -1
	wrongBefore := slices.Clone(wrong)
	impl.Drive(guardBrakes(), 10, 0, given)
	impl.Answer(guardBrakes(), 10, 0, given)
	impl.Drive(guardBrakes(), 10, 0, wrong)
	impl.Answer(guardBrakes(), 10, 0, wrong)
	if !slices.Equal(spare, before) || !slices.Equal(wrong, wrongBefore) {
		t.Error("written into the acts")
	}
	d := dice(91)
	felt := journey(&d, 120)
	feltBefore := slices.Clone(felt)
	impl.Run(guardBrakes(), felt[:100])
	if !slices.Equal(felt, feltBefore) {
		t.Error("written into what is felt")
	}
}

func TestP9AnswersShareNothing(t *testing.T) {
	given, _ := someOuting(92)
	kept := slices.Clone(given)
	first := impl.Drive(guardBrakes(), 10, 0, given)
	firstKept := slices.Clone(first)
	text := impl.Answer(guardBrakes(), 10, 0, given)
	clear(given)
	if !slices.Equal(first, firstKept) {
		t.Error("the answer hangs on its argument")
	}
	second := impl.Drive(guardBrakes(), 10, 0, kept)
	clear(second)
	second = append(second[:0], impl.True{At: 1})
	if !slices.Equal(first, firstKept) {
		t.Error("two answers share their memory")
	}
	if third := impl.Drive(guardBrakes(), 10, 0, kept); !slices.Equal(third, firstKept) || second[0].At != 1 {
		t.Error("another answer at the same argument")
	}
	if impl.Answer(guardBrakes(), 10, 0, kept) != text {
		t.Error("another text at the same argument")
	}
}

// What one call does is not seen in the next, nor in one that runs beside it.
func TestP9SameArgumentSameAnswer(t *testing.T) {
	var asked [8][]impl.Act
	var drives [8][]impl.True
	var texts [8]string
	for i := range asked {
		asked[i], _ = someOuting(93 + i)
		drives[i] = impl.Drive(guardBrakes(), 10, 0, asked[i])
		texts[i] = impl.Answer(guardBrakes(), 10, 0, asked[i])
		if len(drives[i]) != 100 || texts[i] == "" {
			t.Fatal(drives[i], texts[i])
		}
	}
	var all sync.WaitGroup
	for n := range 64 {
		all.Go(func() {
			i := n % len(asked)
			if !slices.Equal(impl.Drive(guardBrakes(), 10, 0, asked[i]), drives[i]) {
				t.Errorf("outing %d: another drive", i)
			}
			if impl.Answer(guardBrakes(), 10, 0, asked[i]) != texts[i] {
				t.Errorf("outing %d: another text", i)
			}
		})
	}
	all.Wait()
}

func TestP9SameNumbersSameAnswer(t *testing.T) {
	for _, b := range someBrakes() {
		for _, n := range []int{0, 50, 4321, impl.MaxSpeed} {
			g := impl.Guard{State: impl.GHard, End: n}
			f := impl.Felt{High: n, Speed: 0, End: n + 30000, Limit: n, Ack: true}
			worst, gentle := impl.Worst(b, n), impl.Gentle(b, n)
			most, permitted, s := impl.MostHard(b, n), impl.Permitted(b, n, n), impl.Tick(b, g, f)
			impl.Drive(b, n, 0, []impl.Act{letGo(b.Acc), cutOff(b.Acc)})
			if impl.Worst(b, n) != worst || impl.Gentle(b, n) != gentle || impl.MostHard(b, n) != most || impl.Permitted(b, n, n) != permitted || impl.Tick(b, g, f) != s {
				t.Errorf("%+v, %d", b, n)
			}
		}
	}
}
