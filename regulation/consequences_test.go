package regulation_test

import (
	"math/rand"
	"slices"
	"testing"

	"agraffe/api"
	"agraffe/regulation"
)

func TestP5_11_OrderOfPassesAndSteps(t *testing.T) {
	r := rand.New(rand.NewSource(511))
	compared := 0
	for range 3000 {
		b := randomBench(r)
		p := randomPlan(r, b)
		sums, _, e := regulation.Sums(b, p)
		if e != api.OK {
			continue
		}
		// Where nothing has to come behind something else, the order of steps is free.
		for i := range b.Adjustments {
			b.Adjustments[i].After = nil
		}
		for _, pass := range p {
			slices.Reverse(pass)
		}
		again, _, e := regulation.Sums(b, p)
		wanted(t, "Sums of steps turned around", again, e, sums, api.OK)
		slices.Reverse(p)
		if again, _, e := regulation.Sums(b, p); e == api.OK {
			compared++
			wanted(t, "Sums of passes turned around", again, e, sums, api.OK)
		}
	}
	if compared < 500 {
		t.Errorf("%d plans were compared", compared)
	}
}

// TestP5_11_PlansAreTheirSums checks that a plan is accepted where nothing is broken behind its sums.
func TestP5_11_PlansAreTheirSums(t *testing.T) {
	r := rand.New(rand.NewSource(517))
	for range 3000 {
		b := randomBench(r)
		p := randomPlan(r, b)
		sums, _, e := regulation.Sums(b, p)
		if e != api.OK {
			continue
		}
		want, wantError := 0, api.OK
		if broken := brokenBy(b, sums); len(broken) > 0 {
			want, wantError = broken[0], api.ErrBreak
		}
		at, e := regulation.CheckPlan(b, p)
		wanted(t, "CheckPlan", at, e, want, wantError)
	}
}

func TestP5_11_PlansOfSteps(t *testing.T) {
	r := rand.New(rand.NewSource(512))
	for range 3000 {
		b := randomBench(r)
		steps := randomSteps(r, b)
		p, e := regulation.PlanOf(b, steps)
		passes, f := regulation.Passes(b, steps)
		if len(p) != passes || e != api.OK || f != api.OK {
			t.Errorf("PlanOf has %d passes, %v, Passes is %d, %v", len(p), e, passes, f)
		}
		sums, at, e := regulation.Sums(b, p)
		wanted(t, "Sums of PlanOf", sums, e, steps, api.OK)
		wanted(t, "the pass", at, e, 0, api.OK)
		// Of plans that come to their sums by other ways none has fewer passes.
		other := randomPlan(r, b)
		if sums, _, e := regulation.Sums(b, other); e == api.OK {
			if passes, e := regulation.Passes(b, sums); passes > len(other) || e != api.OK {
				t.Errorf("Passes of the sums of %v is %d, %v", other, passes, e)
			}
		}
	}
}

func TestP5_11_NoPlanHasFewerPasses(t *testing.T) {
	r := rand.New(rand.NewSource(513))
	accepted := 0
	for range 3000 {
		b := randomBench(r)
		steps, passes, e := regulation.Fewest(b)
		if e == api.OK {
			p, f := regulation.PlanOf(b, steps)
			at, g := regulation.CheckPlan(b, p)
			if len(p) != passes || at != 0 || f != api.OK || g != api.OK {
				t.Errorf("the plan of Fewest has %d passes, not %d: %v, %v, %v", len(p), passes, at, f, g)
			}
		}
		other := randomPlan(r, b)
		if _, f := regulation.CheckPlan(b, other); f == api.OK {
			accepted++
			if e != api.OK || passes > len(other) {
				t.Errorf("%v is accepted, Fewest: %v, %d, %v", other, steps, passes, e)
			}
		}
	}
	if accepted < 300 {
		t.Errorf("%d plans were accepted", accepted)
	}
}

func TestP5_12_Refusals(t *testing.T) {
	r := rand.New(rand.NewSource(514))
	refused, out := 0, 0
	for range 3000 {
		b := randomBench(r)
		steps := randomSteps(r, b)
		values, _ := regulation.Values(b, steps)
		for i, value := range values {
			if reach, e := regulation.Reach(b, i); value < reach[0] || value > reach[1] || e != api.OK {
				t.Errorf("the value %d is not in %v, %v", value, reach, e)
			}
		}
		l, _ := regulation.OutOfReach(b)
		for _, i := range l {
			out++
			weights := make([]int, len(b.Measures))
			for _, weights[i] = range []int{1, -1, 100, -100} {
				if e := regulation.CheckRefusal(b, weights); e != api.OK {
					t.Errorf("CheckRefusal of a measure out of reach: %v", e)
				}
			}
		}
		weights, e := regulation.Refusal(b)
		if e != api.OK {
			continue
		}
		refused++
		if e := regulation.CheckRefusal(b, weights); e != api.OK {
			t.Errorf("CheckRefusal of Refusal: %v", e)
		}
		best, _, e := regulation.Fewest(b)
		wanted(t, "Fewest of what is refused", best, e, nil, api.ErrNone)
		p, _ := regulation.PlanOf(b, steps)
		if _, e := regulation.CheckPlan(b, p); e != api.ErrBreak {
			t.Errorf("CheckPlan of what is refused: %v", e)
		}
	}
	if refused < 500 || out < 500 {
		t.Errorf("%d benches were refused, %d measures out of reach", refused, out)
	}
}

func TestP5_13_ApplyTwice(t *testing.T) {
	r := rand.New(rand.NewSource(515))
	for range 3000 {
		b := randomBench(r)
		first, both := randomSteps(r, b), randomSteps(r, b)
		second := slices.Clone(both)
		for i := range second {
			second[i] -= first[i]
		}
		behind, e := regulation.Apply(b, first)
		twice, f := regulation.Apply(behind, second)
		once, g := regulation.Apply(b, both)
		if text(twice) != text(once) || e != api.OK || f != api.OK || g != api.OK {
			t.Errorf("Apply twice: %v, %v, %v, once: %v, %v", twice, e, f, once, g)
		}
		back, e := regulation.Apply(behind, negative(first))
		wanted(t, "Apply there and back", back, e, b, api.OK)
		// Behind steps all is as it was with these steps.
		values, e := regulation.Values(behind, second)
		want, _ := regulation.Values(b, both)
		wanted(t, "Values behind Apply", values, e, want, api.OK)
	}
}

func negative(steps []int) []int {
	var l []int
	for _, n := range steps {
		l = append(l, -n)
	}
	return l
}

// TestP5_13_SweepsOfSingleMeasures gives each adjustment a measure of its own.
func TestP5_13_SweepsOfSingleMeasures(t *testing.T) {
	r := rand.New(rand.NewSource(516))
	for range 500 {
		var b api.Bench
		for _, name := range letters(3) {
			low := among(r, -20, 20)
			b.Measures = append(b.Measures, measure(name, among(r, -20, 20), low, low+r.Intn(9)))
			by := []int{-7, -3, -2, -1, 1, 2, 3, 7}[r.Intn(8)]
			b.Adjustments = append(b.Adjustments, adjust(name, -500, 500, 200, on(name, by)))
		}
		start := []int{among(r, -99, 99), among(r, -99, 99), among(r, -99, 99)}
		steps, e := regulation.Sweep(b, start)
		if e != api.OK {
			t.Fatalf("Sweep: %v", e)
		}
		for i, m := range b.Measures {
			far := func(steps int) int {
				return sizeOf(2*(m.Value+b.Adjustments[i].Effects[0].By*steps) - m.Low - m.High)
			}
			for n := -500; n <= 500; n++ {
				if far(n) < far(steps[i]) {
					t.Errorf("%v: %d steps are nearer than %d", b, n, steps[i])
				}
			}
		}
		again, e := regulation.Sweep(b, steps)
		wanted(t, "a second sweep", again, e, steps, api.OK)
	}
}
