package regulation_test

import (
	"math"
	"math/rand"
	"slices"
	"testing"

	"agraffe/api"
	"agraffe/regulation"
)

func step(adjustment, steps int) api.Step {
	return api.Step{Adjustment: adjustment, Steps: steps}
}

func pass(l ...api.Step) []api.Step { return l }

func plan(l ...[]api.Step) [][]api.Step { return l }

// passFaults are passes of the chapter's bench with the number of the wrong step, and its error.
var passFaults = []struct {
	pass []api.Step
	at   int
	want api.Errno
}{
	{pass(step(-1, 1)), 0, api.ErrMissing}, {pass(step(3, 1)), 0, api.ErrMissing}, {pass(step(2, 1), step(math.MinInt, 1)), 1, api.ErrMissing}, {pass(step(math.MaxInt, 1)), 0, api.ErrMissing},
	{pass(step(0, 1), step(0, 1)), 1, api.ErrExists}, {pass(step(0, 1), step(2, 1), step(0, -1)), 2, api.ErrExists}, {pass(step(0, 1), step(0, 0)), 1, api.ErrExists},
	{pass(step(0, 0)), 0, api.ErrZero}, {pass(step(0, 1), step(1, 0)), 1, api.ErrZero},
	{pass(step(0, 3)), 0, api.ErrRange}, {pass(step(0, -3)), 0, api.ErrRange}, {pass(step(0, 2), step(1, 2)), 1, api.ErrRange}, {pass(step(2, 5)), 0, api.ErrRange}, {pass(step(0, math.MinInt)), 0, api.ErrRange}, {pass(step(0, math.MaxInt)), 0, api.ErrRange}, {pass(step(0, math.MinInt+1)), 0, api.ErrRange},
	{pass(step(1, 1), step(0, 2)), 0, api.ErrOrder}, {pass(step(2, 1), step(1, 1), step(0, 2)), 1, api.ErrOrder}, {pass(step(1, 1), step(2, 1), step(0, 2)), 0, api.ErrOrder},
	// Of a step the errors in their order; of several steps the first one.
	{pass(step(3, 0)), 0, api.ErrMissing}, {pass(step(1, 0), step(0, 1)), 0, api.ErrZero}, {pass(step(1, 2), step(0, 1)), 0, api.ErrRange}, {pass(step(0, 0), step(3, 1)), 0, api.ErrZero}, {pass(step(2, 5), step(2, 0)), 0, api.ErrRange},
	// The later step may be wrong itself.
	{pass(step(1, 1), step(0, 0)), 0, api.ErrOrder}, {pass(step(1, 1), step(0, 99)), 0, api.ErrOrder}, {pass(step(1, 1), step(9, 1), step(0, 1)), 0, api.ErrOrder}, {pass(step(1, 1), step(9, 1), step(-9, 1)), 1, api.ErrMissing},
}

// rightPasses are passes of the chapter's bench.
var rightPasses = [][]api.Step{
	nil, {}, pass(step(0, 1)), pass(step(0, 2)), pass(step(0, -2)), pass(step(1, 1)), pass(step(1, -1)), pass(step(2, 4)), pass(step(2, -4)),
	pass(step(0, 2), step(1, 1)), pass(step(0, 2), step(1, 1), step(2, 1)), pass(step(2, 1), step(0, 2), step(1, 1)), pass(step(2, 3), step(0, 1)), pass(step(1, 1), step(2, 1)), pass(step(0, 1), step(2, 1), step(1, -1)),
}

func TestP5_3_CheckPass(t *testing.T) {
	for _, x := range passFaults {
		at, e := regulation.CheckPass(grand(), x.pass)
		wanted(t, "CheckPass of "+text(x.pass), at, e, x.at, x.want)
	}
	for _, p := range rightPasses {
		at, e := regulation.CheckPass(grand(), p)
		wanted(t, "CheckPass of "+text(p), at, e, 0, api.OK)
	}
}

func TestP5_3_LongPasses(t *testing.T) {
	b := many(1, 12)
	var long []api.Step
	for i := range 12 {
		long = append(long, step(11-i, 1))
	}
	at, e := regulation.CheckPass(b, long)
	wanted(t, "CheckPass of twelve steps", at, e, 0, api.OK)
	at, e = regulation.CheckPass(b, append(long, step(3, 1)))
	wanted(t, "CheckPass of thirteen steps", at, e, 0, api.ErrLarge)
	at, e = regulation.CheckPass(grand(), slices.Repeat(pass(step(0, 1)), 12))
	wanted(t, "CheckPass of the same steps", at, e, 1, api.ErrExists)
	at, e = regulation.CheckPass(grand(), slices.Repeat(pass(step(9, 0)), 13))
	wanted(t, "CheckPass of thirteen wrong steps", at, e, 0, api.ErrLarge)
}

// TestP5_3_OnlyItsOwnAfter checks that a step looks at the names of its own After.
func TestP5_3_OnlyItsOwnAfter(t *testing.T) {
	b := many(1, 3)
	b.Adjustments[1].After = []string{"a"}
	b.Adjustments[2].After = []string{"b"}
	at, e := regulation.CheckPass(b, pass(step(2, 1), step(0, 1)))
	wanted(t, "CheckPass", at, e, 0, api.OK)
	at, e = regulation.CheckPass(b, pass(step(2, 1), step(0, 1), step(1, 1)))
	wanted(t, "CheckPass", at, e, 0, api.ErrOrder)
	at, e = regulation.CheckPass(b, pass(step(1, 1), step(0, 1)))
	wanted(t, "CheckPass", at, e, 0, api.ErrOrder)
	b.Adjustments[2].After = []string{"b", "a"}
	at, e = regulation.CheckPass(b, pass(step(2, 1), step(0, 1)))
	wanted(t, "CheckPass", at, e, 0, api.ErrOrder)
}

func TestP5_3_Sums(t *testing.T) {
	for _, x := range []struct {
		plan [][]api.Step
		sums []int
	}{
		{nil, []int{0, 0, 0}},
		{plan(nil, nil), []int{0, 0, 0}},
		{plan(pass(step(0, 2), step(1, -1)), pass(step(0, 1), step(1, -1))), []int{3, -2, 0}},
		{plan(pass(step(1, 1)), pass(step(0, 1)), pass(step(2, 4), step(0, -2), step(1, 1))), []int{-1, 2, 4}},
		{plan(pass(step(2, 4)), pass(step(2, -4)), pass(step(2, 4))), []int{0, 0, 4}},
		{slices.Repeat(plan(pass(step(0, 2))), 5), []int{10, 0, 0}},
		{slices.Repeat(plan(pass(step(0, -2))), 5), []int{-10, 0, 0}},
		{slices.Repeat(plan(pass(step(0, 2)), pass(step(0, -2))), 25), []int{0, 0, 0}},
		// Within the pass the sum is lower than Least.
		{plan(pass(step(1, -1)), pass(step(1, -1)), pass(step(1, -1)), pass(step(1, 1))), []int{0, -2, 0}},
	} {
		sums, at, e := regulation.Sums(grand(), x.plan)
		wanted(t, "Sums of "+text(x.plan), sums, e, x.sums, api.OK)
		wanted(t, "the pass", at, e, 0, api.OK)
	}
}

// planFaults are plans of the chapter's bench with the number of the wrong pass, and its error.
func planFaults() []struct {
	plan [][]api.Step
	at   int
	want api.Errno
} {
	type faults = []struct {
		plan [][]api.Step
		at   int
		want api.Errno
	}
	l := faults{
		{slices.Repeat(plan(nil), 51), 0, api.ErrLarge},
		{slices.Repeat(plan(pass(step(9, 9))), 51), 0, api.ErrLarge},
		{plan(pass(step(2, -1))), 0, api.ErrRange},
		{plan(pass(step(2, 4)), pass(step(2, 1))), 1, api.ErrRange},
		{plan(pass(step(2, 4)), pass(step(2, 1)), pass(step(2, -1))), 1, api.ErrRange},
		{slices.Repeat(plan(pass(step(0, 2))), 6), 5, api.ErrRange},
		{slices.Repeat(plan(pass(step(0, -2))), 9), 5, api.ErrRange},
		{slices.Repeat(plan(pass(step(0, 2), step(1, 1))), 5), 3, api.ErrRange},
		{plan(pass(step(2, 3), step(0, 1)), pass(step(2, 3)), pass(step(0, 0))), 1, api.ErrRange},
		{plan(pass(step(2, -1)), pass(step(0, 0))), 0, api.ErrRange},
		{plan(pass(step(2, -1), step(0, 0))), 0, api.ErrZero},
		{plan(pass(step(2, -1)), slices.Repeat(pass(step(0, 1)), 13)), 0, api.ErrRange},
		{plan(pass(step(2, 1)), slices.Repeat(pass(step(0, 1)), 13)), 1, api.ErrLarge},
	}
	for _, x := range passFaults {
		l = append(l, faults{{plan(x.pass), 0, x.want}, {plan(pass(step(0, 1)), nil, x.pass, pass(step(3, 1))), 2, x.want}}...)
	}
	return l
}

func TestP5_3_SumsOfWrongPlans(t *testing.T) {
	for _, x := range planFaults() {
		sums, at, e := regulation.Sums(grand(), x.plan)
		wanted(t, "Sums of "+text(x.plan), sums, e, nil, x.want)
		wanted(t, "the pass of Sums of "+text(x.plan), at, e, x.at, x.want)
		at, e = regulation.CheckPlan(grand(), x.plan)
		wanted(t, "CheckPlan of "+text(x.plan), at, e, x.at, x.want)
	}
}

func TestP5_3_CheckPlan(t *testing.T) {
	for _, x := range []struct {
		plan [][]api.Step
		at   int
		want api.Errno
	}{
		{nil, 0, api.ErrBreak},
		{plan(nil), 0, api.ErrBreak},
		{plan(pass(step(0, 1)), pass(step(0, 2))), 0, api.OK},
		{plan(pass(step(0, 2)), pass(step(0, 1)), nil), 0, api.OK},
		{plan(pass(step(0, 2), step(1, -1)), pass(step(0, 1), step(1, -1))), 1, api.ErrBreak},
		{plan(pass(step(0, 2), step(2, 2)), pass(step(0, 1))), 2, api.ErrBreak},
		{plan(pass(step(0, 2), step(1, -1), step(2, 4)), pass(step(0, 1), step(1, -1))), 1, api.ErrBreak},
		{plan(pass(step(2, 4))), 0, api.ErrBreak},
	} {
		at, e := regulation.CheckPlan(grand(), x.plan)
		wanted(t, "CheckPlan of "+text(x.plan), at, e, x.at, x.want)
	}
	at, e := regulation.CheckPlan(api.Bench{}, nil)
	wanted(t, "CheckPlan of nothing", at, e, 0, api.OK)
}

func TestP5_4_Passes(t *testing.T) {
	for _, x := range []struct {
		steps []int
		want  int
	}{{[]int{0, 0, 0}, 0}, {[]int{1, 0, 0}, 1}, {[]int{2, 0, 0}, 1}, {[]int{-2, 0, 0}, 1}, {[]int{3, 0, 0}, 2}, {[]int{-3, 0, 0}, 2}, {[]int{-4, 0, 0}, 2}, {[]int{-5, 0, 4}, 3}, {[]int{0, 3, 4}, 3}, {[]int{0, -1, 4}, 1}, {[]int{10, 3, 4}, 5}, {[]int{-10, 3, 4}, 5}} {
		passes, e := regulation.Passes(grand(), x.steps)
		wanted(t, "Passes of "+text(x.steps), passes, e, x.want, api.OK)
	}
	for _, x := range wrongSteps {
		passes, e := regulation.Passes(grand(), x.steps)
		wanted(t, "Passes of wrong steps", passes, e, 0, x.want)
		plan, e := regulation.PlanOf(grand(), x.steps)
		wanted(t, "PlanOf of wrong steps", plan, e, nil, x.want)
	}
}

func TestP5_4_PlanOf(t *testing.T) {
	turned := grand()
	turned.Adjustments[0].After = []string{"check"}
	turned.Adjustments[2].Pass = 1
	for _, x := range []struct {
		bench api.Bench
		steps []int
		want  [][]api.Step
	}{
		{grand(), []int{0, 0, 0}, nil},
		{grand(), []int{3, 0, 0}, plan(pass(step(0, 2)), pass(step(0, 1)))},
		{grand(), []int{3, -2, 0}, plan(pass(step(0, 2), step(1, -1)), pass(step(0, 1), step(1, -1)))},
		{grand(), []int{-5, 1, 3}, plan(pass(step(0, -2), step(1, 1), step(2, 3)), pass(step(0, -2)), pass(step(0, -1)))},
		{turned, []int{-3, 1, 3}, plan(pass(step(2, 1), step(0, -2), step(1, 1)), pass(step(2, 1), step(0, -1)), pass(step(2, 1)))},
		{turned, []int{2, -3, 0}, plan(pass(step(0, 2), step(1, -1)), pass(step(1, -1)), pass(step(1, -1)))},
	} {
		plan, e := regulation.PlanOf(x.bench, x.steps)
		wanted(t, "PlanOf of "+text(x.steps), plan, e, x.want, api.OK)
	}
}

func TestP5_4_ManyPasses(t *testing.T) {
	for _, x := range []struct {
		pass, steps, passes int
		want                api.Errno
	}{{1, 50, 50, api.OK}, {1, -50, 50, api.OK}, {1, 51, 0, api.ErrLarge}, {1, -51, 0, api.ErrLarge}, {1, 1000, 0, api.ErrLarge}, {20, 1000, 50, api.OK}, {20, -1000, 50, api.OK}, {19, 950, 50, api.OK}, {19, 951, 0, api.ErrLarge}, {1000, 1000, 1, api.OK}, {999, 1000, 2, api.OK}} {
		b := api.Bench{Adjustments: adjustments(adjust("w", -1, 1, 1), adjust("x", -1000, 1000, x.pass))}
		steps := []int{1, x.steps}
		passes, e := regulation.Passes(b, steps)
		wanted(t, "Passes of "+text(x), passes, e, x.passes, x.want)
		var want [][]api.Step
		if x.want == api.OK {
			want = planBy(b, steps)
		}
		plan, e := regulation.PlanOf(b, steps)
		wanted(t, "PlanOf of "+text(x), plan, e, want, x.want)
	}
	// The steps come before the passes.
	passes, e := regulation.Passes(api.Bench{Adjustments: adjustments(adjust("x", -1000, 1000, 1), adjust("y", 0, 0, 1))}, []int{51, 1})
	wanted(t, "Passes", passes, e, 0, api.ErrRange)
}

func TestP5_4_RandomBenches(t *testing.T) {
	r := rand.New(rand.NewSource(54))
	for range 2000 {
		b := randomBench(r)
		steps := randomSteps(r, b)
		passes, e := regulation.Passes(b, steps)
		wanted(t, "Passes", passes, e, passesBy(b, steps), api.OK)
		plan, e := regulation.PlanOf(b, steps)
		wanted(t, "PlanOf", plan, e, planBy(b, steps), api.OK)
	}
}
