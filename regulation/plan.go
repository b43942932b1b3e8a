package regulation

import (
	"slices"

	"agraffe/api"
)

// stepOf returns the condition that a step is of the adjustment with a number.
func stepOf(adjustment int) func(s api.Step) bool {
	return func(s api.Step) bool { return s.Adjustment == adjustment }
}

// stepAmong returns the condition that a step is of an adjustment with one of some names.
func (n *numbered) stepAmong(names []string) func(s api.Step) bool {
	return func(s api.Step) bool {
		return n.has(s.Adjustment) && slices.Contains(names, n.Adjustments[s.Adjustment].Name)
	}
}

// has says whether there is an adjustment with a number.
func (n *numbered) has(adjustment int) bool {
	return adjustment >= 0 && adjustment < len(n.Adjustments)
}

// checkStep returns the error of a step between the earlier and the later ones of its pass.
func (n *numbered) checkStep(s api.Step, earlier, later []api.Step) api.Errno {
	if !n.has(s.Adjustment) {
		return api.ErrMissing
	}
	if slices.ContainsFunc(earlier, stepOf(s.Adjustment)) {
		return api.ErrExists
	}
	if s.Steps == 0 {
		return api.ErrZero
	}
	a := n.Adjustments[s.Adjustment]
	if s.Steps < -a.Pass || s.Steps > a.Pass {
		return api.ErrRange
	}
	if slices.ContainsFunc(later, n.stepAmong(a.After)) {
		return api.ErrOrder
	}
	return api.OK
}

// checkPass returns the first error of a pass, with the number of the step that has it.
func (n *numbered) checkPass(pass []api.Step) (int, api.Errno) {
	if len(pass) > api.MaxAdjustments {
		return 0, api.ErrLarge
	}
	for i, s := range pass {
		if e := n.checkStep(s, pass[:i], pass[i+1:]); e != api.OK {
			return i, e
		}
	}
	return 0, api.OK
}

// sums returns the sums of the steps of a plan, or its first error with the number of the pass that has it.
func (n *numbered) sums(plan [][]api.Step) ([]int, int, api.Errno) {
	if len(plan) > api.MaxPasses {
		return nil, 0, api.ErrLarge
	}
	sums := make([]int, len(n.Adjustments))
	for i, pass := range plan {
		if _, e := n.checkPass(pass); e != api.OK {
			return nil, i, e
		}
		for _, s := range pass {
			sums[s.Adjustment] += s.Steps
		}
		if !n.hasRoom(sums) {
			return nil, i, api.ErrRange
		}
	}
	return sums, 0, api.OK
}

// passes returns the fewest passes for steps.
func (n *numbered) passes(steps []int) int {
	fewest := 0
	for i, a := range n.Adjustments {
		fewest = max(fewest, (size(steps[i])+a.Pass-1)/a.Pass)
	}
	return fewest
}

// passOf returns the next pass of a plan, with as many as can be of the steps that are left, and the steps that are left behind it.
func (n *numbered) passOf(left []int) ([]api.Step, []int) {
	left = slices.Clone(left)
	var pass []api.Step
	for _, i := range n.order {
		most := n.Adjustments[i].Pass
		if made := max(-most, min(most, left[i])); made != 0 {
			pass = append(pass, api.Step{Adjustment: i, Steps: made})
			left[i] -= made
		}
	}
	return pass, left
}

// CheckPass returns the first error of a pass, with the number of the step that has it, or 0.
func CheckPass(b api.Bench, pass []api.Step) (int, api.Errno) {
	n, e := withNumbers(b)
	if e != api.OK {
		return 0, e
	}
	return n.checkPass(pass)
}

// Sums returns the sums of the steps of a plan, by adjustments, or its first error with the number of the pass that has it.
func Sums(b api.Bench, plan [][]api.Step) ([]int, int, api.Errno) {
	n, e := withNumbers(b)
	if e != api.OK {
		return nil, 0, e
	}
	return n.sums(plan)
}

// CheckPlan accepts a plan behind which nothing is broken: otherwise it returns the number of the first wrong pass, or that of the first measure that is broken.
func CheckPlan(b api.Bench, plan [][]api.Step) (int, api.Errno) {
	n, e := withNumbers(b)
	if e != api.OK {
		return 0, e
	}
	sums, at, e := n.sums(plan)
	if e != api.OK {
		return at, e
	}
	if measure, found := n.firstBroken(sums); found {
		return measure, api.ErrBreak
	}
	return 0, api.OK
}

// withPasses returns a bench with its numbers and the fewest passes for steps, or the first error of the bench, of the steps, of their passes.
func withPasses(b api.Bench, steps []int) (*numbered, int, api.Errno) {
	n, e := withSteps(b, steps)
	if e != api.OK {
		return nil, 0, e
	}
	passes := n.passes(steps)
	if passes > api.MaxPasses {
		return nil, 0, api.ErrLarge
	}
	return n, passes, api.OK
}

// Passes returns the fewest passes for steps.
func Passes(b api.Bench, steps []int) (int, api.Errno) {
	_, passes, e := withPasses(b, steps)
	return passes, e
}

// PlanOf returns the plan of steps.
func PlanOf(b api.Bench, steps []int) ([][]api.Step, api.Errno) {
	n, passes, e := withPasses(b, steps)
	if e != api.OK {
		return nil, e
	}
	plan, left := make([][]api.Step, passes), steps
	for i := range plan {
		plan[i], left = n.passOf(left)
	}
	return plan, api.OK
}
