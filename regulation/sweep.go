package regulation

import (
	"slices"

	"agraffe/api"
)

const mostSweeps = 100

// mainMeasure returns the number of the measure of an adjustment's first effect, or false if it has none.
func (n *numbered) mainMeasure(adjustment int) (int, bool) {
	effects := n.Adjustments[adjustment].Effects
	if len(effects) == 0 {
		return 0, false
	}
	return n.measures[effects[0].Measure], true
}

// moreSteps returns how many steps more, of those of one pass, bring a measure nearest to the middle of its tolerance.
func (n *numbered) moreSteps(adjustment, measure int, steps []int) int {
	a, m := n.Adjustments[adjustment], n.Measures[measure]
	made, by := steps[adjustment], n.adds[adjustment][measure]
	// Twice the way to the middle: the middle itself may not be whole.
	way := m.Low + m.High - 2*n.value(measure, steps)
	cost := func(more int) [2]int { return [2]int{size(way - 2*by*more), size(more)} }
	best, least := 0, cost(0)
	for more := max(-a.Pass, a.Least-made); more <= min(a.Pass, a.Most-made); more++ {
		if c := cost(more); slices.Compare(c[:], least[:]) < 0 {
			best, least = more, c
		}
	}
	return best
}

// sweep returns the steps behind a sweep.
func (n *numbered) sweep(steps []int) []int {
	steps = slices.Clone(steps)
	for _, i := range n.order {
		if measure, found := n.mainMeasure(i); found {
			steps[i] += n.moreSteps(i, measure, steps)
		}
	}
	return steps
}

// Sweep returns the steps behind a sweep.
func Sweep(b api.Bench, steps []int) ([]int, api.Errno) {
	n, e := withSteps(b, steps)
	if e != api.OK {
		return nil, e
	}
	return n.sweep(steps), api.OK
}

// Settle returns the steps behind each sweep, from no steps up to the first sweep behind which nothing is broken.
func Settle(b api.Bench, most int) ([][]int, api.Errno) {
	n, e := withNumbers(b)
	if e != api.OK {
		return nil, e
	}
	if most < 0 || most > mostSweeps {
		return nil, api.ErrRange
	}
	var sweeps [][]int
	steps := make([]int, len(n.Adjustments))
	for {
		if _, broken := n.firstBroken(steps); !broken {
			return sweeps, api.OK
		}
		if len(sweeps) == most {
			return nil, api.ErrNone
		}
		steps = n.sweep(steps)
		sweeps = append(sweeps, steps)
	}
}

// disturbs says whether an adjustment has an effect on the main measure of another one.
func (n *numbered) disturbs(adjustment, other int) bool {
	measure, found := n.mainMeasure(other)
	return found && n.adds[adjustment][measure] != 0
}

// Disturbs returns the pairs of adjustments of which the first one comes behind the second one in the order, and has an effect on the main measure of that, ascending.
func Disturbs(b api.Bench) ([][2]int, api.Errno) {
	n, e := withNumbers(b)
	if e != api.OK {
		return nil, e
	}
	var pairs [][2]int
	for i, adjustment := range n.order {
		for _, other := range n.order[:i] {
			if n.disturbs(adjustment, other) {
				pairs = append(pairs, [2]int{adjustment, other})
			}
		}
	}
	slices.SortFunc(pairs, func(a, b [2]int) int { return slices.Compare(a[:], b[:]) })
	return pairs, api.OK
}
