package regulation

import (
	"iter"
	"slices"

	"agraffe/api"
)

// checkSteps returns the error of steps, one number for each adjustment.
func (n *numbered) checkSteps(steps []int) api.Errno {
	if len(steps) != len(n.Adjustments) {
		return api.ErrShape
	}
	if !n.hasRoom(steps) {
		return api.ErrRange
	}
	return api.OK
}

// hasRoom says whether the steps of each adjustment are from its Least to its Most.
func (n *numbered) hasRoom(steps []int) bool {
	for i, a := range n.Adjustments {
		if steps[i] < a.Least || steps[i] > a.Most {
			return false
		}
	}
	return true
}

// withSteps returns a bench with its numbers, or the first error of it and of steps.
func withSteps(b api.Bench, steps []int) (*numbered, api.Errno) {
	n, e := withNumbers(b)
	if e != api.OK {
		return nil, e
	}
	if e := n.checkSteps(steps); e != api.OK {
		return nil, e
	}
	return n, api.OK
}

// value returns the value of a measure behind steps.
func (n *numbered) value(measure int, steps []int) int {
	value := n.Measures[measure].Value
	for i, made := range steps {
		value += made * n.adds[i][measure]
	}
	return value
}

// broken yields the numbers of the measures that are broken behind steps, ascending.
func (n *numbered) broken(steps []int) iter.Seq[int] {
	return func(yield func(measure int) bool) {
		for i, m := range n.Measures {
			if right := within(m.Low, m.High); !right(n.value(i, steps)) && !yield(i) {
				return
			}
		}
	}
}

// firstBroken returns the first measure that is broken behind steps, or false if none is.
func (n *numbered) firstBroken(steps []int) (int, bool) {
	for measure := range n.broken(steps) {
		return measure, true
	}
	return 0, false
}

// Values returns the values behind steps.
func Values(b api.Bench, steps []int) ([]int, api.Errno) {
	n, e := withSteps(b, steps)
	if e != api.OK {
		return nil, e
	}
	var values []int
	for i := range n.Measures {
		values = append(values, n.value(i, steps))
	}
	return values, api.OK
}

// Broken returns the numbers of the measures that are broken behind steps, ascending.
func Broken(b api.Bench, steps []int) ([]int, api.Errno) {
	n, e := withSteps(b, steps)
	if e != api.OK {
		return nil, e
	}
	return slices.Collect(n.broken(steps)), api.OK
}

// copyOf returns a bench that shares no memory with another one.
func copyOf(b api.Bench) api.Bench {
	b.Measures, b.Adjustments = slices.Clone(b.Measures), slices.Clone(b.Adjustments)
	for i := range b.Adjustments {
		a := &b.Adjustments[i]
		a.Effects, a.After = slices.Clone(a.Effects), slices.Clone(a.After)
	}
	return b
}

// Apply returns the bench behind steps: with the values that they lead to, and the steps that are left.
func Apply(b api.Bench, steps []int) (api.Bench, api.Errno) {
	n, e := withSteps(b, steps)
	if e != api.OK {
		return api.Bench{}, e
	}
	behind := copyOf(b)
	for i := range behind.Measures {
		value := n.value(i, steps)
		if size(value) > mostValue {
			return api.Bench{}, api.ErrRange
		}
		behind.Measures[i].Value = value
	}
	for i, made := range steps {
		a := &behind.Adjustments[i]
		a.Least, a.Most = a.Least-made, a.Most-made
		if size(a.Least) > api.MaxSteps || size(a.Most) > api.MaxSteps {
			return api.Bench{}, api.ErrRange
		}
	}
	return behind, api.OK
}
