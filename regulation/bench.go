package regulation

import (
	"slices"

	"agraffe/api"
)

const (
	mostValue = 100000 // values, and limits of tolerances, in size
	mostBy    = 1000   // what a step adds, in size
)

// numbered is a right bench with its numbers: those of the measures by their names, what a step of each adjustment adds to each measure, and the order of the adjustments.
type numbered struct {
	api.Bench
	measures map[string]int
	adds     [api.MaxAdjustments][api.MaxMeasures]int
	order    []int
}

func isLetter(c byte) bool {
	return 'a' <= c && c <= 'z' || 'A' <= c && c <= 'Z'
}

// isName says whether a text is 1 to 12 letters, digits and "-", beginning with a letter.
func isName(s string) bool {
	if len(s) < 1 || len(s) > api.MaxName || !isLetter(s[0]) {
		return false
	}
	for _, c := range []byte(s) {
		if !isLetter(c) && (c < '0' || c > '9') && c != '-' {
			return false
		}
	}
	return true
}

// adjustmentNamed returns the condition that an adjustment has a name.
func adjustmentNamed(name string) func(a api.Adjustment) bool {
	return func(a api.Adjustment) bool { return a.Name == name }
}

// isMissing returns the condition that none of some adjustments has a name.
func isMissing(l []api.Adjustment) func(name string) bool {
	return func(name string) bool { return !slices.ContainsFunc(l, adjustmentNamed(name)) }
}

// numberMeasures numbers the measures, up to the first one with an error.
func (n *numbered) numberMeasures() api.Errno {
	if len(n.Measures) > api.MaxMeasures {
		return api.ErrLarge
	}
	right := within(-mostValue, mostValue)
	n.measures = map[string]int{}
	for i, m := range n.Measures {
		if !isName(m.Name) {
			return api.ErrName
		}
		if _, found := n.measures[m.Name]; found {
			return api.ErrExists
		}
		if !right(m.Value) || !right(m.Low) || !right(m.High) {
			return api.ErrRange
		}
		if m.High < m.Low {
			return api.ErrOrder
		}
		n.measures[m.Name] = i
	}
	return api.OK
}

// addEffects notes what the adjustment with a number adds to the measures, up to its first effect with an error.
func (n *numbered) addEffects(adjustment int) api.Errno {
	effects, adds := n.Adjustments[adjustment].Effects, &n.adds[adjustment]
	if len(effects) > api.MaxMeasures {
		return api.ErrLarge
	}
	right := within(-mostBy, mostBy)
	for _, effect := range effects {
		measure, found := n.measures[effect.Measure]
		if !found {
			return api.ErrMissing
		}
		// No effect adds 0: what is not 0 was noted for an earlier effect.
		if adds[measure] != 0 {
			return api.ErrExists
		}
		if !right(effect.By) {
			return api.ErrRange
		}
		if effect.By == 0 {
			return api.ErrZero
		}
		adds[measure] = effect.By
	}
	return api.OK
}

// checkAfter returns the error of the names of adjustments that come before one.
func (n *numbered) checkAfter(names []string) api.Errno {
	if len(names) > api.MaxAdjustments {
		return api.ErrLarge
	}
	missing := isMissing(n.Adjustments)
	for i, name := range names {
		if missing(name) {
			return api.ErrMissing
		}
		if slices.Contains(names[:i], name) {
			return api.ErrExists
		}
	}
	return api.OK
}

// addAdjustment checks the adjustment with a number, and notes what it adds.
func (n *numbered) addAdjustment(i int) api.Errno {
	a := n.Adjustments[i]
	if !isName(a.Name) {
		return api.ErrName
	}
	if slices.ContainsFunc(n.Adjustments[:i], adjustmentNamed(a.Name)) {
		return api.ErrExists
	}
	if e := n.addEffects(i); e != api.OK {
		return e
	}
	if a.Least < -api.MaxSteps || a.Least > 0 || a.Most < 0 || a.Most > api.MaxSteps || a.Pass < 1 || a.Pass > api.MaxSteps {
		return api.ErrRange
	}
	return n.checkAfter(a.After)
}

// putInOrder finds the order of the adjustments: the first one that waits for no other one, again and again.
func (n *numbered) putInOrder() api.Errno {
	var before []api.Adjustment
	ready := func(a api.Adjustment) bool {
		waits := isMissing(before)
		return waits(a.Name) && !slices.ContainsFunc(a.After, waits)
	}
	for range n.Adjustments {
		next := slices.IndexFunc(n.Adjustments, ready)
		if next < 0 {
			return api.ErrCycle
		}
		before = append(before, n.Adjustments[next])
		n.order = append(n.order, next)
	}
	return api.OK
}

// withNumbers returns a bench with its numbers, or its first error.
func withNumbers(b api.Bench) (*numbered, api.Errno) {
	n := &numbered{Bench: b}
	if e := n.numberMeasures(); e != api.OK {
		return nil, e
	}
	if len(n.Adjustments) > api.MaxAdjustments {
		return nil, api.ErrLarge
	}
	for i := range n.Adjustments {
		if e := n.addAdjustment(i); e != api.OK {
			return nil, e
		}
	}
	if e := n.putInOrder(); e != api.OK {
		return nil, e
	}
	return n, api.OK
}

// CheckBench returns the first error of a bench: of its measures, its adjustments, their order.
func CheckBench(b api.Bench) api.Errno {
	_, e := withNumbers(b)
	return e
}

// Order returns the lexicographically first list of the adjustments in which each one comes behind those of its After.
func Order(b api.Bench) ([]int, api.Errno) {
	n, e := withNumbers(b)
	if e != api.OK {
		return nil, e
	}
	return n.order, api.OK
}
