package regulation

import (
	"slices"

	"agraffe/api"
)

const (
	mostWeight = 100 // in size
	mostProved = 6   // measures of a bench for which a proof is searched
)

// reached returns the range of the sum of weight times value for all steps.
func (n *numbered) reached(weights []int) [2]int {
	var terms [][2]int
	for i, m := range n.Measures {
		terms = append(terms, rangeOf(weights[i]*m.Value, weights[i]*m.Value))
	}
	for i, a := range n.Adjustments {
		by := 0
		for measure, weight := range weights {
			by += weight * n.adds[i][measure]
		}
		terms = append(terms, rangeOf(by*a.Least, by*a.Most))
	}
	return sumOfRanges(terms...)
}

// tolerated returns the range of the sum of weight times tolerance.
func (n *numbered) tolerated(weights []int) [2]int {
	var terms [][2]int
	for i, m := range n.Measures {
		terms = append(terms, rangeOf(weights[i]*m.Low, weights[i]*m.High))
	}
	return sumOfRanges(terms...)
}

// refuses says whether weights are a proof of refusal.
func (n *numbered) refuses(weights []int) bool {
	return apart(n.reached(weights), n.tolerated(weights))
}

// alone returns the weight 1 for a measure, and 0 for all others.
func (n *numbered) alone(measure int) []int {
	weights := make([]int, len(n.Measures))
	weights[measure] = 1
	return weights
}

// Reach returns the range of a measure.
func Reach(b api.Bench, measure int) ([2]int, api.Errno) {
	n, e := withNumbers(b)
	if e != api.OK {
		return [2]int{}, e
	}
	if measure < 0 || measure >= len(n.Measures) {
		return [2]int{}, api.ErrMissing
	}
	return n.reached(n.alone(measure)), api.OK
}

// OutOfReach returns the numbers of the measures whose range has no number in common with their tolerance, ascending.
func OutOfReach(b api.Bench) ([]int, api.Errno) {
	n, e := withNumbers(b)
	if e != api.OK {
		return nil, e
	}
	var out []int
	for i := range n.Measures {
		if n.refuses(n.alone(i)) {
			out = append(out, i)
		}
	}
	return out, api.OK
}

// CheckRefusal accepts weights that prove that no steps bring all measures in.
func CheckRefusal(b api.Bench, weights []int) api.Errno {
	n, e := withNumbers(b)
	if e != api.OK {
		return e
	}
	if len(weights) != len(n.Measures) {
		return api.ErrShape
	}
	right := within(-mostWeight, mostWeight)
	for _, weight := range weights {
		if !right(weight) {
			return api.ErrRange
		}
	}
	if !n.refuses(weights) {
		return api.ErrProof
	}
	return api.OK
}

// countOf returns how many weights, from -1 to 1, are not 0.
func countOf(weights []int) int {
	return sum(sizes(weights)...)
}

// Refusal returns the proof with weights from -1 to 1 that has the fewest weights other than 0, of these the first one lexicographically.
func Refusal(b api.Bench) ([]int, api.Errno) {
	n, e := withNumbers(b)
	if e != api.OK {
		return nil, e
	}
	if len(n.Measures) > mostProved {
		return nil, api.ErrLarge
	}
	var best []int
	for weights := range lists(slices.Repeat([][2]int{{-1, 1}}, len(n.Measures))) {
		if n.refuses(weights) && (best == nil || countOf(weights) < countOf(best)) {
			best = weights
		}
	}
	if best == nil {
		return nil, api.ErrNone
	}
	return best, api.OK
}
