package regulation

import (
	"slices"

	"agraffe/api"
)

// tries returns how many lists of steps there are, or MaxTries and 1 if there are more.
func (n *numbered) tries() int {
	tries := 1
	for _, a := range n.Adjustments {
		tries = min(tries*(a.Most-a.Least+1), api.MaxTries+1)
	}
	return tries
}

// allSteps yields all steps of the adjustments, in lexicographic order.
func (n *numbered) allSteps(yield func(steps []int) bool) {
	var limits [][2]int
	for _, a := range n.Adjustments {
		limits = append(limits, [2]int{a.Least, a.Most})
	}
	lists(limits)(yield)
}

// cost returns the fewest passes for steps, and the sum of their sizes.
func (n *numbered) cost(steps []int) [2]int {
	return [2]int{n.passes(steps), sum(sizes(steps)...)}
}

// Fewest returns the steps behind which nothing is broken that need the fewest passes, of these those with the least sum of sizes, of these the first ones lexicographically, and their passes.
func Fewest(b api.Bench) ([]int, int, api.Errno) {
	n, e := withNumbers(b)
	if e != api.OK {
		return nil, 0, e
	}
	if n.tries() > api.MaxTries {
		return nil, 0, api.ErrLarge
	}
	var best []int
	var least [2]int
	found := false
	for steps := range n.allSteps {
		cost := n.cost(steps)
		if found && slices.Compare(cost[:], least[:]) >= 0 {
			continue
		}
		if _, broken := n.firstBroken(steps); !broken {
			best, least, found = steps, cost, true
		}
	}
	if !found {
		return nil, 0, api.ErrNone
	}
	return best, least[0], api.OK
}
