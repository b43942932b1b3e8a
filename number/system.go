package number

import (
	"slices"

	"agraffe/api"
)

// CheckSystem returns ErrRange for a number of unknowns, ErrLarge for too many bounds, then the error of the first bound that has one.
func CheckSystem(n int, l []api.Bound) api.Errno {
	if n < 1 || n > api.MaxUnknowns {
		return api.ErrRange
	}
	if len(l) > api.MaxBounds {
		return api.ErrLarge
	}
	known := func(unknown int) bool { return 0 <= unknown && unknown < n }
	for _, b := range l {
		if !known(b.From) || !known(b.To) {
			return api.ErrMissing
		}
		if !within(b.Most, api.MaxPart) {
			return api.ErrRange
		}
	}
	return api.OK
}

// Solve returns the greatest solution with nothing above 0, or a circle and ErrCycle.
func Solve(n int, l []api.Bound) ([]int, []int, api.Errno) {
	if e := CheckSystem(n, l); e != api.OK {
		return nil, nil, e
	}
	values, lowering := make([]int, n), make([]int, n)
	lowered := -1
	// Without a circle a value is settled by a path of at most n - 1 bounds, so that the last round lowers nothing.
	for range n {
		lowered = lowerOnce(values, lowering, l)
		if lowered < 0 {
			return values, nil, api.OK
		}
	}
	return nil, circleBehind(lowered, lowering, l), api.ErrCycle
}

// lowerOnce lowers every value that breaks a bound, notes in lowering which bound did it, and returns an unknown that was lowered, or -1.
func lowerOnce(values, lowering []int, l []api.Bound) int {
	lowered := -1
	for i, b := range l {
		if most := values[b.From] + b.Most; values[b.To] > most {
			values[b.To] = most
			lowering[b.To] = i
			lowered = b.To
		}
	}
	return lowered
}

// circleBehind returns the circle to which the bounds lead that lowered an unknown in round n, back from it.
func circleBehind(unknown int, lowering []int, l []api.Bound) []int {
	// A value that is lowered in a round rests on one that was lowered in this round or the round before.
	// So there are n steps back, and n steps over n unknowns end within the circle.
	for range lowering {
		unknown = l[lowering[unknown]].From
	}
	var circle []int
	for at := unknown; len(circle) == 0 || at != unknown; at = l[lowering[at]].From {
		circle = append(circle, lowering[at])
	}
	slices.Reverse(circle)
	return circle
}

// CheckCircle returns the sum of Most of a circle.
func CheckCircle(n int, l []api.Bound, circle []int) (int, api.Errno) {
	if e := CheckSystem(n, l); e != api.OK {
		return 0, e
	}
	if len(circle) < 1 || len(circle) > api.MaxUnknowns {
		return 0, api.ErrShape
	}
	for _, i := range circle {
		if i < 0 || i >= len(l) {
			return 0, api.ErrMissing
		}
	}
	sum := 0
	before := l[circle[len(circle)-1]]
	for _, i := range circle {
		if l[i].From != before.To {
			return 0, api.ErrOpen
		}
		before = l[i]
		sum += before.Most
	}
	if sum >= 0 {
		return 0, api.ErrProof
	}
	return sum, api.OK
}
