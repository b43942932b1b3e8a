package scale

import (
	"agraffe/api"
	"agraffe/number"
)

// LengthSystem returns the system of bounds that lengths within ranges and with these drops solve.
func LengthSystem(bounds []api.Range, drop api.Range) ([]api.Bound, api.Errno) {
	if len(bounds) > api.MaxSmooth {
		return nil, api.ErrLarge
	}
	ordered := func(r api.Range, low, high int) bool { return low <= r.Lo && r.Lo <= r.Hi && r.Hi <= high }
	for _, r := range bounds {
		if !ordered(r, leastLength, mostLength) {
			return nil, api.ErrRange
		}
	}
	if !ordered(drop, -mostLength, mostLength) {
		return nil, api.ErrRange
	}
	zero := len(bounds)
	var system []api.Bound
	for i, r := range bounds {
		system = append(system, api.Bound{From: zero, To: i, Most: r.Hi}, api.Bound{From: i, To: zero, Most: -r.Lo})
	}
	for i := 1; i < len(bounds); i++ {
		system = append(system, api.Bound{From: i - 1, To: i, Most: -drop.Lo}, api.Bound{From: i, To: i - 1, Most: drop.Hi})
	}
	return system, api.OK
}

// SmoothLengths returns the greatest lengths within ranges and with these drops, or a circle of the length system and ErrCycle.
func SmoothLengths(bounds []api.Range, drop api.Range) ([]int, []int, api.Errno) {
	system, e := LengthSystem(bounds, drop)
	if e != api.OK {
		return nil, nil, e
	}
	// The greatest solution with nothing above 0 is the one with the greatest lengths if it is their unknown z that is 0.
	// So each length is counted from the greatest one that may be, down. The sum of a circle stays: it comes to z as often as it leaves it.
	zero := len(bounds)
	for i, b := range system {
		if b.From == zero {
			system[i].Most -= mostLength
		}
		if b.To == zero {
			system[i].Most += mostLength
		}
	}
	values, circle, e := number.Solve(zero+1, system)
	if e != api.OK {
		return nil, circle, e
	}
	lengths := make([]int, len(bounds))
	for i := range lengths {
		lengths[i] = values[i] - values[zero] + mostLength
	}
	return lengths, nil, api.OK
}
