package plate

import (
	"agraffe/api"
	"agraffe/number"
)

const (
	mostPlace     = 1000000     // coordinates of places, and their differences, in size
	mostComponent = 1000000000  // components of forces, in size
	mostTension   = 10000000000 // tensions that pull
)

// checkPlace returns the error of a place.
func checkPlace(place vector) api.Errno {
	if !place.all(within(mostPlace)) {
		return api.ErrRange
	}
	return api.OK
}

// length returns a hundred times the length of a way, rounded down and rounded up.
func length(way vector) (api.Range, api.Errno) {
	squares := 0
	for _, d := range way {
		squares += d * d
	}
	squares *= 10000
	root, e := number.Root(squares, 2)
	if e != api.OK {
		return api.Range{}, e
	}
	s := api.Range{Lo: root, Hi: root}
	if root*root < squares {
		s.Hi++
	}
	return s, api.OK
}

// component returns the component of a pull along a coordinate that differs by d, s being a hundred times the length of the way.
func component(tension api.Range, d int, s api.Range) api.Range {
	if d < 0 {
		back := component(tension, -d, s)
		return api.Range{Lo: -back.Hi, Hi: -back.Lo}
	}
	return api.Range{Lo: quotientDown(100*tension.Lo*d, s.Hi), Hi: quotientUp(100*tension.Hi*d, s.Lo)}
}

// PullOf returns the pull of a string from a place to another one.
func PullOf(tension api.Range, from, to [3]int) ([3]api.Range, api.Errno) {
	if !isTension(tension, mostTension) {
		return [3]api.Range{}, api.ErrRange
	}
	for _, place := range [2]vector{from, to} {
		if e := checkPlace(place); e != api.OK {
			return [3]api.Range{}, e
		}
	}
	way := vector(to).plus(vector(from).opposite())
	if !way.all(within(mostPlace)) {
		return [3]api.Range{}, api.ErrRange
	}
	if from == to {
		return [3]api.Range{}, api.ErrZero
	}
	s, e := length(way)
	if e != api.OK {
		return [3]api.Range{}, e
	}
	var pull [3]api.Range
	for i, d := range way {
		pull[i] = component(tension, d, s)
	}
	return pull, api.OK
}

// CheckForces returns ErrLarge for too many forces, ErrRange for one with a place or a component that is too great in size.
func CheckForces(l []api.Pulled) api.Errno {
	if len(l) > api.MaxForces {
		return api.ErrLarge
	}
	for _, f := range l {
		if e := checkPlace(f.At); e != api.OK {
			return e
		}
		if !vector(f.Force).all(within(mostComponent)) {
			return api.ErrRange
		}
	}
	return api.OK
}

// sumOf returns the sum of right forces.
func sumOf(l []api.Pulled) vector {
	var sum vector
	for _, f := range l {
		sum = sum.plus(f.Force)
	}
	return sum
}

// momentOf returns the moment of right forces about a right place.
func momentOf(l []api.Pulled, at vector) vector {
	var moment vector
	for _, f := range l {
		arm := vector(f.At).plus(at.opposite())
		moment = moment.plus(arm.cross(f.Force))
	}
	return moment
}

// Sum returns the sum of forces.
func Sum(l []api.Pulled) ([3]int, api.Errno) {
	if e := CheckForces(l); e != api.OK {
		return [3]int{}, e
	}
	return sumOf(l), api.OK
}

// Moment returns the moment of forces about a place.
func Moment(l []api.Pulled, at [3]int) ([3]int, api.Errno) {
	if e := CheckForces(l); e != api.OK {
		return [3]int{}, e
	}
	if e := checkPlace(at); e != api.OK {
		return [3]int{}, e
	}
	return momentOf(l, at), api.OK
}

// Balanced says whether the sum of forces, and their moment, are 0.
func Balanced(l []api.Pulled) (bool, api.Errno) {
	if e := CheckForces(l); e != api.OK {
		return false, e
	}
	none := vector{}
	return sumOf(l) == none && momentOf(l, none) == none, api.OK
}

// Balance returns the force at a place that makes the sum of forces 0, and the moment that still balances all then.
func Balance(l []api.Pulled, at [3]int) (api.Pulled, [3]int, api.Errno) {
	if e := CheckForces(l); e != api.OK {
		return api.Pulled{}, [3]int{}, e
	}
	if e := checkPlace(at); e != api.OK {
		return api.Pulled{}, [3]int{}, e
	}
	// The force has no moment about the place where it acts.
	force := api.Pulled{At: at, Force: sumOf(l).opposite()}
	return force, momentOf(l, at).opposite(), api.OK
}

// Move returns forces with all places moved.
func Move(l []api.Pulled, by [3]int) ([]api.Pulled, api.Errno) {
	if e := CheckForces(l); e != api.OK {
		return nil, e
	}
	moved := make([]api.Pulled, len(l))
	for i, f := range l {
		// A sum that wraps around is out of range all the more: a right place is far too near for the way back.
		place := vector(f.At).plus(by)
		if e := checkPlace(place); e != api.OK {
			return nil, e
		}
		moved[i] = api.Pulled{At: place, Force: f.Force}
	}
	return moved, api.OK
}
