package plate

import "agraffe/api"

const mostBending = 1000000000000 // what a girder bears at most

// loaded is a right girder with right loads. What its methods return is whole: it is to be divided by the girder's length.
type loaded struct {
	api.Girder
	loads [][2]int
}

// CheckGirder returns ErrRange for a place that is too great in size, or a bending out of range, ErrOrder if A is not before B.
func CheckGirder(g api.Girder) api.Errno {
	along := within(mostAlong)
	if !along(g.A) || !along(g.B) || g.Most < 0 || g.Most > mostBending {
		return api.ErrRange
	}
	if g.A >= g.B {
		return api.ErrOrder
	}
	return api.OK
}

// withLoads returns a girder with loads, or the error of either.
func withLoads(g api.Girder, l [][2]int) (loaded, api.Errno) {
	if e := CheckGirder(g); e != api.OK {
		return loaded{}, e
	}
	if e := checkLoads(l, g.A, g.B); e != api.OK {
		return loaded{}, e
	}
	return loaded{Girder: g, loads: l}, api.OK
}

func (g loaded) length() int { return g.B - g.A }

// reaction returns the reaction at A.
func (g loaded) reaction() int {
	sum := 0
	for _, load := range g.loads {
		sum += (g.B - load[0]) * load[1]
	}
	return sum
}

// shear returns the shear force at a place.
func (g loaded) shear(x int) int {
	force := g.reaction()
	for _, load := range g.loads {
		if load[0] <= x {
			force -= load[1] * g.length()
		}
	}
	return force
}

// bending returns the bending at a place.
func (g loaded) bending(x int) int {
	bending := g.reaction() * (x - g.A)
	for _, load := range g.loads {
		if load[0] <= x {
			bending -= load[1] * (x - load[0]) * g.length()
		}
	}
	return bending
}

// worst returns the first place of a load, by places, at which the bending is greatest in size, and this bending.
func (g loaded) worst() (int, int) {
	at, most := g.A, 0
	for i, load := range g.loads {
		bending := g.bending(load[0])
		more := size(bending) > size(most)
		sooner := size(bending) == size(most) && load[0] < at
		if i == 0 || more || sooner {
			at, most = load[0], bending
		}
	}
	return at, most
}

// valueAt returns what a girder with loads has at a place.
func valueAt(g api.Girder, l [][2]int, x int, value func(g loaded, x int) int) (api.Frac, api.Errno) {
	beam, e := withLoads(g, l)
	if e != api.OK {
		return api.Frac{}, e
	}
	if x < beam.A || x > beam.B {
		return api.Frac{}, api.ErrRange
	}
	return lowest(value(beam, x), beam.length()), api.OK
}

// Reactions returns the reactions at A and B.
func Reactions(g api.Girder, l [][2]int) ([2]api.Frac, api.Errno) {
	beam, e := withLoads(g, l)
	if e != api.OK {
		return [2]api.Frac{}, e
	}
	// At B nothing is left but what the reaction there holds up.
	atA, atB := beam.reaction(), -beam.shear(beam.B)
	return [2]api.Frac{lowest(atA, beam.length()), lowest(atB, beam.length())}, api.OK
}

// Shear returns the shear force at a place.
func Shear(g api.Girder, l [][2]int, x int) (api.Frac, api.Errno) {
	return valueAt(g, l, x, loaded.shear)
}

// Bending returns the bending at a place.
func Bending(g api.Girder, l [][2]int, x int) (api.Frac, api.Errno) {
	return valueAt(g, l, x, loaded.bending)
}

// Worst returns the first place of a load, by places, at which the bending is greatest in size, and this bending.
func Worst(g api.Girder, l [][2]int) (int, api.Frac, api.Errno) {
	beam, e := withLoads(g, l)
	if e != api.OK {
		return 0, api.Frac{}, e
	}
	at, bending := beam.worst()
	return at, lowest(bending, beam.length()), api.OK
}

// Holds returns ErrBreak if the greatest bending in size is more than the girder bears.
func Holds(g api.Girder, l [][2]int) api.Errno {
	beam, e := withLoads(g, l)
	if e != api.OK {
		return e
	}
	// Between two loads the bending changes evenly, and so it is greatest at one of them.
	if _, bending := beam.worst(); size(bending) > beam.Most*beam.length() {
		return api.ErrBreak
	}
	return api.OK
}
