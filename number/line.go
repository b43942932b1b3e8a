package number

import "agraffe/api"

const (
	mostPlace = 10000 // coordinates of dots, in size
	mostDens  = 40000 // the common denominator of a line; that of a best one is at most twice the distance of two dots
)

// checkDots returns the error of dots.
func checkDots(l []api.Dot) api.Errno {
	if len(l) < 3 || len(l) > api.MaxDots {
		return api.ErrShape
	}
	for i, d := range l {
		if !within(d.X, mostPlace) || !within(d.Y, mostPlace) {
			return api.ErrRange
		}
		if i > 0 && d.X <= l[i-1].X {
			return api.ErrOrder
		}
	}
	return api.OK
}

// bend is how far the middle one of three dots lies above the line through the two others: high / wide.
type bend struct{ high, wide int }

func bendOf(a, b, c api.Dot) bend {
	wide := c.X - a.X
	return bend{high: (b.Y-a.Y)*wide - (c.Y-a.Y)*(b.X-a.X), wide: wide}
}

// beyond says whether b is greater in size than other.
func (b bend) beyond(other bend) bool {
	return max(b.high, -b.high)*other.wide > max(other.high, -other.high)*b.wide
}

// Line returns the best line at dots, its greatest error, and three dots that prove it.
// The best line at three dots has errors of half their bend. No line does better at all dots than the best one at any
// three of them, and the best one at all dots is the best one at some three: those with the greatest bend.
func Line(l []api.Dot) (api.Trend, api.Errno) {
	if e := checkDots(l); e != api.OK {
		return api.Trend{}, e
	}
	proof := [3]int{0, 1, 2}
	most := bendOf(l[0], l[1], l[2])
	for i := range l {
		for j := i + 1; j < len(l); j++ {
			for k := j + 1; k < len(l); k++ {
				if b := bendOf(l[i], l[j], l[k]); b.beyond(most) {
					most, proof = b, [3]int{i, j, k}
				}
			}
		}
	}
	return trendOf(l, proof), api.OK
}

// trendOf returns the best line at three dots: the one through the outer two, moved halfway to the middle one.
func trendOf(l []api.Dot, proof [3]int) api.Trend {
	first, last := l[proof[0]], l[proof[2]]
	b := bendOf(first, l[proof[1]], last)
	t := api.Trend{Proof: proof}
	// With coordinates in their bounds none of the three fractions is too large.
	t.Start, _ = lowest(2*(first.Y*last.X-last.Y*first.X)+b.high, 2*b.wide)
	t.Slope, _ = lowest(last.Y-first.Y, b.wide)
	t.Error, _ = lowest(max(b.high, -b.high), 2*b.wide)
	return t
}

// CheckLine accepts a best line with its error and three dots that prove it.
func CheckLine(l []api.Dot, t api.Trend) api.Errno {
	if e := checkDots(l); e != api.OK {
		return e
	}
	if e := checkFracs(t.Start, t.Slope, t.Error); e != api.OK {
		return e
	}
	den := commonDen(mostDens, t.Start, t.Slope, t.Error)
	if den == 0 {
		return api.ErrLarge
	}
	if e := checkProof(len(l), t.Proof); e != api.OK {
		return e
	}
	scaled := func(f api.Frac) int { return f.Num * (den / f.Den) }
	start, slope, most := scaled(t.Start), scaled(t.Slope), scaled(t.Error)
	errorAt := func(dot int) int { return l[dot].Y*den - start - slope*l[dot].X }
	for i := range l {
		if !within(errorAt(i), most) {
			return api.ErrBreak
		}
	}
	first, middle, last := errorAt(t.Proof[0]), errorAt(t.Proof[1]), errorAt(t.Proof[2])
	if max(first, -first) != most || middle != -first || last != first {
		return api.ErrProof
	}
	return api.OK
}

// checkProof returns ErrMissing if one of three numbers is that of no dot, ErrOrder if they do not ascend.
func checkProof(dots int, proof [3]int) api.Errno {
	for _, i := range proof {
		if i < 0 || i >= dots {
			return api.ErrMissing
		}
	}
	if proof[0] >= proof[1] || proof[1] >= proof[2] {
		return api.ErrOrder
	}
	return api.OK
}
