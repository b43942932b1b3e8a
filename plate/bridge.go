package plate

import (
	"sort"

	"agraffe/api"
	"agraffe/number"
)

const (
	mostHeight = 10000    // heights at a bridge, in size
	mostAside  = 300000   // lengths in front of a bridge and behind it
	mostBorne  = 10000000 // tensions over a bridge, and the down-bearing that is wanted, in size
	mostShare  = 1000000  // numerators and denominators of loads and limits
)

// CheckBearing returns ErrRange for a height or a length that is out of range.
func CheckBearing(b api.Bearing) api.Errno {
	heights := vector{b.Front, b.Bridge, b.Back}
	if !heights.all(within(mostHeight)) || b.Ahead < 1 || b.Ahead > mostAside || b.Behind < 1 || b.Behind > mostAside {
		return api.ErrRange
	}
	return api.OK
}

// rise returns the down-bearing of a right bearing for the tension 1, as a numerator and a denominator above 0.
func rise(b api.Bearing) (num, den int) {
	return (b.Bridge-b.Front)*b.Behind + (b.Bridge-b.Back)*b.Ahead, b.Ahead * b.Behind
}

// DownBearing returns the down-bearing for a tension.
func DownBearing(b api.Bearing, tension int) (api.Frac, api.Errno) {
	if e := CheckBearing(b); e != api.OK {
		return api.Frac{}, e
	}
	if tension < 0 || tension > mostBorne {
		return api.Frac{}, api.ErrRange
	}
	num, den := rise(b)
	return lowest(tension*num, den), api.OK
}

// loadOf returns the least down-bearing for tensions, rounded down, and the greatest one, rounded up.
func loadOf(b api.Bearing, tension api.Range) api.Range {
	num, den := rise(b)
	if num < 0 {
		tension.Lo, tension.Hi = tension.Hi, tension.Lo
	}
	return api.Range{Lo: quotientDown(tension.Lo*num, den), Hi: quotientUp(tension.Hi*num, den)}
}

// BridgeLoad returns the sum of the down-bearings for their tensions.
func BridgeLoad(l []api.Bearing, tensions []api.Range) (api.Range, api.Errno) {
	if len(l) > api.MaxForces {
		return api.Range{}, api.ErrLarge
	}
	if len(l) != len(tensions) {
		return api.Range{}, api.ErrShape
	}
	var sum api.Range
	for i, b := range l {
		if e := CheckBearing(b); e != api.OK {
			return api.Range{}, e
		}
		if !isTension(tensions[i], mostBorne) {
			return api.Range{}, api.ErrRange
		}
		load := loadOf(b, tensions[i])
		sum.Lo += load.Lo
		sum.Hi += load.Hi
	}
	return sum, api.OK
}

// LeastHeight returns the least height of the bridge with which the down-bearing is at least what is wanted.
func LeastHeight(b api.Bearing, tension, want int) (int, api.Errno) {
	if e := CheckBearing(b); e != api.OK {
		return 0, e
	}
	wanted := within(mostBorne)
	if tension < 0 || !wanted(tension) || !wanted(want) {
		return 0, api.ErrRange
	}
	suffices := func(above int) bool {
		b.Bridge = above - mostHeight
		num, den := rise(b)
		return tension*num >= want*den
	}
	// A higher bridge never has less down-bearing, and so the heights that suffice stand together.
	height := sort.Search(2*mostHeight+1, suffices) - mostHeight
	if height > mostHeight {
		return 0, api.ErrNone
	}
	return height, api.OK
}

// checkShare returns the error of a load or a limit.
func checkShare(f api.Frac) api.Errno {
	if number.CheckFrac(f) == api.ErrForm {
		return api.ErrForm
	}
	if f.Num < 0 || f.Num > mostShare || f.Den > mostShare {
		return api.ErrRange
	}
	return api.OK
}

// Margin returns 1000 times the limit, divided by the load, rounded down.
func Margin(load, limit api.Frac) (int, api.Errno) {
	for _, f := range [2]api.Frac{load, limit} {
		if e := checkShare(f); e != api.OK {
			return 0, e
		}
	}
	if load.Num == 0 {
		return 0, api.ErrZero
	}
	return quotientDown(1000*limit.Num*load.Den, limit.Den*load.Num), api.OK
}
