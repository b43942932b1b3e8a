package plate

import "agraffe/api"

const (
	mostAlong = 20000   // places along bars and girders, in size
	mostLoad  = 1000000 // loads on them, in size
)

// checkLoads returns the error of loads that lie from a place to another one.
func checkLoads(l [][2]int, from, to int) api.Errno {
	if len(l) > api.MaxLoads {
		return api.ErrLarge
	}
	carried := within(mostLoad)
	for _, load := range l {
		if load[0] < from || load[0] > to || !carried(load[1]) {
			return api.ErrRange
		}
	}
	return api.OK
}

// CheckBars returns ErrShape for a wrong number of bars, ErrRange for a place that is too great in size, ErrOrder for one that does not ascend.
func CheckBars(at []int) api.Errno {
	if len(at) < 2 || len(at) > api.MaxBars {
		return api.ErrShape
	}
	along := within(mostAlong)
	for i, bar := range at {
		if !along(bar) {
			return api.ErrRange
		}
		if i > 0 && bar <= at[i-1] {
			return api.ErrOrder
		}
	}
	return api.OK
}

// barLoad returns the load of a bar by the lever rule. The bars next to it are at before and behind; where there is none, any place farther out does.
func barLoad(before, bar, behind int, l [][2]int) api.Frac {
	rising, falling := 0, 0
	for _, load := range l {
		place, newtons := load[0], load[1]
		if before < place && place <= bar {
			rising += (place - before) * newtons
		}
		if bar < place && place < behind {
			falling += (behind - place) * newtons
		}
	}
	// rising is to be divided by the way from before, falling by the way to behind.
	return lowest(rising*(behind-bar)+falling*(bar-before), (bar-before)*(behind-bar))
}

// Distribute returns the load of each bar by the lever rule.
func Distribute(at []int, l [][2]int) ([]api.Frac, api.Errno) {
	if e := CheckBars(at); e != api.OK {
		return nil, e
	}
	last := len(at) - 1
	if e := checkLoads(l, at[0], at[last]); e != api.OK {
		return nil, e
	}
	bars := make([]api.Frac, len(at))
	for i, bar := range at {
		before, behind := bar-1, bar+1
		if i > 0 {
			before = at[i-1]
		}
		if i < last {
			behind = at[i+1]
		}
		bars[i] = barLoad(before, bar, behind, l)
	}
	return bars, api.OK
}
