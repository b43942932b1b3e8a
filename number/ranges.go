package number

import (
	"math/bits"

	"agraffe/api"
)

// CheckRange returns ErrRange for a bound that is too great in size, ErrOrder if Lo is greater than Hi.
func CheckRange(r api.Range) api.Errno {
	if !within(r.Lo, api.MaxNumber) || !within(r.Hi, api.MaxNumber) {
		return api.ErrRange
	}
	if r.Lo > r.Hi {
		return api.ErrOrder
	}
	return api.OK
}

// checkRanges returns the error of the first range that has one.
func checkRanges(l ...api.Range) api.Errno {
	for _, r := range l {
		if e := CheckRange(r); e != api.OK {
			return e
		}
	}
	return api.OK
}

// fitting returns a range with Lo at most Hi, or ErrLarge if it is not valid.
func fitting(r api.Range) (api.Range, api.Errno) {
	if CheckRange(r) != api.OK {
		return api.Range{}, api.ErrLarge
	}
	return r, api.OK
}

// Plus returns the sums of the bounds of two ranges.
func Plus(a, b api.Range) (api.Range, api.Errno) {
	if e := checkRanges(a, b); e != api.OK {
		return api.Range{}, e
	}
	return fitting(api.Range{Lo: a.Lo + b.Lo, Hi: a.Hi + b.Hi})
}

// Scaled returns the least range with whole bounds that contains all numbers of r multiplied by by.
func Scaled(r api.Range, by api.Frac) (api.Range, api.Errno) {
	if e := CheckRange(r); e != api.OK {
		return api.Range{}, e
	}
	if e := CheckFrac(by); e != api.OK {
		return api.Range{}, e
	}
	if by.Num < 0 {
		r.Lo, r.Hi = r.Hi, r.Lo
	}
	low, lowFits := enclosedProduct(r.Lo, by)
	high, highFits := enclosedProduct(r.Hi, by)
	if !lowFits || !highFits {
		return api.Range{}, api.ErrLarge
	}
	return fitting(api.Range{Lo: low.Lo, Hi: high.Hi})
}

// enclosedProduct returns n times by, rounded down and rounded up, or false if it is above MaxNumber in size.
// The product itself may need more than the 64 bits of an int.
func enclosedProduct(n int, by api.Frac) (api.Range, bool) {
	over, low := bits.Mul64(size(n), size(by.Num))
	if over >= uint64(by.Den) {
		return api.Range{}, false
	}
	quotient, rest := bits.Div64(over, low, uint64(by.Den))
	if quotient > api.MaxNumber {
		return api.Range{}, false
	}
	product := api.Range{Lo: int(quotient), Hi: int(quotient)}
	if rest > 0 {
		product.Hi++
	}
	if (n < 0) != (by.Num < 0) {
		product = api.Range{Lo: -product.Hi, Hi: -product.Lo}
	}
	return product, true
}

// Meet returns the range that two ranges have in common.
func Meet(a, b api.Range) (api.Range, api.Errno) {
	if e := checkRanges(a, b); e != api.OK {
		return api.Range{}, e
	}
	common := api.Range{Lo: max(a.Lo, b.Lo), Hi: min(a.Hi, b.Hi)}
	if common.Lo > common.Hi {
		return api.Range{}, api.ErrNone
	}
	return common, api.OK
}
