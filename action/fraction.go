package action

import (
	"cmp"

	"agraffe/api"
)

// within says whether a number is from low to high.
func within(n, low, high int) bool {
	return low <= n && n <= high
}

// whole returns a whole number as a fraction.
func whole(n int) api.Frac {
	return api.Frac{Num: n, Den: 1}
}

// commonDivisor returns the greatest common divisor of a number, also of the least int, which has no opposite, and one above 0.
func commonDivisor(n, above int) int {
	rest := uint64(n)
	if n < 0 {
		rest = -rest
	}
	divisor := uint64(above)
	for rest > 0 {
		divisor, rest = rest, divisor%rest
	}
	return int(divisor)
}

// isSmall says whether a fraction in lowest terms is a small number.
func isSmall(f api.Frac) bool {
	return within(f.Num, -api.MaxPart, api.MaxPart) && f.Den <= api.MaxPart
}

// checkFrac returns ErrForm for a fraction that is not in lowest terms with Den above 0, ErrRange for one that is not small.
func checkFrac(f api.Frac) api.Errno {
	if f.Den < 1 || commonDivisor(f.Num, f.Den) != 1 {
		return api.ErrForm
	}
	if !isSmall(f) {
		return api.ErrRange
	}
	return api.OK
}

// compare returns -1, 0 or 1 as a small number is less than, equal to, or greater than another one.
func compare(a, b api.Frac) int {
	return cmp.Compare(a.Num*b.Den, b.Num*a.Den)
}

// size returns a small number without its sign.
func size(f api.Frac) api.Frac {
	return api.Frac{Num: max(f.Num, -f.Num), Den: f.Den}
}

// way is a calculation with small numbers. From the first number on that is not small it is large, and its results mean nothing.
type way struct{ large bool }

// lowest returns num / den (den above 0) in lowest terms.
func (w *way) lowest(num, den int) api.Frac {
	// Behind a number that was not small, den may be 0.
	if w.large {
		return api.Frac{}
	}
	divisor := commonDivisor(num, den)
	f := api.Frac{Num: num / divisor, Den: den / divisor}
	w.large = !isSmall(f)
	return f
}

func (w *way) plus(a, b api.Frac) api.Frac {
	return w.lowest(a.Num*b.Den+b.Num*a.Den, a.Den*b.Den)
}

func (w *way) less(a, b api.Frac) api.Frac {
	return w.lowest(a.Num*b.Den-b.Num*a.Den, a.Den*b.Den)
}

func (w *way) times(a, b api.Frac) api.Frac {
	return w.lowest(a.Num*b.Num, a.Den*b.Den)
}

// over returns a divided by b, which is not 0.
func (w *way) over(a, b api.Frac) api.Frac {
	num, den := a.Num*b.Den, a.Den*b.Num
	if den < 0 {
		num, den = -num, -den
	}
	return w.lowest(num, den)
}

// result returns what the way came to, or ErrLarge.
func (w *way) result(f api.Frac) (api.Frac, api.Errno) {
	if w.large {
		return api.Frac{}, api.ErrLarge
	}
	return f, api.OK
}
