package number

import (
	"cmp"
	"strconv"
	"strings"

	"agraffe/api"
)

const (
	mostTimes = 1000000000 // what fractions and pitches are multiplied by at most
	mostText  = 9999999999 // the greatest number of ten digits
)

// CheckFrac returns ErrForm for a fraction that is not in lowest terms with Den above 0, ErrRange for one that is too great in size.
func CheckFrac(f api.Frac) api.Errno {
	if f.Den < 1 || commonDivisor(f.Num, f.Den) != 1 {
		return api.ErrForm
	}
	if !within(f.Num, api.MaxPart) || f.Den > api.MaxPart {
		return api.ErrRange
	}
	return api.OK
}

// checkFracs returns the error of the first fraction that has one.
func checkFracs(l ...api.Frac) api.Errno {
	for _, f := range l {
		if e := CheckFrac(f); e != api.OK {
			return e
		}
	}
	return api.OK
}

// commonDen returns the least common multiple of the denominators of valid fractions, or 0 if it is greater than most.
func commonDen(most int, l ...api.Frac) int {
	multiple := 1
	for _, f := range l {
		step := f.Den / commonDivisor(f.Den, multiple)
		if multiple > most/step {
			return 0
		}
		multiple *= step
	}
	return multiple
}

// lowest returns num / den (den above 0) in lowest terms.
func lowest(num, den int) (api.Frac, api.Errno) {
	divisor := commonDivisor(num, den)
	f := api.Frac{Num: num / divisor, Den: den / divisor}
	if CheckFrac(f) != api.OK {
		return api.Frac{}, api.ErrLarge
	}
	return f, api.OK
}

// Add returns the sum of two fractions.
func Add(a, b api.Frac) (api.Frac, api.Errno) {
	if e := checkFracs(a, b); e != api.OK {
		return api.Frac{}, e
	}
	den := commonDen(api.MaxPart*api.MaxPart, a, b)
	return lowest(a.Num*(den/a.Den)+b.Num*(den/b.Den), den)
}

// Times returns the product of two fractions.
func Times(a, b api.Frac) (api.Frac, api.Errno) {
	if e := checkFracs(a, b); e != api.OK {
		return api.Frac{}, e
	}
	return lowest(a.Num*b.Num, a.Den*b.Den)
}

// Divide returns a divided by b.
func Divide(a, b api.Frac) (api.Frac, api.Errno) {
	if e := checkFracs(a, b); e != api.OK {
		return api.Frac{}, e
	}
	if b.Num == 0 {
		return api.Frac{}, api.ErrZero
	}
	if b.Num < 0 {
		return lowest(-a.Num*b.Den, a.Den*-b.Num)
	}
	return lowest(a.Num*b.Den, a.Den*b.Num)
}

// Compare returns -1, 0 or 1 as a is less than, equal to, or greater than b.
func Compare(a, b api.Frac) (int, api.Errno) {
	if e := checkFracs(a, b); e != api.OK {
		return 0, e
	}
	return cmp.Compare(a.Num*b.Den, b.Num*a.Den), api.OK
}

// Rounded returns times multiplied by f, rounded down and rounded up.
func Rounded(f api.Frac, times int) (api.Range, api.Errno) {
	if e := CheckFrac(f); e != api.OK {
		return api.Range{}, e
	}
	if times < 1 || times > mostTimes {
		return api.Range{}, api.ErrRange
	}
	product := times * f.Num
	return api.Range{Lo: quotientDown(product, f.Den), Hi: quotientUp(product, f.Den)}, api.OK
}

// FormatFrac returns the text of a fraction, also of an invalid one.
func FormatFrac(f api.Frac) string {
	if f.Den == 1 {
		return strconv.Itoa(f.Num)
	}
	return strconv.Itoa(f.Num) + "/" + strconv.Itoa(f.Den)
}

// ParseFrac returns the fraction with a text.
func ParseFrac(s string) (api.Frac, api.Errno) {
	above, below, slash := strings.Cut(s, "/")
	num, numeric := parseNumber(above)
	if !numeric {
		return api.Frac{}, api.ErrSyntax
	}
	den := 1
	if slash {
		// A denominator of 1 has to be left out.
		if den, numeric = parseNumber(below); !numeric || den <= 1 {
			return api.Frac{}, api.ErrSyntax
		}
	}
	f := api.Frac{Num: num, Den: den}
	if e := CheckFrac(f); e != api.OK {
		return api.Frac{}, e
	}
	return f, api.OK
}

// parseNumber reads a number of at most ten digits. One that is written back in another way was not written as a text has to be.
func parseNumber(s string) (int, bool) {
	n, err := strconv.Atoi(s)
	if err != nil || !within(n, mostText) || strconv.Itoa(n) != s {
		return 0, false
	}
	return n, true
}
