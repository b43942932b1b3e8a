// Package number is chapter 1: fractions, pitches, ranges, systems of differences, lines. See shared/doc/01-number.md.
package number

import "agraffe/api"

// within says whether a number is at most most in size. It does not negate the number: the least int has no opposite.
func within(n, most int) bool {
	return -most <= n && n <= most
}

// size returns a number without its sign, also that of the least int.
func size(n int) uint64 {
	if n < 0 {
		return -uint64(n)
	}
	return uint64(n)
}

// commonDivisor returns the greatest common divisor of numbers of which one at least is above 0.
func commonDivisor(numbers ...int) int {
	divisor := uint64(0)
	for _, n := range numbers {
		rest := size(n)
		for rest > 0 {
			divisor, rest = rest, divisor%rest
		}
	}
	return int(divisor)
}

// quotientDown returns a divided by b (above 0), rounded down.
func quotientDown(a, b int) int {
	quotient := a / b
	if a%b < 0 {
		quotient--
	}
	return quotient
}

// quotientUp returns a divided by b (above 0), rounded up.
func quotientUp(a, b int) int {
	return -quotientDown(-a, b)
}

// greatest returns the greatest number from low to high that fits. low is known to fit, and fits is not asked for it.
func greatest(low, high int, fits func(n int) bool) int {
	for low < high {
		middle := low + (high-low+1)/2
		if fits(middle) {
			low = middle
		} else {
			high = middle - 1
		}
	}
	return low
}

// Root returns the greatest whole number whose k-th power is at most n.
func Root(n, k int) (int, api.Errno) {
	if n < 0 || n > 1000000000000000000 || k < 1 || k > 12 {
		return 0, api.ErrRange
	}
	// Dividing k times instead of multiplying never overflows.
	fits := func(root int) bool {
		left := n
		for range k {
			left /= root
		}
		return left >= 1
	}
	return greatest(0, n, fits), api.OK
}
