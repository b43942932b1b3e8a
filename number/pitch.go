package number

import "agraffe/api"

// exponents are those of 2, 3 and 5; what they are divided by stands beside them.
type exponents [3]int

func exponentsOf(p api.Pitch) exponents {
	return exponents{p.Two, p.Three, p.Five}
}

// pitchOf returns the pitch with exponents over den (above 0) in normal form.
func pitchOf(over exponents, den int) (api.Pitch, api.Errno) {
	divisor := commonDivisor(over[0], over[1], over[2], den)
	p := api.Pitch{Two: over[0] / divisor, Three: over[1] / divisor, Five: over[2] / divisor, Den: den / divisor}
	if CheckPitch(p) != api.OK {
		return api.Pitch{}, api.ErrLarge
	}
	return p, api.OK
}

// sides returns two numbers whose quotient is the product of the powers of 2, 3 and 5 with whole exponents.
func (e exponents) sides() (natural, natural) {
	above, below := natural{1}, natural{1}
	for i, prime := range [3]uint64{2, 3, 5} {
		if e[i] > 0 {
			above = above.timesPower(prime, e[i])
		} else {
			below = below.timesPower(prime, -e[i])
		}
	}
	return above, below
}

// against1 returns -1, 0 or 1 as the product of the powers with whole exponents is less than, equal to, or greater than 1.
func (e exponents) against1() int {
	if e == (exponents{}) {
		return 0
	}
	// A root of the product lies on the same side of 1, and is much smaller.
	root := commonDivisor(e[0], e[1], e[2])
	for i := range e {
		e[i] /= root
	}
	above, below := e.sides()
	return above.compare(below)
}

// CheckPitch returns ErrRange for a pitch that is not valid.
func CheckPitch(p api.Pitch) api.Errno {
	if p.Den < 1 || p.Den > api.MaxDen {
		return api.ErrRange
	}
	for _, n := range exponentsOf(p) {
		if !within(n, api.MaxExponent) {
			return api.ErrRange
		}
	}
	return api.OK
}

// checkPitches returns the error of the first pitch that has one.
func checkPitches(l ...api.Pitch) api.Errno {
	for _, p := range l {
		if e := CheckPitch(p); e != api.OK {
			return e
		}
	}
	return api.OK
}

// Normal returns a pitch in normal form.
func Normal(p api.Pitch) (api.Pitch, api.Errno) {
	if e := CheckPitch(p); e != api.OK {
		return api.Pitch{}, e
	}
	return pitchOf(exponentsOf(p), p.Den)
}

// joined returns the exponents of p joined with the power of q (1 or -1), over p.Den q.Den.
func joined(p, q api.Pitch, power int) exponents {
	sum := exponentsOf(p)
	for i, n := range exponentsOf(q) {
		sum[i] = sum[i]*q.Den + power*n*p.Den
	}
	return sum
}

// Join returns the product of two pitches.
func Join(p, q api.Pitch) (api.Pitch, api.Errno) {
	if e := checkPitches(p, q); e != api.OK {
		return api.Pitch{}, e
	}
	return pitchOf(joined(p, q, 1), p.Den*q.Den)
}

// Power returns the power of a pitch with the exponent by.
func Power(p api.Pitch, by api.Frac) (api.Pitch, api.Errno) {
	if e := CheckPitch(p); e != api.OK {
		return api.Pitch{}, e
	}
	if e := CheckFrac(by); e != api.OK {
		return api.Pitch{}, e
	}
	power := exponentsOf(p)
	for i := range power {
		power[i] *= by.Num
	}
	return pitchOf(power, p.Den*by.Den)
}

// Order returns -1, 0 or 1 as p is less than, equal to, or greater than q.
func Order(p, q api.Pitch) (int, api.Errno) {
	if e := checkPitches(p, q); e != api.OK {
		return 0, e
	}
	return joined(p, q, -1).against1(), api.OK
}

// Octave returns the pitch from 1 up to 2 that is p divided by a power of 2, and the exponent of this power.
func Octave(p api.Pitch) (api.Pitch, int, api.Errno) {
	if e := CheckPitch(p); e != api.OK {
		return api.Pitch{}, 0, e
	}
	lowered := func(octaves int) exponents {
		over := exponentsOf(p)
		over[0] -= octaves * p.Den
		return over
	}
	reaches := func(octaves int) bool { return lowered(octaves).against1() >= 0 }
	// 2, 3 and 5 together are 30, which is less than 5 octaves: no pitch is as many as farthest away from 1.
	farthest := 5*api.MaxExponent/p.Den + 1
	octaves := greatest(-farthest, farthest, reaches)
	rest, e := pitchOf(lowered(octaves), p.Den)
	if e != api.OK {
		return api.Pitch{}, 0, e
	}
	return rest, octaves, api.OK
}

// against returns a function that returns -1, 0 or 1 as a number from 0 on is less than, equal to, or greater than times p.
// The powers that no asked number changes are multiplied once.
func against(p api.Pitch, times int) func(n int) int {
	goal, factor := exponentsOf(p).sides()
	goal = goal.timesPower(uint64(times), p.Den)
	var power natural
	return func(n int) int {
		power = append(power[:0], factor...).timesPower(uint64(n), p.Den)
		return power.compare(goal)
	}
}

// Enclose returns times multiplied by a pitch, rounded down and rounded up.
func Enclose(p api.Pitch, times int) (api.Range, api.Errno) {
	p, e := Normal(p)
	if e != api.OK {
		return api.Range{}, e
	}
	if times < 1 || times > mostTimes {
		return api.Range{}, api.ErrRange
	}
	asked := against(p, times)
	low := greatest(0, api.MaxNumber, func(n int) bool { return asked(n) <= 0 })
	if asked(low) == 0 {
		return api.Range{Lo: low, Hi: low}, api.OK
	}
	if low == api.MaxNumber {
		return api.Range{}, api.ErrLarge
	}
	return api.Range{Lo: low, Hi: low + 1}, api.OK
}
