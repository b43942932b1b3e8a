package number_test

import (
	"math"
	"math/big"
	"math/rand"
	"testing"

	"agraffe/api"
	"agraffe/number"
)

func pitch(two, three, five, den int) api.Pitch {
	return api.Pitch{Two: two, Three: three, Five: five, Den: den}
}

// invalidPitches are pitches that CheckPitch refuses with ErrRange.
var invalidPitches = []api.Pitch{
	{}, pitch(0, 0, 0, 13), pitch(1, 0, 0, -1), pitch(401, 0, 0, 1), pitch(0, 401, 0, 1), pitch(0, 0, 401, 1), pitch(-401, 0, 0, 1), pitch(0, -401, 0, 1), pitch(0, 0, -401, 1),
	pitch(math.MinInt, 0, 0, 1), pitch(0, math.MinInt, 0, 1), pitch(0, 0, math.MinInt, 1), pitch(0, 0, 0, math.MinInt), pitch(math.MaxInt, math.MaxInt, math.MaxInt, math.MaxInt),
}

// randomPitch returns a valid pitch, with smaller exponents more often than not.
func randomPitch(r *rand.Rand) api.Pitch {
	most := []int{1, 12, 60, 400}[r.Intn(4)]
	exponent := func() int { return r.Intn(2*most+1) - most }
	return pitch(exponent(), exponent(), exponent(), r.Intn(12)+1)
}

// powers returns two numbers whose quotient is the pitch to the power Den k.
func powers(p api.Pitch, k int) (above, below *big.Int) {
	above, below = big.NewInt(1), big.NewInt(1)
	for i, e := range []int{p.Two, p.Three, p.Five} {
		prime := big.NewInt([]int64{2, 3, 5}[i])
		if e > 0 {
			above.Mul(above, prime.Exp(prime, big.NewInt(int64(e*k)), nil))
		} else {
			below.Mul(below, prime.Exp(prime, big.NewInt(int64(-e*k)), nil))
		}
	}
	return above, below
}

// exactOrder compares two pitches by whole powers.
func exactOrder(p, q api.Pitch) int {
	pa, pb := powers(p, q.Den)
	qa, qb := powers(q, p.Den)
	return pa.Mul(pa, qb).Cmp(qa.Mul(qa, pb))
}

func gcd(numbers ...int) int {
	x := new(big.Int)
	for _, n := range numbers {
		x.GCD(nil, nil, x, new(big.Int).Abs(big.NewInt(int64(n))))
	}
	return int(x.Int64())
}

func isNormal(p api.Pitch) bool {
	return number.CheckPitch(p) == api.OK && gcd(p.Two, p.Three, p.Five, p.Den) == 1
}

func TestP1_3_CheckPitch(t *testing.T) {
	for _, p := range invalidPitches {
		if e := number.CheckPitch(p); e != api.ErrRange {
			t.Errorf("CheckPitch(%v) = %v", p, e)
		}
	}
	for _, p := range []api.Pitch{pitch(0, 0, 0, 1), pitch(0, 0, 0, 12), pitch(400, 400, 400, 12), pitch(-400, -400, -400, 1), pitch(6, 0, 0, 12)} {
		if e := number.CheckPitch(p); e != api.OK {
			t.Errorf("CheckPitch(%v) = %v", p, e)
		}
	}
}

func TestP1_3_ErrorsOfArguments(t *testing.T) {
	good := pitch(1, 0, 0, 1)
	for _, p := range invalidPitches {
		if q, e := number.Normal(p); e != api.ErrRange || q != (api.Pitch{}) {
			t.Errorf("Normal(%v) = %v, %v", p, q, e)
		}
		for _, pair := range [][2]api.Pitch{{p, good}, {good, p}} {
			if q, e := number.Join(pair[0], pair[1]); e != api.ErrRange || q != (api.Pitch{}) {
				t.Errorf("Join(%v) = %v, %v", pair, q, e)
			}
			if c, e := number.Order(pair[0], pair[1]); e != api.ErrRange || c != 0 {
				t.Errorf("Order(%v) = %v, %v", pair, c, e)
			}
		}
		if q, e := number.Power(p, frac(2, 2)); e != api.ErrRange || q != (api.Pitch{}) {
			t.Errorf("Power(%v) = %v, %v", p, q, e)
		}
		if q, n, e := number.Octave(p); e != api.ErrRange || q != (api.Pitch{}) || n != 0 {
			t.Errorf("Octave(%v) = %v, %v, %v", p, q, n, e)
		}
		if r, e := number.Enclose(p, 1); e != api.ErrRange || r != (api.Range{}) {
			t.Errorf("Enclose(%v) = %v, %v", p, r, e)
		}
	}
	for _, c := range invalidFracs {
		if q, e := number.Power(good, c.f); e != c.want || q != (api.Pitch{}) {
			t.Errorf("Power(.., %v) = %v, %v", c.f, q, e)
		}
	}
}

func TestP1_3_Results(t *testing.T) {
	type result struct {
		p api.Pitch
		e api.Errno
	}
	got := func(p api.Pitch, e api.Errno) result { return result{p, e} }
	fifth := pitch(-1, 1, 0, 1)
	for _, c := range []struct {
		name      string
		got, want result
	}{
		{"Normal 6/12", got(number.Normal(pitch(6, 0, 0, 12))), result{p: pitch(1, 0, 0, 2)}},
		{"Normal of 1", got(number.Normal(pitch(0, 0, 0, 7))), result{p: pitch(0, 0, 0, 1)}},
		{"Normal by sign", got(number.Normal(pitch(-6, 4, 0, 10))), result{p: pitch(-3, 2, 0, 5)}},
		{"Normal as it is", got(number.Normal(pitch(6, 4, 9, 12))), result{p: pitch(6, 4, 9, 12)}},
		{"Normal of whole exponents", got(number.Normal(pitch(4, 8, -12, 1))), result{p: pitch(4, 8, -12, 1)}},
		{"Join 1/12, 1/4", got(number.Join(pitch(1, 0, 0, 12), pitch(1, 0, 0, 4))), result{p: pitch(1, 0, 0, 3)}},
		{"Join to 1", got(number.Join(pitch(5, -7, 3, 11), pitch(-5, 7, -3, 11))), result{p: pitch(0, 0, 0, 1)}},
		{"Join 1/12, 1/7", got(number.Join(pitch(1, 0, 0, 12), pitch(1, 0, 0, 7))), result{e: api.ErrLarge}},
		{"Join 7/7, 1/12", got(number.Join(pitch(7, 0, 0, 7), pitch(1, 0, 0, 12))), result{p: pitch(13, 0, 0, 12)}},
		{"Join 1/10, 2/5", got(number.Join(pitch(1, 0, 0, 10), pitch(0, 2, 0, 5))), result{p: pitch(1, 4, 0, 10)}},
		{"Join to 400", got(number.Join(pitch(200, 0, -200, 1), pitch(200, 0, -200, 1))), result{p: pitch(400, 0, -400, 1)}},
		{"Join to 401", got(number.Join(pitch(200, 0, 0, 1), pitch(201, 0, 0, 1))), result{e: api.ErrLarge}},
		{"Join to -401 of 3", got(number.Join(pitch(0, -200, 0, 1), pitch(0, -201, 0, 1))), result{e: api.ErrLarge}},
		{"Join 400/12, 400/12", got(number.Join(pitch(400, 0, 0, 12), pitch(400, 0, 0, 12))), result{p: pitch(200, 0, 0, 3)}},
		{"Power 1/4", got(number.Power(fifth, frac(1, 4))), result{p: pitch(-1, 1, 0, 4)}},
		{"Power 0", got(number.Power(pitch(5, 3, 1, 7), frac(0, 1))), result{p: pitch(0, 0, 0, 1)}},
		{"Power -1", got(number.Power(pitch(-1, 1, 0, 2), frac(-1, 1))), result{p: pitch(1, -1, 0, 2)}},
		{"Power -2/3", got(number.Power(fifth, frac(-2, 3))), result{p: pitch(2, -2, 0, 3)}},
		{"Power 400", got(number.Power(fifth, frac(400, 1))), result{p: pitch(-400, 400, 0, 1)}},
		{"Power 401", got(number.Power(fifth, frac(401, 1))), result{e: api.ErrLarge}},
		{"Power 1/13", got(number.Power(fifth, frac(1, 13))), result{e: api.ErrLarge}},
		{"Power 1/13 of 13", got(number.Power(pitch(13, 26, 0, 1), frac(1, 13))), result{p: pitch(1, 2, 0, 1)}},
		{"Power most", got(number.Power(pitch(400, 400, 400, 12), frac(api.MaxPart, 1))), result{e: api.ErrLarge}},
		{"Power 1/most", got(number.Power(pitch(400, 400, 399, 12), frac(1, api.MaxPart))), result{e: api.ErrLarge}},
		{"Power most of 1", got(number.Power(pitch(0, 0, 0, 12), frac(999999999, api.MaxPart))), result{p: pitch(0, 0, 0, 1)}},
		{"an octave", got(number.Power(pitch(1, 0, 0, 12), frac(12, 1))), result{p: pitch(1, 0, 0, 1)}},
	} {
		if c.got != c.want {
			t.Errorf("%s: %v, want %v", c.name, c.got, c.want)
		}
	}
}

func TestP1_3_NormalKeepsTheValue(t *testing.T) {
	r := rand.New(rand.NewSource(5))
	for range 3000 {
		p := randomPitch(r)
		q, e := number.Normal(p)
		if e != api.OK || !isNormal(q) || p.Two*q.Den != q.Two*p.Den || p.Three*q.Den != q.Three*p.Den || p.Five*q.Den != q.Five*p.Den {
			t.Errorf("Normal(%v) = %v, %v", p, q, e)
		}
	}
}

func TestP1_3_JoinAndPowerAgainstBig(t *testing.T) {
	r := rand.New(rand.NewSource(6))
	normal := func(two, three, five *big.Rat) (api.Pitch, api.Errno) {
		den := int64(1)
		for _, x := range []*big.Rat{two, three, five} {
			step := new(big.Int).GCD(nil, nil, big.NewInt(den), x.Denom())
			if den = den / step.Int64() * x.Denom().Int64(); den > api.MaxDen {
				return api.Pitch{}, api.ErrLarge
			}
		}
		scaled := func(x *big.Rat) int { return int(new(big.Rat).Mul(x, big.NewRat(den, 1)).Num().Int64()) }
		p := pitch(scaled(two), scaled(three), scaled(five), int(den))
		for _, n := range []int{p.Two, p.Three, p.Five} {
			if n < -api.MaxExponent || n > api.MaxExponent {
				return api.Pitch{}, api.ErrLarge
			}
		}
		return p, api.OK
	}
	over := func(n, den int) *big.Rat { return big.NewRat(int64(n), int64(den)) }
	for range 5000 {
		p, q := randomPitch(r), randomPitch(r)
		sum := func(a, b int) *big.Rat { return new(big.Rat).Add(over(a, p.Den), over(b, q.Den)) }
		want, wantE := normal(sum(p.Two, q.Two), sum(p.Three, q.Three), sum(p.Five, q.Five))
		if got, e := number.Join(p, q); got != want || e != wantE {
			t.Errorf("Join(%v, %v) = %v, %v, want %v, %v", p, q, got, e, want, wantE)
		}
		by := randomFrac(r, 12)
		times := func(a int) *big.Rat { return new(big.Rat).Mul(over(a, p.Den), rat(by)) }
		want, wantE = normal(times(p.Two), times(p.Three), times(p.Five))
		if got, e := number.Power(p, by); got != want || e != wantE {
			t.Errorf("Power(%v, %v) = %v, %v, want %v, %v", p, by, got, e, want, wantE)
		}
	}
}

func TestP1_3_Order(t *testing.T) {
	for _, c := range []struct {
		p, q api.Pitch
		want int
	}{
		{pitch(-12, 12, 0, 1), pitch(7, 0, 0, 1), 1},
		{pitch(6, 0, 0, 12), pitch(1, 0, 0, 2), 0},
		{pitch(0, 0, 0, 12), pitch(0, 0, 0, 1), 0},
		{pitch(7, 0, 0, 12), pitch(-1, 1, 0, 1), -1},
		{pitch(-4, 4, -1, 1), pitch(0, 0, 0, 1), 1},
		{pitch(1, 0, 0, 12), pitch(1, 0, 0, 11), -1},
		{pitch(-400, 0, 0, 1), pitch(0, 0, -400, 1), 1},
		{pitch(400, 400, 400, 1), pitch(400, 400, 400, 12), 1},
		{pitch(-400, -400, -400, 1), pitch(400, 400, 400, 11), -1},
		// Powers of 3 and 2 that are nearly the same.
		{pitch(-84, 53, 0, 1), pitch(0, 0, 0, 1), 1},
		{pitch(84, -53, 0, 12), pitch(0, 0, 0, 11), -1},
		{pitch(0, 306, 0, 12), pitch(400, 0, 0, 10), 1},
	} {
		if got, e := number.Order(c.p, c.q); got != c.want || e != api.OK {
			t.Errorf("Order(%v, %v) = %v, %v, want %v", c.p, c.q, got, e, c.want)
		}
		if got, e := number.Order(c.q, c.p); got != -c.want || e != api.OK {
			t.Errorf("Order(%v, %v) = %v, %v", c.q, c.p, got, e)
		}
	}
	r := rand.New(rand.NewSource(7))
	for range 1500 {
		p, q := randomPitch(r), randomPitch(r)
		if got, e := number.Order(p, q); e != api.OK || got != exactOrder(p, q) {
			t.Errorf("Order(%v, %v) = %v, %v", p, q, got, e)
		}
	}
}

// TestP1_3_OrderOfNearPitches compares pitches with great exponents that differ by less than a thousandth of a cent.
func TestP1_3_OrderOfNearPitches(t *testing.T) {
	logs := [3]float64{1, math.Log2(3), math.Log2(5)}
	value := func(p api.Pitch) float64 {
		return (float64(p.Two) + float64(p.Three)*logs[1] + float64(p.Five)*logs[2]) / float64(p.Den)
	}
	r, near := rand.New(rand.NewSource(8)), 0
	for near < 40 {
		p, q := pitch(0, r.Intn(801)-400, r.Intn(801)-400, 11), pitch(0, r.Intn(801)-400, r.Intn(801)-400, 12)
		for p.Two = -400; p.Two <= 400; p.Two++ {
			q.Two = int(math.Round((value(p) - value(pitch(0, q.Three, q.Five, 12))) * 12))
			if q.Two < -400 || q.Two > 400 || math.Abs(value(p)-value(q)) > 1e-6 {
				continue
			}
			near++
			if got, e := number.Order(p, q); e != api.OK || got != exactOrder(p, q) {
				t.Errorf("Order(%v, %v) = %v, %v", p, q, got, e)
			}
		}
	}
}

func TestP1_3_Octave(t *testing.T) {
	for _, c := range []struct {
		p, want api.Pitch
		octaves int
		e       api.Errno
	}{
		{pitch(0, 1, 0, 1), pitch(-1, 1, 0, 1), 1, api.OK},
		{pitch(0, 0, 0, 5), pitch(0, 0, 0, 1), 0, api.OK},
		{pitch(1, 0, 0, 1), pitch(0, 0, 0, 1), 1, api.OK},
		{pitch(-1, 0, 0, 12), pitch(11, 0, 0, 12), -1, api.OK},
		{pitch(24, 0, 0, 12), pitch(0, 0, 0, 1), 2, api.OK},
		{pitch(23, 0, 0, 12), pitch(11, 0, 0, 12), 1, api.OK},
		{pitch(0, 0, -1, 1), pitch(3, 0, -1, 1), -3, api.OK},
		{pitch(400, 0, 0, 1), pitch(0, 0, 0, 1), 400, api.OK},
		{pitch(-400, 0, 0, 1), pitch(0, 0, 0, 1), -400, api.OK},
		{pitch(400, 0, 0, 7), pitch(1, 0, 0, 7), 57, api.OK},
		{pitch(0, 252, 0, 1), pitch(-399, 252, 0, 1), 399, api.OK},
		{pitch(0, -252, 0, 1), pitch(400, -252, 0, 1), -400, api.OK},
		{pitch(0, 253, 0, 1), pitch(-400, 253, 0, 1), 400, api.OK},
		{pitch(0, 254, 0, 1), api.Pitch{}, 0, api.ErrLarge},
		{pitch(0, -253, 0, 1), api.Pitch{}, 0, api.ErrLarge},
		{pitch(400, 400, 400, 1), api.Pitch{}, 0, api.ErrLarge},
		{pitch(-400, -400, -400, 1), api.Pitch{}, 0, api.ErrLarge},
		// Only the normal form has to be valid.
		{pitch(400, 400, 400, 12), pitch(-389, 100, 100, 3), 163, api.OK},
		{pitch(400, 400, 399, 12), api.Pitch{}, 0, api.ErrLarge},
	} {
		if got, n, e := number.Octave(c.p); got != c.want || n != c.octaves || e != c.e {
			t.Errorf("Octave(%v) = %v, %v, %v, want %v, %v, %v", c.p, got, n, e, c.want, c.octaves, c.e)
		}
	}
	r := rand.New(rand.NewSource(9))
	for range 1500 {
		p := randomPitch(r)
		octaves := int(math.Floor((float64(p.Two) + float64(p.Three)*math.Log2(3) + float64(p.Five)*math.Log2(5)) / float64(p.Den)))
		for exactOrder(p, pitch(octaves, 0, 0, 1)) < 0 {
			octaves--
		}
		for exactOrder(p, pitch(octaves+1, 0, 0, 1)) >= 0 {
			octaves++
		}
		got, n, e := number.Octave(p)
		if e == api.ErrLarge {
			two := p.Two - octaves*p.Den
			if abs(two)/gcd(two, p.Three, p.Five, p.Den) <= api.MaxExponent || got != (api.Pitch{}) || n != 0 {
				t.Errorf("Octave(%v) = %v, %v, %v", p, got, n, e)
			}
			continue
		}
		if e != api.OK || n != octaves || !isNormal(got) || exactOrder(got, pitch(0, 0, 0, 1)) < 0 || exactOrder(got, pitch(1, 0, 0, 1)) >= 0 {
			t.Errorf("Octave(%v) = %v, %v, %v", p, got, n, e)
		}
		if got.Two*p.Den != (p.Two-n*p.Den)*got.Den || got.Three*p.Den != p.Three*got.Den || got.Five*p.Den != p.Five*got.Den {
			t.Errorf("Octave(%v) = %v, %v: another pitch", p, got, n)
		}
	}
}

func abs(n int) int { return max(n, -n) }

func TestP1_4_Enclose(t *testing.T) {
	for _, c := range []struct {
		p     api.Pitch
		times int
		want  api.Range
		e     api.Errno
	}{
		{pitch(-19, 12, 0, 1), 1000, api.Range{Lo: 1013, Hi: 1014}, api.OK},
		{pitch(1, 0, 0, 2), 1000, api.Range{Lo: 1414, Hi: 1415}, api.OK},
		{pitch(2, 0, 0, 1), 5, api.Range{Lo: 20, Hi: 20}, api.OK},
		{pitch(-1, 0, 0, 1), 5, api.Range{Lo: 2, Hi: 3}, api.OK},
		{pitch(24, 0, 0, 12), 5, api.Range{Lo: 20, Hi: 20}, api.OK},
		{pitch(3, 0, 0, 12), 440000, api.Range{Lo: 523251, Hi: 523252}, api.OK},
		{pitch(-400, 0, 0, 1), 1, api.Range{Lo: 0, Hi: 1}, api.OK},
		{pitch(-400, -400, -400, 1), 1000000000, api.Range{Lo: 0, Hi: 1}, api.OK},
		{pitch(0, 0, 0, 9), 1000000000, api.Range{Lo: 1000000000, Hi: 1000000000}, api.OK},
		{pitch(6, 0, 6, 1), 1000000000, api.Range{Lo: api.MaxNumber, Hi: api.MaxNumber}, api.OK},
		{pitch(15, 0, 15, 1), 1, api.Range{Lo: api.MaxNumber, Hi: api.MaxNumber}, api.OK},
		{pitch(15, 0, 15, 1), 2, api.Range{}, api.ErrLarge},
		{pitch(199, 0, 0, 10), 1000000000, api.Range{Lo: 978356002133699, Hi: 978356002133700}, api.OK},
		{pitch(20, 0, 0, 1), 1000000000, api.Range{}, api.ErrLarge},
		{pitch(400, 400, 400, 1), 1, api.Range{}, api.ErrLarge},
		{pitch(400, 400, 400, 12), 1000000000, api.Range{}, api.ErrLarge},
		{pitch(400, 400, 400, 1), 0, api.Range{}, api.ErrRange},
		{pitch(0, 0, 0, 1), 0, api.Range{}, api.ErrRange},
		{pitch(0, 0, 0, 1), -1, api.Range{}, api.ErrRange},
		{pitch(0, 0, 0, 1), 1000000001, api.Range{}, api.ErrRange},
		{pitch(0, 0, 0, 1), math.MinInt, api.Range{}, api.ErrRange},
		{pitch(0, 0, 0, 1), math.MaxInt, api.Range{}, api.ErrRange},
	} {
		if got, e := number.Enclose(c.p, c.times); got != c.want || e != c.e {
			t.Errorf("Enclose(%v, %d) = %v, %v, want %v, %v", c.p, c.times, got, e, c.want, c.e)
		}
	}
}

// sideOf returns -1, 0 or 1 as n is less than, equal to, or greater than times p.
func sideOf(n int, p api.Pitch, times int) int {
	above, below := powers(p, 1)
	power := func(x int) *big.Int { return new(big.Int).Exp(big.NewInt(int64(x)), big.NewInt(int64(p.Den)), nil) }
	return below.Mul(below, power(n)).Cmp(above.Mul(above, power(times)))
}

func TestP1_4_EncloseAgainstBig(t *testing.T) {
	r := rand.New(rand.NewSource(10))
	for range 6000 {
		p, times := randomPitch(r), r.Intn(1000000000)>>r.Intn(30)+1
		got, e := number.Enclose(p, times)
		if e == api.ErrLarge {
			if got != (api.Range{}) || sideOf(api.MaxNumber, p, times) >= 0 {
				t.Errorf("Enclose(%v, %d) = %v, %v", p, times, got, e)
			}
			continue
		}
		exact := got.Lo == got.Hi && sideOf(got.Lo, p, times) == 0
		between := got.Hi == got.Lo+1 && sideOf(got.Lo, p, times) < 0 && sideOf(got.Hi, p, times) > 0
		if e != api.OK || !exact && !between || got.Lo < 0 || got.Hi > api.MaxNumber {
			t.Errorf("Enclose(%v, %d) = %v, %v", p, times, got, e)
		}
	}
}

func TestP1_9_OrderOfPitches(t *testing.T) {
	r := rand.New(rand.NewSource(11))
	order := func(p, q api.Pitch) int {
		c, e := number.Order(p, q)
		if e != api.OK {
			t.Fatal(p, q, e)
		}
		return c
	}
	small := func() api.Pitch { return pitch(r.Intn(9)-4, r.Intn(7)-3, r.Intn(5)-2, []int{1, 2, 4, 12}[r.Intn(4)]) }
	for range 4000 {
		p, q, s := small(), small(), small()
		if order(p, p) != 0 || order(p, q) != -order(q, p) {
			t.Errorf("Order of %v and %v", p, q)
		}
		if order(p, q) <= 0 && order(q, s) <= 0 && order(p, s) > 0 {
			t.Errorf("Order of %v, %v and %v", p, q, s)
		}
		ps, e := number.Join(p, s)
		sp, f := number.Join(s, p)
		if e != api.OK || f != api.OK || ps != sp {
			t.Errorf("Join of %v and %v: %v, %v", p, s, ps, sp)
		}
		if qs, _ := number.Join(q, s); order(ps, qs) != order(p, q) {
			t.Errorf("%v joined to %v and %v changes their order", s, p, q)
		}
	}
	if p, e := number.Power(pitch(1, 0, 0, 12), frac(12, 1)); e != api.OK || p != pitch(1, 0, 0, 1) {
		t.Error(p, e)
	}
}

func TestP1_10_NestedEnclosures(t *testing.T) {
	r := rand.New(rand.NewSource(12))
	for range 3000 {
		p, m, n := randomPitch(r), r.Intn(1000)+1, r.Intn(1000000)+1
		wide, e := number.Enclose(p, n)
		if e != api.OK || wide.Hi > api.MaxNumber/m {
			continue
		}
		fine, e := number.Enclose(p, m*n)
		if e != api.OK || fine.Lo < m*wide.Lo || fine.Hi > m*wide.Hi {
			t.Errorf("Enclose(%v, %d * %d) = %v, %v, not within %v", p, m, n, fine, e, wide)
		}
		if d := fine.Hi - fine.Lo; d != 0 && d != 1 {
			t.Errorf("Enclose(%v, %d) = %v", p, m*n, fine)
		}
	}
}

func TestP1_10_OctaveOfAnOctaveMore(t *testing.T) {
	r := rand.New(rand.NewSource(13))
	for range 1000 {
		p := pitch(r.Intn(101)-50, r.Intn(101)-50, r.Intn(101)-50, r.Intn(12)+1)
		q, e := number.Join(p, pitch(1, 0, 0, 1))
		if e != api.OK {
			t.Fatal(p, e)
		}
		low, n, e := number.Octave(p)
		high, m, f := number.Octave(q)
		if e != api.OK || f != api.OK || low != high || m != n+1 {
			t.Errorf("Octave(%v) = %v, %v, an octave higher %v, %v", p, low, n, high, m)
		}
	}
}
