package number_test

import (
	"math"
	"math/big"
	"math/rand"
	"testing"

	"agraffe/api"
	"agraffe/number"
)

func dot(x, y int) api.Dot { return api.Dot{X: x, Y: y} }

// straight returns n dots with the line y = 0.
func straight(n int) []api.Dot {
	l := make([]api.Dot, n)
	for i := range l {
		l[i].X = i
	}
	return l
}

// invalidDots are dots with their error.
var invalidDots = []struct {
	l    []api.Dot
	want api.Errno
}{
	{nil, api.ErrShape},
	{straight(2), api.ErrShape},
	{straight(61), api.ErrShape},
	{[]api.Dot{dot(99999, 0), dot(0, 0)}, api.ErrShape},
	{[]api.Dot{dot(0, 0), dot(1, 10001), dot(2, 0)}, api.ErrRange},
	{[]api.Dot{dot(0, 0), dot(1, -10001), dot(2, 0)}, api.ErrRange},
	{[]api.Dot{dot(-10001, 0), dot(1, 0), dot(2, 0)}, api.ErrRange},
	{[]api.Dot{dot(0, 0), dot(1, 0), dot(10001, 0)}, api.ErrRange},
	{[]api.Dot{dot(math.MinInt, 0), dot(1, 0), dot(2, 0)}, api.ErrRange},
	{[]api.Dot{dot(0, math.MinInt), dot(1, 0), dot(2, 0)}, api.ErrRange},
	{[]api.Dot{dot(0, 0), dot(0, 1), dot(2, 0)}, api.ErrOrder},
	{[]api.Dot{dot(0, 0), dot(2, 1), dot(1, 0)}, api.ErrOrder},
	{[]api.Dot{dot(0, 0), dot(0, 0), dot(2, 10001)}, api.ErrOrder},
	{[]api.Dot{dot(0, 0), dot(0, 10001), dot(-1, 0)}, api.ErrRange},
	{[]api.Dot{dot(5, 0), dot(-10001, 0), dot(0, 0)}, api.ErrRange},
}

func TestP1_7_ErrorsOfDots(t *testing.T) {
	for _, c := range invalidDots {
		if got, e := number.Line(c.l); e != c.want || got != (api.Trend{}) {
			t.Errorf("Line(%v) = %v, %v, want %v", c.l, got, e, c.want)
		}
		if e := number.CheckLine(c.l, api.Trend{}); e != c.want {
			t.Errorf("CheckLine(%v) = %v, want %v", c.l, e, c.want)
		}
	}
}

func TestP1_7_Line(t *testing.T) {
	for _, c := range []struct {
		l                   []api.Dot
		start, slope, error api.Frac
	}{
		{[]api.Dot{dot(0, 0), dot(1, 1), dot(2, 0)}, frac(1, 2), frac(0, 1), frac(1, 2)},
		{[]api.Dot{dot(0, 0), dot(1, -1), dot(2, 0)}, frac(-1, 2), frac(0, 1), frac(1, 2)},
		{[]api.Dot{dot(0, 0), dot(1, 0), dot(3, 1)}, frac(-1, 6), frac(1, 3), frac(1, 6)},
		{straight(60), frac(0, 1), frac(0, 1), frac(0, 1)},
		{[]api.Dot{dot(-2, 7), dot(0, 3), dot(5, -7), dot(6, -9)}, frac(3, 1), frac(-2, 1), frac(0, 1)},
		{[]api.Dot{dot(0, 0), dot(1, 5), dot(2, 0), dot(3, 5), dot(4, 0)}, frac(5, 2), frac(0, 1), frac(5, 2)},
		{[]api.Dot{dot(-10000, 10000), dot(0, -10000), dot(10000, 10000)}, frac(0, 1), frac(0, 1), frac(10000, 1)},
		{[]api.Dot{dot(-10000, -10000), dot(9999, 10000), dot(10000, -10000)}, frac(0, 1), frac(0, 1), frac(10000, 1)},
		{[]api.Dot{dot(9998, -10000), dot(9999, 10000), dot(10000, 10000)}, frac(-99985000, 1), frac(10000, 1), frac(5000, 1)},
	} {
		got, e := number.Line(c.l)
		if e != api.OK || got.Start != c.start || got.Slope != c.slope || got.Error != c.error {
			t.Errorf("Line(%v) = %v, %v", c.l, got, e)
		}
		if e := number.CheckLine(c.l, got); e != api.OK {
			t.Errorf("CheckLine(%v, %v) = %v", c.l, got, e)
		}
	}
}

func TestP1_7_CheckLine(t *testing.T) {
	l := []api.Dot{dot(0, 0), dot(1, 1), dot(2, 0), dot(3, 0)}
	// The errors are -1/2, 1/2, -1/2 and -1/2.
	best := api.Trend{Start: frac(1, 2), Slope: frac(0, 1), Error: frac(1, 2), Proof: [3]int{0, 1, 3}}
	with := func(change func(t *api.Trend)) api.Trend {
		changed := best
		change(&changed)
		return changed
	}
	flat := api.Trend{Start: frac(0, 1), Slope: frac(0, 1), Error: frac(0, 1), Proof: [3]int{0, 1, 2}}
	for _, c := range []struct {
		name string
		l    []api.Dot
		t    api.Trend
		want api.Errno
	}{
		{"best", l, best, api.OK},
		{"other proof", l, with(func(t *api.Trend) { t.Proof = [3]int{0, 1, 2} }), api.OK},
		{"start of no form", l, with(func(t *api.Trend) { t.Start = frac(2, 4); t.Slope = frac(api.MaxPart+1, 1) }), api.ErrForm},
		{"start too large", l, with(func(t *api.Trend) { t.Start = frac(api.MaxPart+1, 1); t.Slope = frac(2, 4) }), api.ErrRange},
		{"slope of no form", l, with(func(t *api.Trend) { t.Slope = frac(0, 2); t.Error = frac(api.MaxPart+1, 1) }), api.ErrForm},
		{"slope too large", l, with(func(t *api.Trend) { t.Slope = frac(api.MaxPart+1, 1); t.Error = frac(2, 4) }), api.ErrRange},
		{"error of no form", l, with(func(t *api.Trend) { t.Error = frac(1, 0) }), api.ErrForm},
		{"error too large", l, with(func(t *api.Trend) { t.Error = frac(1, api.MaxPart+1); t.Proof[0] = -1 }), api.ErrRange},
		{"denominators of 40000", l, with(func(t *api.Trend) { t.Start = frac(1, 625); t.Slope = frac(1, 64); t.Error = frac(1, 40000) }), api.ErrBreak},
		{"denominators of 40001", l, with(func(t *api.Trend) { t.Start = frac(1, 40001); t.Proof[0] = -1 }), api.ErrLarge},
		{"denominators of more together", l, with(func(t *api.Trend) { t.Start = frac(1, 256); t.Slope = frac(1, 9); t.Error = frac(1, 25) }), api.ErrLarge},
		{"denominators of far more", l, with(func(t *api.Trend) {
			t.Start = frac(1, 1000000000)
			t.Slope = frac(1, 999999999)
			t.Error = frac(1, 999999997)
		}), api.ErrLarge},
		{"no dot below", l, with(func(t *api.Trend) { t.Proof[0] = -1 }), api.ErrMissing},
		{"no dot above", l, with(func(t *api.Trend) { t.Proof[2] = 4 }), api.ErrMissing},
		{"no dot in the middle", l, with(func(t *api.Trend) { t.Proof[1] = math.MinInt }), api.ErrMissing},
		{"missing before order", l, with(func(t *api.Trend) { t.Proof = [3]int{2, 1, 4} }), api.ErrMissing},
		{"not ascending at first", l, with(func(t *api.Trend) { t.Proof = [3]int{1, 1, 2} }), api.ErrOrder},
		{"not ascending at last", l, with(func(t *api.Trend) { t.Proof = [3]int{0, 2, 2} }), api.ErrOrder},
		{"descending", l, with(func(t *api.Trend) { t.Proof = [3]int{2, 1, 0} }), api.ErrOrder},
		{"order before break", l, with(func(t *api.Trend) { t.Proof = [3]int{2, 1, 0}; t.Error = frac(1, 3) }), api.ErrOrder},
		{"error too small", l, with(func(t *api.Trend) { t.Error = frac(1, 3) }), api.ErrBreak},
		{"error negative", l, with(func(t *api.Trend) { t.Error = frac(-1, 2) }), api.ErrBreak},
		{"error too great", l, with(func(t *api.Trend) { t.Error = frac(2, 3) }), api.ErrProof},
		{"a line that is not the best", l, with(func(t *api.Trend) { t.Start = frac(1, 1); t.Error = frac(1, 1) }), api.ErrProof},
		{"signs not in turn", l, with(func(t *api.Trend) { t.Proof = [3]int{0, 2, 3} }), api.ErrProof},
		{"signs not in turn at last", l, with(func(t *api.Trend) { t.Proof = [3]int{1, 2, 3} }), api.ErrProof},
		{"break only at a dot that proves nothing", []api.Dot{dot(0, 0), dot(1, 1), dot(2, 0), dot(3, 9)}, with(func(t *api.Trend) { t.Proof = [3]int{0, 1, 2} }), api.ErrBreak},
		{"break below", []api.Dot{dot(0, 0), dot(1, 1), dot(2, 0), dot(3, -9)}, with(func(t *api.Trend) { t.Proof = [3]int{0, 1, 2} }), api.ErrBreak},
		{"steep", l, with(func(t *api.Trend) {
			t.Start = frac(1000000000, 1)
			t.Slope = frac(-1000000000, 1)
			t.Error = frac(1, 40000)
		}), api.ErrBreak},
		{"errors of 0", straight(4), flat, api.OK},
		{"errors of 0, any dots", straight(4), api.Trend{Start: frac(0, 1), Slope: frac(0, 1), Error: frac(0, 1), Proof: [3]int{1, 2, 3}}, api.OK},
		{"errors of 0, another Error", straight(4), api.Trend{Start: frac(0, 1), Slope: frac(0, 1), Error: frac(1, 2), Proof: [3]int{0, 1, 2}}, api.ErrProof},
	} {
		if e := number.CheckLine(c.l, c.t); e != c.want {
			t.Errorf("%s: CheckLine(%v, %v) = %v, want %v", c.name, c.l, c.t, e, c.want)
		}
	}
}

// errorsAt returns the errors of a line at dots, and the greatest of their sizes.
func errorsAt(l []api.Dot, start, slope *big.Rat) ([]*big.Rat, *big.Rat) {
	errors, most := make([]*big.Rat, len(l)), new(big.Rat)
	for i, d := range l {
		errors[i] = new(big.Rat).Sub(big.NewRat(int64(d.Y), 1), start)
		errors[i].Sub(errors[i], new(big.Rat).Mul(slope, big.NewRat(int64(d.X), 1)))
		if size := new(big.Rat).Abs(errors[i]); size.Cmp(most) > 0 {
			most = size
		}
	}
	return errors, most
}

func randomDots(r *rand.Rand) []api.Dot {
	n, reach := r.Intn(api.MaxDots-2)+3, []int{70, 400, 10000}[r.Intn(3)]
	high := []int{0, 1, 5, 10000}[r.Intn(4)]
	used := map[int]bool{}
	for len(used) < n {
		used[r.Intn(2*reach+1)-reach] = true
	}
	var l []api.Dot
	for x := -reach; x <= reach; x++ {
		if used[x] {
			l = append(l, dot(x, r.Intn(2*high+1)-high))
		}
	}
	return l
}

func TestP1_11_NoLineIsBetter(t *testing.T) {
	r := rand.New(rand.NewSource(17))
	for range 120 {
		l := randomDots(r)
		got, e := number.Line(l)
		if e != api.OK || number.CheckFrac(got.Start) != api.OK || number.CheckFrac(got.Slope) != api.OK || number.CheckFrac(got.Error) != api.OK {
			t.Fatalf("Line(%v) = %v, %v", l, got, e)
		}
		errors, most := errorsAt(l, rat(got.Start), rat(got.Slope))
		if most.Cmp(rat(got.Error)) != 0 {
			t.Errorf("Line(%v) = %v: the greatest error is %v", l, got, most)
		}
		p := got.Proof
		if p[0] < 0 || p[0] >= p[1] || p[1] >= p[2] || p[2] >= len(l) {
			t.Fatalf("Line(%v) = %v", l, got)
		}
		opposite := new(big.Rat).Neg(errors[p[1]])
		if new(big.Rat).Abs(errors[p[0]]).Cmp(most) != 0 || errors[p[0]].Cmp(opposite) != 0 || errors[p[2]].Cmp(opposite) != 0 {
			t.Errorf("Line(%v) = %v: not proved", l, got)
		}
		if e := number.CheckLine(l, got); e != api.OK {
			t.Errorf("CheckLine(%v, %v) = %v", l, got, e)
		}
		for range 20 {
			start := new(big.Rat).Add(rat(got.Start), big.NewRat(int64(r.Intn(41)-20), int64(r.Intn(50)+1)))
			slope := new(big.Rat).Add(rat(got.Slope), big.NewRat(int64(r.Intn(41)-20), int64(r.Intn(5000)+1)))
			if _, other := errorsAt(l, start, slope); other.Cmp(most) < 0 {
				t.Errorf("Line(%v) = %v: %v + %v x is better", l, got, start, slope)
			}
		}
	}
}
