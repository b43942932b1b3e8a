package number_test

import (
	"math"
	"math/rand"
	"slices"
	"testing"

	"agraffe/api"
	"agraffe/number"
)

func bound(from, to, most int) api.Bound { return api.Bound{From: from, To: to, Most: most} }

// invalidSystems are systems with the error of CheckSystem.
var invalidSystems = []struct {
	n    int
	l    []api.Bound
	want api.Errno
}{
	{0, nil, api.ErrRange},
	{-1, nil, api.ErrRange},
	{61, nil, api.ErrRange},
	{math.MinInt, nil, api.ErrRange},
	{math.MaxInt, nil, api.ErrRange},
	{0, make([]api.Bound, 201), api.ErrRange},
	{1, make([]api.Bound, 201), api.ErrLarge},
	{1, append(make([]api.Bound, 200), bound(5, 5, 0)), api.ErrLarge},
	{2, []api.Bound{bound(0, 2, 0)}, api.ErrMissing},
	{2, []api.Bound{bound(2, 0, 0)}, api.ErrMissing},
	{2, []api.Bound{bound(-1, 0, 0)}, api.ErrMissing},
	{2, []api.Bound{bound(0, -1, 0)}, api.ErrMissing},
	{2, []api.Bound{bound(0, math.MinInt, math.MinInt)}, api.ErrMissing},
	{2, []api.Bound{bound(0, 1, api.MaxPart+1)}, api.ErrRange},
	{2, []api.Bound{bound(0, 1, -api.MaxPart-1)}, api.ErrRange},
	{2, []api.Bound{bound(0, 1, math.MinInt)}, api.ErrRange},
	{2, []api.Bound{bound(0, 1, 0), bound(0, 2, 0), bound(0, 1, api.MaxPart+1)}, api.ErrMissing},
	{2, []api.Bound{bound(0, 1, 0), bound(0, 1, api.MaxPart+1), bound(0, 2, 0)}, api.ErrRange},
	{2, []api.Bound{bound(0, 2, api.MaxPart+1)}, api.ErrMissing},
}

func TestP1_6_CheckSystem(t *testing.T) {
	for _, c := range invalidSystems {
		if e := number.CheckSystem(c.n, c.l); e != c.want {
			t.Errorf("CheckSystem(%d, %d bounds) = %v, want %v", c.n, len(c.l), e, c.want)
		}
		if x, circle, e := number.Solve(c.n, c.l); e != c.want || len(x) > 0 || len(circle) > 0 {
			t.Errorf("Solve(%d, %d bounds) = %v, %v, %v", c.n, len(c.l), x, circle, e)
		}
		if sum, e := number.CheckCircle(c.n, c.l, nil); e != c.want || sum != 0 {
			t.Errorf("CheckCircle(%d, %d bounds) = %v, %v", c.n, len(c.l), sum, e)
		}
	}
	if e := number.CheckSystem(1, nil); e != api.OK {
		t.Error(e)
	}
	if e := number.CheckSystem(60, append(make([]api.Bound, 198), bound(59, 0, api.MaxPart), bound(0, 59, -api.MaxPart))); e != api.OK {
		t.Error(e)
	}
}

func TestP1_6_Solve(t *testing.T) {
	for _, c := range []struct {
		n    int
		l    []api.Bound
		want []int
	}{
		{1, nil, []int{0}},
		{3, nil, []int{0, 0, 0}},
		{3, []api.Bound{bound(0, 1, 2), bound(1, 2, -3), bound(2, 0, 4)}, []int{0, 0, -3}},
		{1, []api.Bound{bound(0, 0, 0)}, []int{0}},
		{1, []api.Bound{bound(0, 0, 5)}, []int{0}},
		{2, []api.Bound{bound(0, 1, -4), bound(1, 0, 4)}, []int{0, -4}},
		{2, []api.Bound{bound(1, 0, -4), bound(0, 1, 4), bound(0, 1, 9)}, []int{-4, 0}},
		// In this order a round settles one unknown only.
		{5, []api.Bound{bound(3, 4, -1), bound(2, 3, -1), bound(1, 2, -1), bound(0, 1, -1)}, []int{0, -1, -2, -3, -4}},
		{4, []api.Bound{bound(2, 3, -api.MaxPart), bound(1, 2, -api.MaxPart), bound(0, 1, -api.MaxPart)}, []int{0, -api.MaxPart, -2 * api.MaxPart, -3 * api.MaxPart}},
	} {
		if x, circle, e := number.Solve(c.n, c.l); e != api.OK || !slices.Equal(x, c.want) || len(circle) != 0 {
			t.Errorf("Solve(%d, %v) = %v, %v, %v, want %v", c.n, c.l, x, circle, e, c.want)
		}
	}
}

func TestP1_6_SolveFindsCircles(t *testing.T) {
	ring := make([]api.Bound, 60)
	for i := range ring {
		ring[i] = bound((i+1)%60, i, 0)
	}
	ring[30].Most = -1
	for _, c := range []struct {
		n   int
		l   []api.Bound
		sum int
	}{
		{3, []api.Bound{bound(0, 1, 2), bound(1, 2, -3), bound(2, 0, 0)}, -1},
		{1, []api.Bound{bound(0, 0, -7)}, -7},
		{3, []api.Bound{bound(0, 1, 5), bound(2, 2, -1), bound(1, 0, 5)}, -1},
		{2, []api.Bound{bound(0, 1, -api.MaxPart), bound(1, 0, -api.MaxPart)}, -2 * api.MaxPart},
		// Unknowns behind the circle are lowered too, but belong to no circle.
		{5, []api.Bound{bound(1, 2, -1), bound(2, 1, 0), bound(2, 3, -5), bound(3, 4, -5), bound(4, 0, -5)}, -1},
		{60, ring, -1},
	} {
		x, circle, e := number.Solve(c.n, c.l)
		if e != api.ErrCycle || len(x) > 0 || len(circle) > c.n {
			t.Errorf("Solve(%d, %v) = %v, %v, %v", c.n, c.l, x, circle, e)
		}
		if sum, e := number.CheckCircle(c.n, c.l, circle); e != api.OK || sum != c.sum {
			t.Errorf("the circle %v of %v: %v, %v", circle, c.l, sum, e)
		}
	}
}

func TestP1_6_CheckCircle(t *testing.T) {
	l := []api.Bound{bound(0, 1, 2), bound(1, 2, -3), bound(2, 0, 0), bound(2, 0, 1), bound(1, 1, -1), bound(1, 1, 0)}
	for _, c := range []struct {
		circle []int
		sum    int
		e      api.Errno
	}{
		{[]int{0, 1, 2}, -1, api.OK},
		{[]int{2, 0, 1}, -1, api.OK},
		{[]int{4}, -1, api.OK},
		{[]int{4, 4, 4}, -3, api.OK},
		{[]int{0, 4, 5, 1, 3}, -1, api.OK},
		{[]int{0, 1, 2, 0, 1, 2}, -2, api.OK},
		{slices.Repeat([]int{4}, 60), -60, api.OK},
		{nil, 0, api.ErrShape},
		{[]int{}, 0, api.ErrShape},
		{slices.Repeat([]int{4}, 61), 0, api.ErrShape},
		{slices.Repeat([]int{9}, 61), 0, api.ErrShape},
		{[]int{6}, 0, api.ErrMissing},
		{[]int{-1}, 0, api.ErrMissing},
		{[]int{math.MinInt}, 0, api.ErrMissing},
		{[]int{0, 2, 6}, 0, api.ErrMissing},
		{[]int{0, 2}, 0, api.ErrOpen},
		{[]int{0}, 0, api.ErrOpen},
		{[]int{0, 1}, 0, api.ErrOpen},
		{[]int{1, 0, 2}, 0, api.ErrOpen},
		{[]int{0, 3}, 0, api.ErrOpen},
		{[]int{0, 1, 3}, 0, api.ErrProof},
		{[]int{5}, 0, api.ErrProof},
	} {
		if sum, e := number.CheckCircle(3, l, c.circle); sum != c.sum || e != c.e {
			t.Errorf("CheckCircle(%v) = %v, %v, want %v, %v", c.circle, sum, e, c.sum, c.e)
		}
	}
	positive := []api.Bound{bound(0, 0, 1)}
	if sum, e := number.CheckCircle(1, positive, []int{0}); sum != 0 || e != api.ErrProof {
		t.Errorf("a circle with a positive sum: %v, %v", sum, e)
	}
}

// keeps says whether values keep all bounds.
func keeps(x []int, l []api.Bound) bool {
	return !slices.ContainsFunc(l, func(b api.Bound) bool { return x[b.To]-x[b.From] > b.Most })
}

// greatestSolution tries all values from -least to 0 and returns the greatest ones of all solutions, or nil.
func greatestSolution(n, least int, l []api.Bound) []int {
	var best []int
	x := make([]int, n)
	var try func(at int)
	try = func(at int) {
		if at < n {
			for x[at] = -least; x[at] <= 0; x[at]++ {
				try(at + 1)
			}
			return
		}
		if !keeps(x, l) {
			return
		}
		if best == nil {
			best = slices.Clone(x)
		}
		for i := range best {
			best[i] = max(best[i], x[i])
		}
	}
	try(0)
	return best
}

func TestP1_11_SolutionsAreTheGreatest(t *testing.T) {
	r := rand.New(rand.NewSource(15))
	solved, refused := 0, 0
	for range 1500 {
		n := r.Intn(3) + 1
		l := make([]api.Bound, r.Intn(6))
		for i := range l {
			l[i] = bound(r.Intn(n), r.Intn(n), r.Intn(6)-2)
		}
		want := greatestSolution(n, 6, l)
		x, circle, e := number.Solve(n, l)
		if want == nil {
			refused++
			if sum, f := number.CheckCircle(n, l, circle); e != api.ErrCycle || f != api.OK || sum >= 0 || len(circle) > n || len(x) > 0 {
				t.Errorf("Solve(%d, %v) = %v, %v, %v", n, l, x, circle, e)
			}
			continue
		}
		solved++
		if e != api.OK || !slices.Equal(x, want) || len(circle) > 0 {
			t.Errorf("Solve(%d, %v) = %v, %v, %v, want %v", n, l, x, circle, e, want)
		}
	}
	if solved < 200 || refused < 200 {
		t.Errorf("%d solved, %d refused", solved, refused)
	}
}

func TestP1_11_LargeSystems(t *testing.T) {
	r := rand.New(rand.NewSource(16))
	solved, refused := 0, 0
	for i := range 600 {
		n := r.Intn(api.MaxUnknowns) + 1
		l := make([]api.Bound, r.Intn(api.MaxBounds+1))
		for j := range l {
			l[j] = bound(r.Intn(n), r.Intn(n), r.Intn(1000)-[]int{0, 5, 100, 400}[i%4])
		}
		x, circle, e := number.Solve(n, l)
		if e == api.ErrCycle {
			refused++
			if sum, f := number.CheckCircle(n, l, circle); f != api.OK || sum >= 0 || len(circle) > n || len(x) > 0 {
				t.Errorf("Solve(%d, %v) = %v, %v", n, l, x, circle)
			}
			continue
		}
		solved++
		if e != api.OK || len(x) != n || !keeps(x, l) || slices.Max(x) > 0 {
			t.Fatalf("Solve(%d, %v) = %v, %v", n, l, x, e)
		}
		checkNoGreater(t, x, l)
	}
	if solved < 50 || refused < 50 {
		t.Errorf("%d solved, %d refused", solved, refused)
	}
}

// checkNoGreater follows bounds without room back from each unknown: the value is settled by an unknown that is 0.
func checkNoGreater(t *testing.T, x []int, l []api.Bound) {
	settled := make([]bool, len(x))
	for i := range x {
		settled[i] = x[i] == 0
	}
	for range x {
		for _, b := range l {
			settled[b.To] = settled[b.To] || settled[b.From] && x[b.To] == x[b.From]+b.Most
		}
	}
	if slices.Contains(settled, false) {
		t.Errorf("%v can be greater under %v", x, l)
	}
}
