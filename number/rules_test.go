package number_test

import (
	"math/rand"
	"slices"
	"testing"

	"agraffe/api"
	"agraffe/number"
)

// TestP1_NoPanic calls every function with numbers at and beyond all limits (R2).
func TestP1_NoPanic(t *testing.T) {
	r := rand.New(rand.NewSource(18))
	any := func() int { return extremes[r.Intn(len(extremes))] }
	some := func() int {
		if r.Intn(2) == 0 {
			return any()
		}
		return r.Intn(14) - 1
	}
	anyFrac := func() api.Frac { return frac(some(), some()) }
	anyPitch := func() api.Pitch { return pitch(some(), some(), some(), some()) }
	anyRange := func() api.Range { return span(some(), some()) }
	for range 20000 {
		a, b, p, q, x, y, n := anyFrac(), anyFrac(), anyPitch(), anyPitch(), anyRange(), anyRange(), some()
		number.CheckFrac(a)
		number.Add(a, b)
		number.Times(a, b)
		number.Divide(a, b)
		number.Compare(a, b)
		number.Rounded(a, n)
		number.Root(n, some())
		number.CheckPitch(p)
		number.Normal(p)
		number.Join(p, q)
		number.Power(p, a)
		number.Order(p, q)
		number.Octave(p)
		number.Enclose(p, n)
		number.CheckRange(x)
		number.Plus(x, y)
		number.Scaled(x, a)
		number.Meet(x, y)
		number.FormatFrac(a)
		number.ParseFrac(number.FormatFrac(a))
		l, circle, dots := make([]api.Bound, r.Intn(4)), make([]int, r.Intn(4)), make([]api.Dot, r.Intn(5))
		for i := range l {
			l[i] = bound(some(), some(), some())
		}
		for i := range circle {
			circle[i] = some()
		}
		for i := range dots {
			dots[i] = dot(some(), some())
		}
		number.CheckSystem(n, l)
		number.Solve(n, l)
		number.CheckCircle(n, l, circle)
		number.Line(dots)
		trend := api.Trend{Start: a, Slope: b, Error: anyFrac(), Proof: [3]int{some(), some(), some()}}
		number.CheckLine(dots, trend)
		number.CheckLine(straight(3), trend)
	}
}

// TestP1_ArgumentsStay checks that lists are not written into, that results share no memory with each other, and that calls do not depend on earlier ones (R3, R4).
func TestP1_ArgumentsStay(t *testing.T) {
	open := []api.Bound{bound(0, 1, 2), bound(1, 2, -3), bound(2, 0, 4)}
	closed := []api.Bound{bound(0, 1, 2), bound(1, 2, -3), bound(2, 0, 0)}
	openBefore, closedBefore := slices.Clone(open), slices.Clone(closed)
	x, _, _ := number.Solve(3, open)
	x[0], x[1], x[2] = 7, 7, 7
	if again, _, e := number.Solve(3, open); e != api.OK || !slices.Equal(again, []int{0, 0, -3}) {
		t.Error(again, e)
	}
	_, circle, _ := number.Solve(3, closed)
	circleBefore := slices.Clone(circle)
	number.CheckCircle(3, closed, circle)
	if !slices.Equal(circle, circleBefore) || !slices.Equal(open, openBefore) || !slices.Equal(closed, closedBefore) {
		t.Error(circle, open, closed)
	}
	circle[0] = 99
	if _, again, e := number.Solve(3, closed); e != api.ErrCycle || !slices.Equal(again, circleBefore) {
		t.Error(again, e)
	}
	dots := []api.Dot{dot(0, 0), dot(1, 1), dot(2, 0)}
	dotsBefore := slices.Clone(dots)
	trend, _ := number.Line(dots)
	number.CheckLine(dots, trend)
	if !slices.Equal(dots, dotsBefore) {
		t.Error(dots)
	}
}

// TestP1_NilIsEmpty checks that a nil list and an empty one are the same (R5).
func TestP1_NilIsEmpty(t *testing.T) {
	if number.CheckSystem(2, nil) != number.CheckSystem(2, []api.Bound{}) {
		t.Error("CheckSystem")
	}
	x, circle, e := number.Solve(2, nil)
	y, other, f := number.Solve(2, []api.Bound{})
	if !slices.Equal(x, y) || len(circle) != len(other) || e != f {
		t.Error(x, circle, e, y, other, f)
	}
	l := []api.Bound{bound(0, 0, -1)}
	if _, e := number.CheckCircle(1, l, nil); e != api.ErrShape {
		t.Error(e)
	}
	if _, e := number.CheckCircle(1, l, []int{}); e != api.ErrShape {
		t.Error(e)
	}
	if _, e := number.Line([]api.Dot{}); e != api.ErrShape {
		t.Error(e)
	}
}
