package plate_test

import (
	"math"
	"math/rand"
	"slices"
	"strconv"
	"testing"

	"agraffe/api"
	"agraffe/plate"
)

func TestP3_1_PullOf(t *testing.T) {
	for _, c := range []struct {
		tension  api.Range
		from, to [3]int
		want     [3]api.Range
	}{
		{exact(1000), [3]int{}, [3]int{300, 400, 0}, [3]api.Range{exact(600), exact(800), exact(0)}},
		{exact(1000), [3]int{300, 400, 0}, [3]int{}, [3]api.Range{exact(-600), exact(-800), exact(0)}},
		{exact(1000), [3]int{}, [3]int{100, 100, 0}, [3]api.Range{span(707, 708), span(707, 708), exact(0)}},
		{exact(1000), [3]int{5, 5, 5}, [3]int{5, -95, 105}, [3]api.Range{exact(0), span(-708, -707), span(707, 708)}},
		{span(999, 1001), [3]int{}, [3]int{-3, 0, 4}, [3]api.Range{span(-601, -599), exact(0), span(799, 801)}},
		// A whole length: there is nothing to round in it.
		{exact(1), [3]int{}, [3]int{0, 0, 1}, [3]api.Range{exact(0), exact(0), exact(1)}},
		{exact(7), [3]int{}, [3]int{0, -1, 0}, [3]api.Range{exact(0), exact(-7), exact(0)}},
		{exact(10000000000), [3]int{0, 0, -500000}, [3]int{0, 0, 500000}, [3]api.Range{exact(0), exact(0), exact(10000000000)}},
		{span(0, 10000000000), [3]int{1000000, 0, 0}, [3]int{0, 0, 0}, [3]api.Range{span(-10000000000, 0), exact(0), exact(0)}},
		// A tension of 0 has no pull.
		{exact(0), [3]int{}, [3]int{1, 2, -3}, [3]api.Range{}},
		{span(0, 1), [3]int{}, [3]int{1, 1, 0}, [3]api.Range{span(0, 1), span(0, 1), exact(0)}},
		// |d|^2 is 3: the root of 30000 lies between 173 and 174.
		{exact(1000000), [3]int{}, [3]int{1, 1, -1}, [3]api.Range{span(574712, 578035), span(574712, 578035), span(-578035, -574712)}},
	} {
		if p, e := plate.PullOf(c.tension, c.from, c.to); p != c.want || e != api.OK {
			t.Errorf("PullOf(%v, %v, %v) = %v, %v, want %v", c.tension, c.from, c.to, p, e, c.want)
		}
	}
	r := rand.New(rand.NewSource(1))
	for range 3000 {
		most := 1000000 >> r.Intn(20)
		from, way := randomPlace(r, 500000), randomPlace(r, min(500000, max(1, most)))
		if r.Intn(8) == 0 {
			from, way = [3]int{}, [3]int{among(r, 900000, 1000000), among(r, -1000000, -900000), among(r, -1000000, 1000000)}
		}
		to := [3]int{from[0] + way[0], from[1] + way[1], from[2] + way[2]}
		if from == to {
			continue
		}
		lo := among(r, 0, 10000000000>>r.Intn(34))
		tension := span(lo, min(10000000000, lo+r.Intn(3)*r.Intn(1000)))
		if p, e := plate.PullOf(tension, from, to); p != pullBy(tension, from, to) || e != api.OK {
			t.Errorf("PullOf(%v, %v, %v) = %v, %v, want %v", tension, from, to, p, e, pullBy(tension, from, to))
		}
	}
}

func TestP3_1_PullOfErrors(t *testing.T) {
	same, near := [3]int{1, 2, 3}, [3]int{1, 2, 4}
	refused := func(tension api.Range, from, to [3]int, want api.Errno) {
		t.Helper()
		if p, e := plate.PullOf(tension, from, to); p != [3]api.Range{} || e != want {
			t.Errorf("PullOf(%v, %v, %v) = %v, %v, want %v", tension, from, to, p, e, want)
		}
	}
	for _, tension := range []api.Range{span(-1, 5), span(5, 4), span(1, 0), span(0, 10000000001), exact(10000000001), span(0, -1), exact(-1), span(math.MinInt, 0), span(math.MinInt, math.MaxInt), span(0, math.MaxInt), span(0, math.MinInt), exact(math.MaxInt)} {
		refused(tension, same, near, api.ErrRange)
		refused(tension, same, same, api.ErrRange)
	}
	for _, n := range tooGreat(1000000) {
		for i := range 3 {
			far := same
			far[i] = n
			refused(exact(1), far, near, api.ErrRange)
			refused(exact(1), near, far, api.ErrRange)
			refused(exact(1), far, far, api.ErrRange)
		}
	}
	for i := range 3 {
		from, to := same, same
		from[i], to[i] = -500000, 500000
		if _, e := plate.PullOf(exact(1), from, to); e != api.OK {
			t.Errorf("PullOf over 1000000: %v", e)
		}
		to[i]++
		refused(exact(1), from, to, api.ErrRange)
		refused(exact(1), to, from, api.ErrRange)
		from[i], to[i] = -1000000, 1000000
		refused(exact(1), from, to, api.ErrRange)
	}
	refused(exact(1), same, same, api.ErrZero)
	refused(exact(0), [3]int{}, [3]int{}, api.ErrZero)
	corner := [3]int{1000000, -1000000, 1000000}
	refused(exact(10000000000), corner, corner, api.ErrZero)
}

// wrongForces are lists with the error of CheckForces.
func wrongForces() map[string]wrongList {
	l := map[string]wrongList{"too many": {repeated(301, force(1, 1, 1, 1, 1, 1)), api.ErrLarge}, "too many wrong ones": {repeated(301, force(1000001, 0, 0, 0, 0, 0)), api.ErrLarge}}
	right := force(1, 2, 3, 4, 5, 6)
	for i := range 3 {
		for _, n := range tooGreat(1000000) {
			x := right
			x.At[i] = n
			l["place "+string(rune('x'+i))+" "+strconv.Itoa(n)] = wrongList{[]api.Pulled{right, x}, api.ErrRange}
		}
		for _, n := range tooGreat(1000000000) {
			x := right
			x.Force[i] = n
			l["component "+string(rune('x'+i))+" "+strconv.Itoa(n)] = wrongList{[]api.Pulled{x, right}, api.ErrRange}
		}
	}
	return l
}

type wrongList struct {
	l    []api.Pulled
	want api.Errno
}

func TestP3_2_CheckForces(t *testing.T) {
	for name, c := range wrongForces() {
		if e := plate.CheckForces(c.l); e != c.want {
			t.Errorf("CheckForces, %s: %v, want %v", name, e, c.want)
		}
	}
	most, least := force(1000000, 1000000, 1000000, 1000000000, 1000000000, 1000000000), force(-1000000, -1000000, -1000000, -1000000000, -1000000000, -1000000000)
	for _, l := range [][]api.Pulled{nil, {}, turning(), {most, least}, repeated(300, most), repeated(2, least)} {
		if e := plate.CheckForces(l); e != api.OK {
			t.Errorf("CheckForces(%v) = %v", l, e)
		}
	}
}

func TestP3_2_ErrorsOfForces(t *testing.T) {
	outer := [3]int{0, 0, 1000001}
	for name, c := range wrongForces() {
		for _, at := range [][3]int{{}, outer} {
			if v, e := plate.Sum(c.l); v != [3]int{} || e != c.want {
				t.Errorf("Sum, %s: %v, %v", name, v, e)
			}
			if v, e := plate.Moment(c.l, at); v != [3]int{} || e != c.want {
				t.Errorf("Moment, %s: %v, %v", name, v, e)
			}
			if is, e := plate.Balanced(c.l); is || e != c.want {
				t.Errorf("Balanced, %s: %v, %v", name, is, e)
			}
			if x, v, e := plate.Balance(c.l, at); x != (api.Pulled{}) || v != [3]int{} || e != c.want {
				t.Errorf("Balance, %s: %v, %v, %v", name, x, v, e)
			}
			if l, e := plate.Move(c.l, at); len(l) != 0 || e != c.want {
				t.Errorf("Move, %s: %v, %v", name, l, e)
			}
		}
	}
	for _, l := range [][]api.Pulled{nil, turning()} {
		for _, n := range tooGreat(1000000) {
			for i := range 3 {
				at := [3]int{}
				at[i] = n
				if v, e := plate.Moment(l, at); v != [3]int{} || e != api.ErrRange {
					t.Errorf("Moment about %v: %v, %v", at, v, e)
				}
				if x, v, e := plate.Balance(l, at); x != (api.Pulled{}) || v != [3]int{} || e != api.ErrRange {
					t.Errorf("Balance at %v: %v, %v, %v", at, x, v, e)
				}
			}
		}
	}
}

func TestP3_2_SumAndMoment(t *testing.T) {
	if v, e := plate.Sum(turning()); v != [3]int{} || e != api.OK {
		t.Errorf("Sum = %v, %v", v, e)
	}
	if v, e := plate.Moment(turning(), [3]int{}); v != [3]int{0, 1000, 0} || e != api.OK {
		t.Errorf("Moment = %v, %v", v, e)
	}
	if v, e := plate.Moment([]api.Pulled{force(1, 2, 3, 10, 100, 1000)}, [3]int{0, 0, 0}); v != [3]int{2*1000 - 3*100, 3*10 - 1000, 100 - 2*10} || e != api.OK {
		t.Errorf("Moment = %v, %v", v, e)
	}
	if v, e := plate.Moment([]api.Pulled{force(1, 2, 3, 10, 100, 1000)}, [3]int{1, 2, 3}); v != [3]int{} || e != api.OK {
		t.Errorf("Moment about the place of the force = %v, %v", v, e)
	}
	// The greatest moment and sum are far below 2^63.
	most := repeated(300, force(1000000, -1000000, 1000000, 1000000000, 1000000000, 1000000000))
	if v, e := plate.Moment(most, [3]int{-1000000, 1000000, -1000000}); v != [3]int{-1200000000000000000, 0, 1200000000000000000} || e != api.OK {
		t.Errorf("Moment = %v, %v", v, e)
	}
	if v, e := plate.Sum(most); v != [3]int{300000000000, 300000000000, 300000000000} || e != api.OK {
		t.Errorf("Sum = %v, %v", v, e)
	}
	for _, l := range [][]api.Pulled{nil, {}} {
		v, e := plate.Sum(l)
		w, f := plate.Moment(l, [3]int{1, 2, 3})
		if v != [3]int{} || w != [3]int{} || e != api.OK || f != api.OK {
			t.Errorf("no forces: %v, %v, %v, %v", v, e, w, f)
		}
	}
	r := rand.New(rand.NewSource(2))
	for range 500 {
		l, at := randomForces(r, 12), randomPlace(r, 1000000)
		var sum, moment [3]int
		for _, f := range l {
			part := turn(f.At, at, f.Force)
			for i := range 3 {
				sum[i] += f.Force[i]
				moment[i] += part[i]
			}
		}
		if v, e := plate.Sum(l); v != sum || e != api.OK {
			t.Errorf("Sum(%v) = %v, %v, want %v", l, v, e, sum)
		}
		if v, e := plate.Moment(l, at); v != moment || e != api.OK {
			t.Errorf("Moment(%v, %v) = %v, %v, want %v", l, at, v, e, moment)
		}
	}
}

func TestP3_2_Balanced(t *testing.T) {
	for _, c := range []struct {
		l    []api.Pulled
		want bool
	}{
		{nil, true}, {[]api.Pulled{}, true}, {turning(), false},
		{[]api.Pulled{force(1, 2, 3, 0, 0, 0)}, true},
		{[]api.Pulled{force(1, 2, 3, 4, 5, 6), force(1, 2, 3, -4, -5, -6)}, true},
		// Along one line two opposite forces do not turn.
		{[]api.Pulled{force(0, 0, 0, 1, 2, 3), force(10, 20, 30, -1, -2, -3)}, true},
		{[]api.Pulled{force(0, 0, 0, 1, 2, 3), force(10, 20, 31, -1, -2, -3)}, false},
		// No moment about the origin, but a sum.
		{[]api.Pulled{force(0, 0, 0, 1, 0, 0)}, false}, {[]api.Pulled{force(0, 0, 0, 0, 1, 0)}, false}, {[]api.Pulled{force(0, 0, 5, 0, 0, -1)}, false},
		// No sum, but a moment along one axis each.
		{[]api.Pulled{force(0, 1, 0, 0, 0, 1), force(0, 0, 0, 0, 0, -1)}, false},
		{[]api.Pulled{force(0, 0, 1, 1, 0, 0), force(0, 0, 0, -1, 0, 0)}, false},
		{[]api.Pulled{force(1, 0, 0, 0, 1, 0), force(0, 0, 0, 0, -1, 0)}, false},
		// A lever: 30 at 10 and 10 at -30 are held by 40 in between.
		{[]api.Pulled{force(10, 0, 0, 0, 0, -30), force(-30, 0, 0, 0, 0, -10), force(0, 0, 0, 0, 0, 40)}, true},
		{[]api.Pulled{force(10, 0, 0, 0, 0, -30), force(-30, 0, 0, 0, 0, -10), force(1, 0, 0, 0, 0, 40)}, false},
	} {
		if is, e := plate.Balanced(c.l); is != c.want || e != api.OK {
			t.Errorf("Balanced(%v) = %v, %v, want %v", c.l, is, e, c.want)
		}
	}
}

func TestP3_2_Balance(t *testing.T) {
	for _, c := range []struct {
		l      []api.Pulled
		at     [3]int
		force  api.Pulled
		moment [3]int
	}{
		{turning()[:1], [3]int{100, 0, 5}, force(100, 0, 5, 0, 0, 10), [3]int{}},
		{turning()[:1], [3]int{}, force(0, 0, 0, 0, 0, 10), [3]int{0, -1000, 0}},
		{turning(), [3]int{7, 8, 9}, force(7, 8, 9, 0, 0, 0), [3]int{0, -1000, 0}},
		{nil, [3]int{7, 8, 9}, force(7, 8, 9, 0, 0, 0), [3]int{}},
		{[]api.Pulled{force(1, 2, 3, 10, 100, 1000)}, [3]int{}, force(0, 0, 0, -10, -100, -1000), [3]int{-1700, 970, -80}},
		// The force may be greater than that of a list.
		{repeated(2, force(0, 0, 0, 1000000000, 0, -1000000000)), [3]int{}, force(0, 0, 0, -2000000000, 0, 2000000000), [3]int{}},
	} {
		if x, m, e := plate.Balance(c.l, c.at); x != c.force || m != c.moment || e != api.OK {
			t.Errorf("Balance(%v, %v) = %v, %v, %v, want %v, %v", c.l, c.at, x, m, e, c.force, c.moment)
		}
	}
}

func TestP3_2_Move(t *testing.T) {
	l, e := plate.Move([]api.Pulled{force(1, 2, 3, 4, 5, 6), force(-1, 0, 1000000, 7, 8, 9)}, [3]int{-10, 20, -30})
	if want := []api.Pulled{force(-9, 22, -27, 4, 5, 6), force(-11, 20, 999970, 7, 8, 9)}; !slices.Equal(l, want) || e != api.OK {
		t.Errorf("Move = %v, %v", l, e)
	}
	for i := range 3 {
		// From one end to the other one, and one more.
		by, x := [3]int{}, force(0, 0, 0, 1, 2, 3)
		by[i], x.At[i] = 2000000, -1000000
		want := x
		want.At[i] = 1000000
		if l, e := plate.Move([]api.Pulled{x}, by); !slices.Equal(l, []api.Pulled{want}) || e != api.OK {
			t.Errorf("Move by %v = %v, %v", by, l, e)
		}
		for _, n := range []int{2000001, -1, math.MaxInt, math.MaxInt - 1, math.MinInt, math.MinInt + 1, math.MinInt + 2000000} {
			by[i] = n
			if l, e := plate.Move([]api.Pulled{x}, by); len(l) != 0 || e != api.ErrRange {
				t.Errorf("Move by %v = %v, %v", by, l, e)
			}
			// A later force that comes to lie outside refuses all.
			inner := force(0, 0, 0, 1, 1, 1)
			if l, e := plate.Move([]api.Pulled{inner, x}, by); len(l) != 0 || e != api.ErrRange {
				t.Errorf("Move of two by %v = %v, %v", by, l, e)
			}
			// Only places that result are looked at.
			if l, e := plate.Move(nil, by); len(l) != 0 || e != api.OK {
				t.Errorf("Move of nothing by %v = %v, %v", by, l, e)
			}
		}
		x.At[i], by[i] = 1000000, math.MaxInt
		if l, e := plate.Move([]api.Pulled{x}, by); len(l) != 0 || e != api.ErrRange {
			t.Errorf("Move by %v = %v, %v", by, l, e)
		}
	}
}
