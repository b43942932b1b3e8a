package plate_test

import (
	"math"
	"math/rand"
	"slices"
	"testing"

	"agraffe/api"
	"agraffe/plate"
)

// wrongBar is bars with the error of CheckBars.
type wrongBar struct {
	at   []int
	want api.Errno
}

// ascending returns so many bars, one behind the other.
func ascending(n int) []int {
	l := make([]int, n)
	for i := range l {
		l[i] = 10 * i
	}
	return l
}

func wrongBars() []wrongBar {
	l := []wrongBar{{nil, api.ErrShape}, {[]int{}, api.ErrShape}, {[]int{5}, api.ErrShape}, {[]int{30000}, api.ErrShape}, {ascending(21), api.ErrShape}, {repeated(21, 30000), api.ErrShape},
		{[]int{1, 1}, api.ErrOrder}, {[]int{1, 0}, api.ErrOrder}, {[]int{1, 2, 2}, api.ErrOrder}, {[]int{-1, 2, 1, 3}, api.ErrOrder}, {[]int{20000, -20000}, api.ErrOrder},
		// Bar by bar, and of one bar the range first.
		{[]int{2, 1, 20001}, api.ErrOrder}, {[]int{20001, 20001}, api.ErrRange}, {[]int{0, -20001}, api.ErrRange}, {[]int{0, 20001, 1}, api.ErrRange}}
	for _, n := range tooGreat(20000) {
		l = append(l, wrongBar{[]int{n, 5}, api.ErrRange}, wrongBar{[]int{5, n}, api.ErrRange}, wrongBar{[]int{1, 2, 3, n}, api.ErrRange})
	}
	return l
}

// wrongLoad is loads with the error of loads from a place to another one.
type wrongLoad struct {
	l    [][2]int
	want api.Errno
}

func wrongLoads(from, to int) []wrongLoad {
	l := []wrongLoad{{repeated(101, [2]int{from, 1}), api.ErrLarge}, {repeated(101, [2]int{to + 1, 1}), api.ErrLarge}}
	right := [2]int{from, 1}
	for _, n := range append(outside(from, to), from-1, to+1) {
		l = append(l, wrongLoad{[][2]int{{n, 1}}, api.ErrRange}, wrongLoad{[][2]int{right, {n, 0}}, api.ErrRange})
	}
	for _, n := range tooGreat(1000000) {
		l = append(l, wrongLoad{[][2]int{{from, n}}, api.ErrRange}, wrongLoad{[][2]int{right, {to, n}, right}, api.ErrRange})
	}
	return l
}

func TestP3_3_CheckBars(t *testing.T) {
	for _, c := range wrongBars() {
		if e := plate.CheckBars(c.at); e != c.want {
			t.Errorf("CheckBars(%v) = %v, want %v", c.at, e, c.want)
		}
		// The bars come before the loads.
		for _, loads := range [][][2]int{nil, repeated(101, [2]int{math.MaxInt, math.MinInt}), {{30000, 30000000}}} {
			if l, e := plate.Distribute(c.at, loads); len(l) != 0 || e != c.want {
				t.Errorf("Distribute(%v) = %v, %v, want %v", c.at, l, e, c.want)
			}
		}
	}
	for _, at := range [][]int{{0, 1}, {-20000, 20000}, {-20000, -19999, 19999, 20000}, ascending(20), ascending(2)} {
		if e := plate.CheckBars(at); e != api.OK {
			t.Errorf("CheckBars(%v) = %v", at, e)
		}
	}
}

func TestP3_3_DistributeErrors(t *testing.T) {
	for _, at := range [][]int{{-30, 10, 70}, {0, 1}, {-20000, 20000}} {
		for _, c := range wrongLoads(at[0], at[len(at)-1]) {
			if l, e := plate.Distribute(at, c.l); len(l) != 0 || e != c.want {
				t.Errorf("Distribute(%v, %v) = %v, %v, want %v", at, c.l, l, e, c.want)
			}
		}
	}
}

func TestP3_3_Distribute(t *testing.T) {
	zero := frac(0, 1)
	for _, c := range []struct {
		at    []int
		loads [][2]int
		want  []api.Frac
	}{
		{[]int{0, 100, 300}, [][2]int{{50, 60}, {200, 90}, {300, 10}}, []api.Frac{frac(30, 1), frac(75, 1), frac(55, 1)}},
		{[]int{0, 3}, [][2]int{{1, 10}}, []api.Frac{frac(20, 3), frac(10, 3)}},
		{[]int{0, 3}, nil, []api.Frac{zero, zero}},
		{[]int{0, 3}, [][2]int{}, []api.Frac{zero, zero}},
		{[]int{0, 3, 7}, [][2]int{{1, 0}}, []api.Frac{zero, zero, zero}},
		// A load at a bar is borne by this one alone, at both ends and in between.
		{[]int{-5, 0, 5}, [][2]int{{-5, 7}}, []api.Frac{frac(7, 1), zero, zero}},
		{[]int{-5, 0, 5}, [][2]int{{0, 7}}, []api.Frac{zero, frac(7, 1), zero}},
		{[]int{-5, 0, 5}, [][2]int{{5, 7}}, []api.Frac{zero, zero, frac(7, 1)}},
		// A load between two bars does not reach a third one.
		{[]int{0, 2, 4, 6}, [][2]int{{3, 5}}, []api.Frac{zero, frac(5, 2), frac(5, 2), zero}},
		// Loads upward.
		{[]int{0, 4}, [][2]int{{1, -10}}, []api.Frac{frac(-15, 2), frac(-5, 2)}},
		{[]int{0, 4}, [][2]int{{1, -10}, {1, 10}}, []api.Frac{zero, zero}},
		{[]int{0, 4}, [][2]int{{1, 12}, {3, -12}}, []api.Frac{frac(6, 1), frac(-6, 1)}},
		// At the bar in the middle 1/3 and 5/7 meet.
		{[]int{0, 3, 10}, [][2]int{{1, 1}, {5, 1}}, []api.Frac{frac(2, 3), frac(22, 21), frac(2, 7)}},
		// A numerator and a denominator that are too great for package number.
		{[]int{-20000, -1, 20000}, [][2]int{{-2, 1000000}, {0, 1000000}}, []api.Frac{frac(1000000, 19999), frac(799959998000000, 399999999), frac(1000000, 20001)}},
		{[]int{-20000, -3, 20000}, append(repeated(50, [2]int{-4, 999999}), repeated(50, [2]int{-2, 999998})...), []api.Frac{frac(49999950, 19997), frac(39997939103001200, 399999991), frac(49999900, 20003)}},
		{[]int{-20000, 20000}, repeated(100, [2]int{-20000, 1000000}), []api.Frac{frac(100000000, 1), zero}},
		{[]int{-20000, 19999}, repeated(100, [2]int{19998, -1000000}), []api.Frac{frac(-100000000, 39999), frac(-3999800000000, 39999)}},
	} {
		if l, e := plate.Distribute(c.at, c.loads); !slices.Equal(l, c.want) || e != api.OK {
			t.Errorf("Distribute(%v, %v) = %v, %v, want %v", c.at, c.loads, l, e, c.want)
		}
	}
}

func TestP3_3_DistributeByDefinition(t *testing.T) {
	r := rand.New(rand.NewSource(3))
	for range 3000 {
		at := randomBars(r)
		loads := randomLoads(r, at[0], at[len(at)-1], at...)
		var want []api.Frac
		for _, x := range barsBy(at, loads) {
			want = append(want, fracOf(x))
		}
		if l, e := plate.Distribute(at, loads); !slices.Equal(l, want) || e != api.OK {
			t.Errorf("Distribute(%v, %v) = %v, %v, want %v", at, loads, l, e, want)
		}
	}
}
