package plate_test

import (
	"math"
	"math/big"
	"math/rand"
	"testing"

	"agraffe/api"
	"agraffe/plate"
)

// wrongGirder is a girder with the error of CheckGirder.
type wrongGirder struct {
	g    api.Girder
	want api.Errno
}

func wrongGirders() []wrongGirder {
	var l []wrongGirder
	for _, n := range tooGreat(20000) {
		l = append(l, wrongGirder{api.Girder{A: n, B: 5, Most: 1}, api.ErrRange}, wrongGirder{api.Girder{A: 5, B: n, Most: 1}, api.ErrRange})
	}
	for _, n := range outside(0, 1000000000000) {
		l = append(l, wrongGirder{api.Girder{A: 0, B: 5, Most: n}, api.ErrRange}, wrongGirder{api.Girder{A: 5, B: 0, Most: n}, api.ErrRange})
	}
	for _, ends := range [][2]int{{0, 0}, {1, 0}, {20000, -20000}, {-20000, -20000}, {5, 4}} {
		l = append(l, wrongGirder{api.Girder{A: ends[0], B: ends[1], Most: 1}, api.ErrOrder})
	}
	return l
}

// refusedGirder checks that all calls with a girder and loads return an error, and nothing else.
func refusedGirder(t *testing.T, g api.Girder, l [][2]int, x int, want api.Errno) {
	t.Helper()
	if r, e := plate.Reactions(g, l); r != [2]api.Frac{} || e != want {
		t.Errorf("Reactions(%v, %v) = %v, %v, want %v", g, l, r, e, want)
	}
	if f, e := plate.Shear(g, l, x); f != (api.Frac{}) || e != want {
		t.Errorf("Shear(%v, %v, %v) = %v, %v, want %v", g, l, x, f, e, want)
	}
	if f, e := plate.Bending(g, l, x); f != (api.Frac{}) || e != want {
		t.Errorf("Bending(%v, %v, %v) = %v, %v, want %v", g, l, x, f, e, want)
	}
	if at, f, e := plate.Worst(g, l); at != 0 || f != (api.Frac{}) || e != want {
		t.Errorf("Worst(%v, %v) = %v, %v, %v, want %v", g, l, at, f, e, want)
	}
	if e := plate.Holds(g, l); e != want {
		t.Errorf("Holds(%v, %v) = %v, want %v", g, l, e, want)
	}
}

func TestP3_4_GirderErrors(t *testing.T) {
	for _, c := range wrongGirders() {
		if e := plate.CheckGirder(c.g); e != c.want {
			t.Errorf("CheckGirder(%v) = %v, want %v", c.g, e, c.want)
		}
		// The girder comes before the loads and the place.
		for _, l := range [][][2]int{nil, repeated(101, [2]int{math.MaxInt, math.MinInt}), {{30000, 30000000}}} {
			for _, x := range []int{0, math.MinInt, math.MaxInt} {
				refusedGirder(t, c.g, l, x, c.want)
			}
		}
	}
	for _, g := range []api.Girder{{A: -20000, B: 20000}, {A: -20000, B: -19999, Most: 1000000000000}, {A: 19999, B: 20000, Most: 1}, exampleGirder()} {
		if e := plate.CheckGirder(g); e != api.OK {
			t.Errorf("CheckGirder(%v) = %v", g, e)
		}
		// The loads come before the place.
		for _, c := range wrongLoads(g.A, g.B) {
			for _, x := range []int{g.A, g.A - 1, math.MaxInt} {
				refusedGirder(t, g, c.l, x, c.want)
			}
		}
		for _, x := range append(outside(g.A, g.B), g.A-1, g.B+1) {
			for _, l := range [][][2]int{nil, {{g.A, 5}}} {
				if f, e := plate.Shear(g, l, x); f != (api.Frac{}) || e != api.ErrRange {
					t.Errorf("Shear(%v, %v, %v) = %v, %v", g, l, x, f, e)
				}
				if f, e := plate.Bending(g, l, x); f != (api.Frac{}) || e != api.ErrRange {
					t.Errorf("Bending(%v, %v, %v) = %v, %v", g, l, x, f, e)
				}
			}
		}
	}
}

func TestP3_4_Reactions(t *testing.T) {
	zero := frac(0, 1)
	for _, c := range []struct {
		g    api.Girder
		l    [][2]int
		want [2]api.Frac
	}{
		{exampleGirder(), exampleLoads(), [2]api.Frac{frac(20, 1), frac(20, 1)}},
		{exampleGirder(), nil, [2]api.Frac{zero, zero}},
		{exampleGirder(), [][2]int{{0, 7}}, [2]api.Frac{frac(7, 1), zero}},
		{exampleGirder(), [][2]int{{100, 7}}, [2]api.Frac{zero, frac(7, 1)}},
		{api.Girder{A: -1, B: 2}, [][2]int{{0, 10}}, [2]api.Frac{frac(20, 3), frac(10, 3)}},
		{api.Girder{A: -1, B: 2}, [][2]int{{0, -10}}, [2]api.Frac{frac(-20, 3), frac(-10, 3)}},
		{api.Girder{A: 0, B: 4}, [][2]int{{1, 12}, {3, -12}}, [2]api.Frac{frac(6, 1), frac(-6, 1)}},
		{api.Girder{A: -20000, B: 20000}, repeated(100, [2]int{19999, 1000000}), [2]api.Frac{frac(2500, 1), frac(99997500, 1)}},
	} {
		if r, e := plate.Reactions(c.g, c.l); r != c.want || e != api.OK {
			t.Errorf("Reactions(%v, %v) = %v, %v, want %v", c.g, c.l, r, e, c.want)
		}
	}
}

func TestP3_4_ShearAndBending(t *testing.T) {
	third := api.Girder{A: -1, B: 2}
	support := [][2]int{{0, 7}, {100, 9}, {50, 4}}
	for _, c := range []struct {
		g              api.Girder
		l              [][2]int
		x              int
		shear, bending api.Frac
	}{
		{exampleGirder(), exampleLoads(), 0, frac(20, 1), frac(0, 1)},
		{exampleGirder(), exampleLoads(), 19, frac(20, 1), frac(380, 1)},
		{exampleGirder(), exampleLoads(), 20, frac(10, 1), frac(400, 1)},
		{exampleGirder(), exampleLoads(), 40, frac(10, 1), frac(600, 1)},
		{exampleGirder(), exampleLoads(), 60, frac(-20, 1), frac(800, 1)},
		{exampleGirder(), exampleLoads(), 100, frac(-20, 1), frac(0, 1)},
		{exampleGirder(), nil, 50, frac(0, 1), frac(0, 1)},
		{third, [][2]int{{0, 10}}, -1, frac(20, 3), frac(0, 1)},
		{third, [][2]int{{0, 10}}, 0, frac(-10, 3), frac(20, 3)},
		{third, [][2]int{{0, 10}}, 1, frac(-10, 3), frac(10, 3)},
		{third, [][2]int{{0, -10}}, 1, frac(10, 3), frac(-10, 3)},
		// Loads on supports count at once, and bend nothing.
		{exampleGirder(), support, 0, frac(2, 1), frac(0, 1)},
		{exampleGirder(), support, 49, frac(2, 1), frac(98, 1)},
		{exampleGirder(), support, 99, frac(-2, 1), frac(2, 1)},
		{exampleGirder(), support, 100, frac(-11, 1), frac(0, 1)},
		// The greatest numbers.
		{api.Girder{A: -20000, B: 20000}, repeated(100, [2]int{0, 1000000}), 0, frac(-50000000, 1), frac(1000000000000, 1)},
		{api.Girder{A: -20000, B: 19999}, repeated(100, [2]int{0, -1000000}), 0, frac(2000000000000, 39999), frac(-39998000000000000, 39999)},
	} {
		if f, e := plate.Shear(c.g, c.l, c.x); f != c.shear || e != api.OK {
			t.Errorf("Shear(%v, %v, %v) = %v, %v, want %v", c.g, c.l, c.x, f, e, c.shear)
		}
		if f, e := plate.Bending(c.g, c.l, c.x); f != c.bending || e != api.OK {
			t.Errorf("Bending(%v, %v, %v) = %v, %v, want %v", c.g, c.l, c.x, f, e, c.bending)
		}
	}
}

func TestP3_4_Worst(t *testing.T) {
	for _, c := range []struct {
		g    api.Girder
		l    [][2]int
		at   int
		want api.Frac
	}{
		{exampleGirder(), exampleLoads(), 60, frac(800, 1)},
		// Without loads it is A, also one that is not 0.
		{exampleGirder(), nil, 0, frac(0, 1)},
		{api.Girder{A: 7, B: 9}, [][2]int{}, 7, frac(0, 1)},
		{api.Girder{A: -7, B: 9}, nil, -7, frac(0, 1)},
		// With loads that bend nothing it is the first place of one, by places.
		{exampleGirder(), [][2]int{{100, 5}, {0, 7}}, 0, frac(0, 1)},
		{exampleGirder(), [][2]int{{100, 5}}, 100, frac(0, 1)},
		{exampleGirder(), [][2]int{{60, 0}, {30, 0}, {90, 0}}, 30, frac(0, 1)},
		{exampleGirder(), [][2]int{{30, 4}, {30, -4}}, 30, frac(0, 1)},
		// Of equal sizes the first place counts, by places and not by the list, whatever the sign.
		{api.Girder{A: 0, B: 6}, [][2]int{{4, 3}, {2, 3}}, 2, frac(6, 1)},
		{api.Girder{A: 0, B: 6}, [][2]int{{2, 3}, {4, 3}}, 2, frac(6, 1)},
		{api.Girder{A: 0, B: 6}, [][2]int{{4, 3}, {2, -3}}, 2, frac(-2, 1)},
		{api.Girder{A: 0, B: 6}, [][2]int{{4, -3}, {2, 3}}, 2, frac(2, 1)},
		{api.Girder{A: 0, B: 6}, [][2]int{{5, 0}, {3, -4}, {3, 0}}, 3, frac(-6, 1)},
		// The greatest in size may be one below 0.
		{exampleGirder(), [][2]int{{10, 10}, {50, -100}}, 50, frac(-2450, 1)},
		{api.Girder{A: 0, B: 3}, [][2]int{{1, 1}}, 1, frac(2, 3)},
		// A load of nothing has a place, too: between two equal ones the bending is the same.
		{api.Girder{A: 0, B: 6}, [][2]int{{4, 3}, {3, 0}, {2, 3}}, 2, frac(6, 1)},
	} {
		if at, f, e := plate.Worst(c.g, c.l); at != c.at || f != c.want || e != api.OK {
			t.Errorf("Worst(%v, %v) = %v, %v, %v, want %v, %v", c.g, c.l, at, f, e, c.at, c.want)
		}
	}
}

func TestP3_4_Holds(t *testing.T) {
	for _, c := range []struct {
		ends        [2]int
		l           [][2]int
		least       int // the least bending that holds it
		withoutLoad bool
	}{
		{[2]int{0, 100}, exampleLoads(), 800, false},
		{[2]int{0, 100}, [][2]int{{60, -30}, {20, -10}}, 800, false},
		{[2]int{0, 3}, [][2]int{{1, 1}}, 1, false},
		{[2]int{0, 3}, [][2]int{{1, -1}}, 1, false},
		{[2]int{-1, 2}, [][2]int{{0, 10}}, 7, false},
		{[2]int{0, 100}, [][2]int{{10, 10}, {50, -100}}, 2450, false},
		{[2]int{0, 100}, nil, 0, true},
		{[2]int{0, 100}, [][2]int{{0, 1000000}, {100, 1000000}}, 0, true},
		{[2]int{-20000, 20000}, repeated(100, [2]int{0, 1000000}), 1000000000000, false},
	} {
		for _, most := range []int{c.least, c.least + 1, 1000000000000} {
			g := api.Girder{A: c.ends[0], B: c.ends[1], Most: min(most, 1000000000000)}
			if e := plate.Holds(g, c.l); e != api.OK {
				t.Errorf("Holds(%v, %v) = %v", g, c.l, e)
			}
		}
		for _, most := range []int{0, c.least - 1} {
			g := api.Girder{A: c.ends[0], B: c.ends[1], Most: most}
			if e := plate.Holds(g, c.l); !c.withoutLoad && e != api.ErrBreak {
				t.Errorf("Holds(%v, %v) = %v", g, c.l, e)
			}
		}
	}
}

func TestP3_4_ByDefinition(t *testing.T) {
	r := rand.New(rand.NewSource(4))
	for range 2000 {
		g := randomGirder(r)
		l := randomLoads(r, g.A, g.B, g.A, g.B, (g.A+g.B)/2)
		x := among(r, g.A, g.B)
		if len(l) > 0 && r.Intn(2) == 0 {
			x = l[0][0]
		}
		bars := barsBy([]int{g.A, g.B}, l)
		if f, e := plate.Reactions(g, l); f != [2]api.Frac{fracOf(bars[0]), fracOf(bars[1])} || e != api.OK {
			t.Errorf("Reactions(%v, %v) = %v, %v, want %v", g, l, f, e, bars)
		}
		if f, e := plate.Shear(g, l, x); f != fracOf(shearBy(g, l, x)) || e != api.OK {
			t.Errorf("Shear(%v, %v, %v) = %v, %v, want %v", g, l, x, f, e, shearBy(g, l, x))
		}
		if f, e := plate.Bending(g, l, x); f != fracOf(bendingBy(g, l, x)) || e != api.OK {
			t.Errorf("Bending(%v, %v, %v) = %v, %v, want %v", g, l, x, f, e, bendingBy(g, l, x))
		}
		at, most := worstBy(g, l)
		if x, f, e := plate.Worst(g, l); x != at || f != fracOf(most) || e != api.OK {
			t.Errorf("Worst(%v, %v) = %v, %v, %v, want %v, %v", g, l, x, f, e, at, most)
		}
		want := api.OK
		if new(big.Rat).Abs(most).Cmp(rat(g.Most)) > 0 {
			want = api.ErrBreak
		}
		if e := plate.Holds(g, l); e != want {
			t.Errorf("Holds(%v, %v) = %v, want %v", g, l, e, want)
		}
	}
}
