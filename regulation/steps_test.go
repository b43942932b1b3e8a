package regulation_test

import (
	"math"
	"math/rand"
	"slices"
	"testing"

	"agraffe/api"
	"agraffe/regulation"
)

// wrongSteps are lists that are no steps of the chapter's bench, with their errors.
var wrongSteps = []struct {
	steps []int
	want  api.Errno
}{
	{nil, api.ErrShape}, {[]int{0, 0}, api.ErrShape}, {[]int{0, 0, 0, 0}, api.ErrShape}, {[]int{99, 99}, api.ErrShape}, {[]int{-11, 0, 0, 0}, api.ErrShape},
	{[]int{-11, 0, 0}, api.ErrRange}, {[]int{11, 0, 0}, api.ErrRange}, {[]int{0, -4, 0}, api.ErrRange}, {[]int{0, 4, 0}, api.ErrRange}, {[]int{0, 0, -1}, api.ErrRange}, {[]int{0, 0, 5}, api.ErrRange},
	{[]int{math.MinInt, 0, 0}, api.ErrRange}, {[]int{0, math.MaxInt, 0}, api.ErrRange}, {[]int{0, 0, math.MinInt}, api.ErrRange},
}

func TestP5_2_Values(t *testing.T) {
	for _, x := range []struct{ steps, values, broken []int }{
		{[]int{0, 0, 0}, []int{30, 5, 0}, []int{0}},
		{[]int{3, 0, 0}, []int{18, 8, 0}, nil},
		{[]int{3, -1, 2}, []int{18, 10, 10}, []int{1, 2}},
		{[]int{-10, -3, 4}, []int{70, 1, 20}, []int{0, 2}},
		{[]int{10, 3, 4}, []int{-10, 9, 20}, []int{0, 1, 2}},
		{[]int{5, 3, 1}, []int{10, 4, 5}, nil},
		{[]int{6, 0, 1}, []int{6, 11, 5}, []int{0, 1}},
	} {
		values, e := regulation.Values(grand(), x.steps)
		wanted(t, "Values", values, e, x.values, api.OK)
		broken, e := regulation.Broken(grand(), x.steps)
		wanted(t, "Broken", broken, e, x.broken, api.OK)
	}
	for _, x := range wrongSteps {
		values, e := regulation.Values(grand(), x.steps)
		wanted(t, "Values of wrong steps", values, e, nil, x.want)
		broken, e := regulation.Broken(grand(), x.steps)
		wanted(t, "Broken of wrong steps", broken, e, nil, x.want)
	}
}

// TestP5_2_Ends checks that a value at an end of the tolerance is not broken.
func TestP5_2_Ends(t *testing.T) {
	b := api.Bench{Measures: measures(measure("a", 0, -2, 3)), Adjustments: adjustments(adjust("x", -5, 5, 1, on("a", 1)))}
	for steps := -5; steps <= 5; steps++ {
		var want []int
		if steps < -2 || steps > 3 {
			want = []int{0}
		}
		broken, e := regulation.Broken(b, []int{steps})
		wanted(t, "Broken", broken, e, want, api.OK)
	}
}

func TestP5_2_FullBench(t *testing.T) {
	steps := slices.Repeat([]int{1000, -1000}, 6)
	values, e := regulation.Values(full(), steps)
	wanted(t, "Values", values, e, slices.Repeat([]int{12100000, -12100000}, 6), api.OK)
	broken, e := regulation.Broken(full(), steps)
	wanted(t, "Broken", broken, e, fromTo(0, 11), api.OK)
	values, e = regulation.Values(api.Bench{}, nil)
	wanted(t, "Values of nothing", values, e, nil, api.OK)
	values, e = regulation.Values(api.Bench{}, []int{0})
	wanted(t, "Values of nothing", values, e, nil, api.ErrShape)
}

func TestP5_2_RandomBenches(t *testing.T) {
	r := rand.New(rand.NewSource(52))
	for range 2000 {
		b := randomBench(r)
		steps := randomSteps(r, b)
		values, e := regulation.Values(b, steps)
		wanted(t, "Values", values, e, valuesBy(b, steps), api.OK)
		broken, e := regulation.Broken(b, steps)
		wanted(t, "Broken", broken, e, brokenBy(b, steps), api.OK)
	}
}

func TestP5_9_Apply(t *testing.T) {
	want := grand()
	want.Measures[0].Value, want.Measures[1].Value = 18, 8
	want.Adjustments[0].Least, want.Adjustments[0].Most = -13, 7
	b, e := regulation.Apply(grand(), []int{3, 0, 0})
	wanted(t, "Apply", b, e, want, api.OK)
	b, e = regulation.Apply(grand(), []int{0, 0, 0})
	wanted(t, "Apply of no steps", b, e, grand(), api.OK)
	want = grand()
	want.Measures[0].Value, want.Measures[1].Value, want.Measures[2].Value = 70, -11, 20
	want.Adjustments[0].Least, want.Adjustments[0].Most = 0, 20
	want.Adjustments[1].Least, want.Adjustments[1].Most = -6, 0
	want.Adjustments[2].Least, want.Adjustments[2].Most = -4, 0
	b, e = regulation.Apply(grand(), []int{-10, 3, 4})
	wanted(t, "Apply of all steps", b, e, want, api.OK)
	for _, x := range wrongSteps {
		b, e := regulation.Apply(grand(), x.steps)
		wanted(t, "Apply of wrong steps", b, e, api.Bench{}, x.want)
	}
	b, e = regulation.Apply(api.Bench{}, nil)
	wanted(t, "Apply to nothing", b, e, api.Bench{}, api.OK)
}

func TestP5_9_Limits(t *testing.T) {
	for _, x := range []struct {
		value, by, least, most, steps int
		want                          api.Errno
	}{
		{99999, 1, -1, 1, 1, api.OK}, {100000, 1, -1, 1, 1, api.ErrRange}, {100000, -1, -1, 1, 1, api.OK}, {99999, 2, -1, 1, 1, api.ErrRange}, {100000, 1, -1, 1, 0, api.OK},
		{-99999, -1, -1, 1, 1, api.OK}, {-100000, -1, -1, 1, 1, api.ErrRange}, {-100000, 1, -1, 1, -1, api.ErrRange}, {0, 1000, -100, 1000, 100, api.OK}, {0, 1000, -100, 1000, 101, api.ErrRange},
		{0, 1, -1000, 1000, 1, api.ErrRange}, {0, 1, -1000, 1000, -1, api.ErrRange}, {0, 1, -1000, 1000, 0, api.OK}, {0, 1, -999, 1, 1, api.OK}, {0, 1, -999, 2, 2, api.ErrRange}, {0, 1, -1, 999, -1, api.OK}, {0, 1, -2, 999, -2, api.ErrRange},
		{0, 1, -500, 500, 500, api.OK}, {0, 1, -500, 501, 501, api.ErrRange}, {0, 1, -500, 500, -500, api.OK}, {0, 1, -501, 500, -501, api.ErrRange}, {0, 1, 0, 1000, 1000, api.OK}, {0, 1, -1000, 0, -1000, api.OK},
	} {
		// The fault is at the second measure and the second adjustment.
		b := api.Bench{Measures: measures(free("a", 0), free("b", x.value)), Adjustments: adjustments(adjust("x", -1, 1, 1, on("a", 1)), adjust("y", x.least, x.most, 1, on("b", x.by)))}
		var want api.Bench
		if x.want == api.OK {
			want = copied(b)
			want.Measures[0].Value, want.Measures[1].Value = 1, x.value+x.by*x.steps
			want.Adjustments[0].Least, want.Adjustments[0].Most = -2, 0
			want.Adjustments[1].Least, want.Adjustments[1].Most = x.least-x.steps, x.most-x.steps
		}
		got, e := regulation.Apply(b, []int{1, x.steps})
		wanted(t, "Apply of "+text(x), got, e, want, x.want)
	}
	// A value that is too great behind some of the steps only.
	b := api.Bench{Measures: measures(free("a", 100000)), Adjustments: adjustments(adjust("x", 0, 9, 1, on("a", 1)), adjust("y", 0, 9, 1, on("a", -1)))}
	want := copied(b)
	want.Measures[0].Value = 99999
	want.Adjustments[0].Least, want.Adjustments[0].Most, want.Adjustments[1].Least, want.Adjustments[1].Most = -8, 1, -9, 0
	got, e := regulation.Apply(b, []int{8, 9})
	wanted(t, "Apply", got, e, want, api.OK)
}
