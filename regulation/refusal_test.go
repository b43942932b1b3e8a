package regulation_test

import (
	"math/rand"
	"slices"
	"testing"

	"agraffe/api"
	"agraffe/regulation"
)

func TestP5_6_Reach(t *testing.T) {
	for measure, want := range [][2]int{{-10, 70}, {-11, 21}, {0, 20}} {
		reach, e := regulation.Reach(grand(), measure)
		wanted(t, "Reach", reach, e, want, api.OK)
	}
	for _, measure := range outside(0, 2) {
		reach, e := regulation.Reach(grand(), measure)
		wanted(t, "Reach of no measure", reach, e, [2]int{}, api.ErrMissing)
	}
	reach, e := regulation.Reach(api.Bench{}, 0)
	wanted(t, "Reach in nothing", reach, e, [2]int{}, api.ErrMissing)
	// A measure on which there is no effect.
	b := api.Bench{Measures: measures(measure("a", 7, 0, 1), measure("b", -4, 0, 1)), Adjustments: adjustments(adjust("x", -5, 3, 1, on("a", 2)), adjust("y", -5, 3, 1))}
	reach, e = regulation.Reach(b, 1)
	wanted(t, "Reach of a measure without effects", reach, e, [2]int{-4, -4}, api.OK)
	reach, e = regulation.Reach(b, 0)
	wanted(t, "Reach", reach, e, [2]int{-3, 13}, api.OK)
	// An effect below 0 turns the ends.
	b.Adjustments[0].Effects[0].By = -2
	reach, e = regulation.Reach(b, 0)
	wanted(t, "Reach", reach, e, [2]int{1, 17}, api.OK)
	reach, e = regulation.Reach(full(), 1)
	wanted(t, "Reach in the full bench", reach, e, [2]int{-12100000, 11900000}, api.OK)
}

func TestP5_6_OutOfReach(t *testing.T) {
	out, e := regulation.OutOfReach(grand())
	wanted(t, "OutOfReach", out, e, nil, api.OK)
	for _, x := range []struct {
		low, high int
		out       bool
	}{{20, 25, false}, {21, 25, true}, {-5, -1, true}, {-5, 0, false}, {3, 4, false}, {-100, 100, false}, {0, 0, false}, {20, 20, false}, {21, 21, true}, {-1, -1, true}} {
		b := grand()
		b.Measures[2].Low, b.Measures[2].High = x.low, x.high
		var want []int
		if x.out {
			want = []int{2}
		}
		out, e := regulation.OutOfReach(b)
		wanted(t, "OutOfReach of "+text(x), out, e, want, api.OK)
	}
	b := api.Bench{Measures: measures(measure("a", 0, 1, 2), measure("b", 0, 0, 1), measure("c", 0, -3, -2), measure("d", 0, -3, -1)), Adjustments: adjustments(adjust("x", -1, 0, 1, on("d", 1)))}
	out, e = regulation.OutOfReach(b)
	wanted(t, "OutOfReach", out, e, []int{0, 2}, api.OK)
	out, e = regulation.OutOfReach(api.Bench{})
	wanted(t, "OutOfReach of nothing", out, e, nil, api.OK)
}

func TestP5_6_RandomBenches(t *testing.T) {
	r := rand.New(rand.NewSource(56))
	for range 2000 {
		b := randomBench(r)
		corners := cornerValues(b)
		var out []int
		for i, m := range b.Measures {
			weights := make([]int, len(b.Measures))
			weights[i] = 1
			want := limitsBy(weights, corners)
			reach, e := regulation.Reach(b, i)
			wanted(t, "Reach", reach, e, want, api.OK)
			if want[1] < m.Low || want[0] > m.High {
				out = append(out, i)
			}
		}
		got, e := regulation.OutOfReach(b)
		wanted(t, "OutOfReach", got, e, out, api.OK)
	}
}

// together is two measures that only change together, and a free one.
func together() api.Bench {
	return api.Bench{
		Measures:    measures(measure("a", 0, 5, 6), measure("b", 0, -6, -5), measure("c", 0, 0, 0)),
		Adjustments: adjustments(adjust("x", -10, 10, 10, on("a", 1), on("b", 1))),
	}
}

func TestP5_7_CheckRefusal(t *testing.T) {
	far := grand()
	far.Measures[2].Low, far.Measures[2].High = 21, 25
	for _, x := range []struct {
		bench   api.Bench
		weights []int
		want    api.Errno
	}{
		{far, []int{0, 0, 1}, api.OK}, {far, []int{0, 0, -1}, api.OK}, {far, []int{0, 0, 7}, api.OK}, {far, []int{0, 0, 100}, api.OK}, {far, []int{0, 0, -100}, api.OK},
		{far, []int{0, 0, 0}, api.ErrProof}, {far, []int{1, 0, 0}, api.ErrProof}, {far, []int{1, 0, 1}, api.ErrProof}, {far, []int{0, 1, 100}, api.OK}, {far, []int{1, 0, 100}, api.OK},
		{far, []int{0, 0, 101}, api.ErrRange}, {far, []int{0, 0, -101}, api.ErrRange}, {far, []int{101, 0, 1}, api.ErrRange}, {far, []int{0, -101, 1}, api.ErrRange},
		{far, nil, api.ErrShape}, {far, []int{0, 1}, api.ErrShape}, {far, []int{0, 0, 1, 0}, api.ErrShape}, {far, []int{999, 999}, api.ErrShape},
		{together(), []int{1, -1, 0}, api.OK}, {together(), []int{-1, 1, 0}, api.OK}, {together(), []int{1, 1, 0}, api.ErrProof}, {together(), []int{1, 0, 0}, api.ErrProof}, {together(), []int{2, -1, 0}, api.OK}, {together(), []int{3, -1, 0}, api.ErrProof}, {together(), []int{3, -3, 100}, api.OK}, {together(), []int{11, -10, 0}, api.OK}, {together(), []int{9, -8, 0}, api.OK},
		{grand(), []int{0, 0, 1}, api.ErrProof}, {grand(), []int{-100, 100, 100}, api.ErrProof},
		{api.Bench{}, nil, api.ErrProof}, {api.Bench{}, []int{0}, api.ErrShape},
		{full(), slices.Repeat([]int{100, -100}, 6), api.ErrProof},
	} {
		if e := regulation.CheckRefusal(x.bench, x.weights); e != x.want {
			t.Errorf("CheckRefusal(%v, %v) = %v, want %v", x.bench, x.weights, e, x.want)
		}
	}
	for _, weight := range outside(-100, 100) {
		if e := regulation.CheckRefusal(far, []int{0, weight, 1}); e != api.ErrRange {
			t.Errorf("CheckRefusal with the weight %d = %v", weight, e)
		}
	}
}

// TestP5_7_Touching checks that ranges that touch have a number in common.
func TestP5_7_Touching(t *testing.T) {
	b := api.Bench{Measures: measures(measure("a", 3, 0, 0), measure("b", 0, 0, 0)), Adjustments: adjustments(adjust("x", -2, 1, 1, on("a", 2), on("b", 1)))}
	for _, x := range []struct {
		low, high int
		want      api.Errno
	}{{-9, -2, api.OK}, {-9, -1, api.ErrProof}, {5, 9, api.ErrProof}, {6, 9, api.OK}, {0, 0, api.ErrProof}} {
		b.Measures[0].Low, b.Measures[0].High = x.low, x.high
		for _, weights := range [][]int{{1, 0}, {-1, 0}, {50, 0}} {
			if e := regulation.CheckRefusal(b, weights); e != x.want {
				t.Errorf("CheckRefusal of %v with %v = %v, want %v", x, weights, e, x.want)
			}
		}
	}
	// a - 2 b is 3 always.
	for high, want := range []api.Errno{api.OK, api.OK, api.OK, api.ErrProof, api.ErrProof} {
		b.Measures[0].Low, b.Measures[0].High = 0, high
		for _, weights := range [][]int{{1, -2}, {-1, 2}, {50, -100}} {
			if e := regulation.CheckRefusal(b, weights); e != want {
				t.Errorf("CheckRefusal of %d with %v = %v, want %v", high, weights, e, want)
			}
		}
	}
}

func TestP5_7_Refusal(t *testing.T) {
	far := grand()
	far.Measures[2].Low, far.Measures[2].High = 21, 25
	farther := copied(far)
	farther.Measures[0].Low, farther.Measures[0].High = 71, 99
	for _, x := range []struct {
		bench api.Bench
		want  []int
		e     api.Errno
	}{
		{far, []int{0, 0, -1}, api.OK},
		{farther, []int{-1, 0, 0}, api.OK}, // -1, 0, 0 comes before 0, 0, -1
		{together(), []int{-1, 1, 0}, api.OK},
		{grand(), nil, api.ErrNone},
		{api.Bench{}, nil, api.ErrNone},
		{api.Bench{Measures: measures(measure("a", 0, 0, 0))}, nil, api.ErrNone},
		{api.Bench{Measures: measures(measure("a", 1, 0, 0))}, []int{-1}, api.OK},
		// a - 2 b is always 3: no weights from -1 to 1 prove it.
		{api.Bench{Measures: measures(measure("a", 3, 0, 1), measure("b", 0, 0, 0)), Adjustments: adjustments(adjust("x", -2, 1, 1, on("a", 2), on("b", 1)))}, nil, api.ErrNone},
		// One weight that comes late is better than two that come early.
		{api.Bench{Measures: measures(measure("a", 0, 5, 6), measure("b", 0, -6, -5), measure("c", 0, 1, 1)), Adjustments: adjustments(adjust("x", -10, 10, 10, on("a", 1), on("b", 1)))}, []int{0, 0, -1}, api.OK},
	} {
		weights, e := regulation.Refusal(x.bench)
		wanted(t, "Refusal of "+text(x.bench), weights, e, x.want, x.e)
	}
}

func TestP5_7_ManyMeasures(t *testing.T) {
	for n := range 13 {
		b := many(n, 1)
		want, e := []int(nil), api.ErrNone
		if n > 6 {
			e = api.ErrLarge
		}
		got, f := regulation.Refusal(b)
		wanted(t, "Refusal", got, f, want, e)
		if n == 0 {
			continue
		}
		b.Measures[n-1].Value = 100
		if n <= 6 {
			want, e = make([]int, n), api.OK
			want[n-1] = -1
		}
		got, f = regulation.Refusal(b)
		wanted(t, "Refusal", got, f, want, e)
	}
	// All six weights are needed: the sum of all measures is never changed, and 6 too great.
	var b api.Bench
	names := letters(6)
	for _, name := range names {
		b.Measures = append(b.Measures, measure(name, 1, -6, 0))
	}
	for i, name := range names[1:] {
		b.Adjustments = append(b.Adjustments, adjust(name, -50, 50, 50, on(names[i], 1), on(name, -1)))
	}
	got, e := regulation.Refusal(b)
	wanted(t, "Refusal of six measures", got, e, []int{-1, -1, -1, -1, -1, -1}, api.OK)
}

func TestP5_7_RandomBenches(t *testing.T) {
	r := rand.New(rand.NewSource(57))
	found := 0
	for range 1500 {
		b := randomBench(r)
		weights, e := regulation.Refusal(b)
		if best := refusalBy(b); best != nil {
			found++
			wanted(t, "Refusal", weights, e, best, api.OK)
		} else {
			wanted(t, "Refusal", weights, e, nil, api.ErrNone)
		}
		weights = nil
		for range b.Measures {
			weights = append(weights, among(r, -3, 3))
		}
		want := api.ErrProof
		if provesBy(b, weights) {
			want = api.OK
		}
		if e := regulation.CheckRefusal(b, weights); e != want {
			t.Errorf("CheckRefusal(%v, %v) = %v, want %v", b, weights, e, want)
		}
	}
	if found < 300 || found > 1200 {
		t.Errorf("%d of 1500 benches are refused", found)
	}
}
