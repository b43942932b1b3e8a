package regulation_test

import (
	"math/rand"
	"slices"
	"testing"

	"agraffe/api"
	"agraffe/regulation"
)

func checkFewest(t *testing.T, b api.Bench, want []int, passes int, wantError api.Errno) {
	t.Helper()
	steps, n, e := regulation.Fewest(b)
	wanted(t, "Fewest", steps, e, want, wantError)
	wanted(t, "the passes of Fewest", n, e, passes, wantError)
}

func TestP5_5_Fewest(t *testing.T) {
	checkFewest(t, grand(), []int{3, 0, 0}, 2, api.OK)
	in := grand()
	in.Measures[0].Value = 20
	checkFewest(t, in, []int{0, 0, 0}, 0, api.OK)
	never := grand()
	never.Measures[2].Low, never.Measures[2].High = 21, 25
	checkFewest(t, never, nil, 0, api.ErrNone)
	// Each measure can be brought in, but not both.
	checkFewest(t, api.Bench{Measures: measures(measure("a", 0, 5, 6), measure("b", 0, -6, -5)), Adjustments: adjustments(adjust("x", -10, 10, 10, on("a", 1), on("b", 1)))}, nil, 0, api.ErrNone)
	checkFewest(t, api.Bench{}, nil, 0, api.OK)
	checkFewest(t, api.Bench{Measures: measures(measure("a", 1, 0, 1))}, nil, 0, api.OK)
	checkFewest(t, api.Bench{Measures: measures(measure("a", 2, 0, 1))}, nil, 0, api.ErrNone)
	checkFewest(t, api.Bench{Adjustments: adjustments(adjust("x", -3, 3, 1), adjust("y", -3, 3, 1))}, []int{0, 0}, 0, api.OK)
}

// TestP5_5_Best checks that passes come first, then sizes, then the numbers.
func TestP5_5_Best(t *testing.T) {
	goal := func(low, high int, l ...api.Adjustment) api.Bench {
		return api.Bench{Measures: measures(measure("a", 0, low, high)), Adjustments: l}
	}
	for _, x := range []struct {
		bench  api.Bench
		want   []int
		passes int
	}{
		// Four small steps in one pass, or two great ones in two passes.
		{goal(4, 4, adjust("x", 0, 2, 1, on("a", 2)), adjust("y", 0, 4, 4, on("a", 1))), []int{1, 2}, 1},
		{goal(8, 8, adjust("x", 0, 4, 1, on("a", 4)), adjust("y", 0, 8, 8, on("a", 1))), []int{1, 4}, 1},
		{goal(12, 12, adjust("x", 0, 4, 1, on("a", 4)), adjust("y", 0, 8, 8, on("a", 1))), []int{1, 8}, 1},
		{goal(13, 13, adjust("x", 0, 4, 1, on("a", 4)), adjust("y", 0, 8, 8, on("a", 1))), []int{2, 5}, 2},
		// Of one sum of sizes the first one by the numbers.
		{goal(1, 1, adjust("x", -1, 1, 1, on("a", 1)), adjust("y", -1, 1, 1, on("a", 1))), []int{0, 1}, 1},
		{goal(1, 1, adjust("x", -1, 1, 1, on("a", -1)), adjust("y", -1, 1, 1, on("a", 1))), []int{-1, 0}, 1},
		{goal(-1, -1, adjust("x", -1, 1, 1, on("a", 1)), adjust("y", -1, 1, 1, on("a", 1))), []int{-1, 0}, 1},
		{goal(-1, -1, adjust("x", -1, 1, 1, on("a", -1)), adjust("y", -1, 1, 1, on("a", 1))), []int{0, -1}, 1},
		{goal(2, 9, adjust("x", -5, 5, 5, on("a", 1)), adjust("y", -5, 5, 5, on("a", 1))), []int{0, 2}, 1},
		{goal(2, 9, adjust("x", -5, 5, 1, on("a", 1)), adjust("y", -5, 5, 1, on("a", 1))), []int{1, 1}, 1},
		{goal(2, 9, adjust("x", -5, 5, 5, on("a", -1)), adjust("y", -5, 5, 5, on("a", 1))), []int{-2, 0}, 1},
		// A lesser sum comes ahead of lesser numbers.
		{goal(3, 3, adjust("x", -5, 5, 5, on("a", -1)), adjust("y", -5, 5, 5, on("a", 3))), []int{0, 1}, 1},
		{goal(-3, -3, adjust("x", -5, 5, 5, on("a", 1)), adjust("y", -5, 5, 5, on("a", 3))), []int{0, -1}, 1},
		// An adjustment that does nothing makes no steps.
		{goal(1, 1, adjust("w", -5, 5, 5), adjust("x", -1, 1, 1, on("a", 1))), []int{0, 1}, 1},
		// The ends may be needed.
		{goal(-9, -8, adjust("x", -4, 0, 2, on("a", 2))), []int{-4}, 2},
		{goal(8, 9, adjust("x", 0, 4, 3, on("a", 2))), []int{4}, 2},
	} {
		checkFewest(t, x.bench, x.want, x.passes, api.OK)
	}
}

// TestP5_5_ManyPasses checks that Fewest has no limit of passes.
func TestP5_5_ManyPasses(t *testing.T) {
	for _, n := range []int{50, 51, 1000} {
		checkFewest(t, api.Bench{Measures: measures(measure("a", 0, n, n)), Adjustments: adjustments(adjust("x", 0, 1000, 1, on("a", 1)))}, []int{n}, n, api.OK)
	}
}

func TestP5_5_Tries(t *testing.T) {
	ranges := func(l ...[2]int) api.Bench {
		b := api.Bench{Measures: measures(measure("m", 0, 0, 0))}
		for i, limits := range l {
			b.Adjustments = append(b.Adjustments, adjust(letters(12)[i], limits[0], limits[1], 1, on("m", 1)))
		}
		return b
	}
	for _, x := range []struct {
		bench api.Bench
		right bool
	}{
		{ranges(slices.Repeat([][2]int{{-9, 0}}, 5)...), true},
		{ranges([2]int{0, 99}, [2]int{-499, 500}), true},
		{ranges([2]int{-1000, 1000}, [2]int{0, 48}), true},
		{ranges([2]int{-1000, 1000}, [2]int{0, 49}), false},
		{ranges([2]int{0, 91}, [2]int{-86, 1000}), false}, // 92 times 1087 is 100004
		{ranges(slices.Repeat([][2]int{{0, 9}}, 6)...), false},
		{ranges(slices.Repeat([][2]int{{0, 0}}, 12)...), true},
		{ranges(append(slices.Repeat([][2]int{{0, 0}}, 7), slices.Repeat([][2]int{{0, 9}}, 5)...)...), true},
		{ranges(append(slices.Repeat([][2]int{{0, 9}}, 5), [2]int{-1, 0})...), false},
		{ranges(slices.Repeat([][2]int{{-1000, 1000}}, 12)...), false},
		{ranges(slices.Repeat([][2]int{{-23, 1000}}, 12)...), false}, // 2 to the 120
		{ranges(slices.Repeat([][2]int{{0, 255}}, 8)...), false},     // 2 to the 64
	} {
		if x.right {
			checkFewest(t, x.bench, slices.Repeat([]int{0}, len(x.bench.Adjustments)), 0, api.OK)
			continue
		}
		checkFewest(t, x.bench, nil, 0, api.ErrLarge)
		x.bench.Measures[0].Value = 100000 // too many tries come before none that is right
		checkFewest(t, x.bench, nil, 0, api.ErrLarge)
	}
	// Adjustments without effects count, too.
	b := api.Bench{Adjustments: adjustments(adjust("x", -1000, 1000, 1), adjust("y", 0, 49, 1))}
	checkFewest(t, b, nil, 0, api.ErrLarge)
	b.Adjustments[1].Most = 48
	checkFewest(t, b, []int{0, 0}, 0, api.OK)
}

// TestP5_5_LongSearch looks through 2 to the 16 steps with all effects, of which no others lead as far.
func TestP5_5_LongSearch(t *testing.T) {
	b, far := full(), slices.Repeat([]int{1, 0}, 6)
	for i := range b.Adjustments {
		b.Adjustments[i].Least, b.Adjustments[i].Most = 0, 1
	}
	for i := range 4 {
		b.Adjustments[i].Least, b.Adjustments[i].Most = -1, 2
		far[i] = []int{2, -1}[i%2]
	}
	for i, value := range valuesBy(b, far) {
		b.Measures[i].Value, b.Measures[i].Low, b.Measures[i].High = 0, value-b.Measures[i].Value, value-b.Measures[i].Value
	}
	checkFewest(t, b, far, 1, api.OK)
	for i := range b.Measures {
		b.Measures[i].Low++
		b.Measures[i].High++
	}
	checkFewest(t, b, nil, 0, api.ErrNone)
}

func TestP5_5_RandomBenches(t *testing.T) {
	r := rand.New(rand.NewSource(55))
	found := 0
	for range 1500 {
		b := randomBench(r)
		best := fewestBy(b)
		if best == nil {
			checkFewest(t, b, nil, 0, api.ErrNone)
			continue
		}
		found++
		checkFewest(t, b, best, passesBy(b, best), api.OK)
	}
	if found < 300 || found > 1200 {
		t.Errorf("%d of 1500 benches can be brought in", found)
	}
}
