package regulation_test

import (
	"math/rand"
	"testing"

	"agraffe/api"
	"agraffe/regulation"
)

func TestP5_8_Sweep(t *testing.T) {
	for _, x := range []struct{ steps, want []int }{
		{[]int{0, 0, 0}, []int{2, 1, 0}},
		{[]int{2, 1, 0}, []int{4, 2, 0}},
		{[]int{4, 2, 0}, []int{4, 2, 0}},
		{[]int{-10, 0, 4}, []int{-8, -1, 0}},
		{[]int{9, 3, 4}, []int{7, 3, 0}},
		{[]int{10, -3, 2}, []int{8, -2, 0}},
	} {
		steps, e := regulation.Sweep(grand(), x.steps)
		wanted(t, "Sweep from "+text(x.steps), steps, e, x.want, api.OK)
		if got := sweepBy(grand(), x.steps); text(got) != text(x.want) {
			t.Errorf("the model: %v, want %v", got, x.want)
		}
	}
	for _, x := range wrongSteps {
		steps, e := regulation.Sweep(grand(), x.steps)
		wanted(t, "Sweep from wrong steps", steps, e, nil, x.want)
	}
	steps, e := regulation.Sweep(api.Bench{}, nil)
	wanted(t, "Sweep of nothing", steps, e, nil, api.OK)
}

// TestP5_8_Nearest looks at a single adjustment of a single measure.
func TestP5_8_Nearest(t *testing.T) {
	for _, x := range []struct {
		value, low, high, by, least, most, pass, from, want int
	}{
		{0, 10, 20, 5, -9, 9, 9, 0, 3},
		{0, 10, 20, 5, -9, 9, 2, 0, 2},
		{0, 10, 20, 5, -9, 1, 9, 0, 1},
		{0, 10, 20, -5, -9, 9, 9, 0, -3},
		{0, 10, 20, -5, -2, 9, 9, 0, -2},
		{30, 10, 20, 5, -9, 9, 9, 0, -3},
		{15, 10, 20, 5, -9, 9, 9, 0, 0},
		// 15 is as near to 0 as to 30: fewer steps.
		{0, 15, 15, 30, -9, 9, 9, 0, 0},
		{30, 15, 15, 30, -9, 9, 9, 0, 0},
		{-30, 15, 15, 30, -9, 9, 9, 0, 1},
		{60, 15, 15, 30, -9, 9, 9, 0, -1},
		{60, 15, 15, -30, -9, 9, 9, 0, 1},
		// Twice the value is looked at: the middle of 0 and 1 is as near to 0 as to 1.
		{0, 0, 1, 1, -9, 9, 9, 0, 0}, {1, 0, 1, 1, -9, 9, 9, 0, 0}, {2, 0, 1, 1, -9, 9, 9, 0, -1}, {-1, 0, 1, 1, -9, 9, 9, 0, 1}, {-1, -2, -1, 1, -9, 9, 9, 0, 0}, {-3, -2, -1, 1, -9, 9, 9, 0, 1}, {0, -2, -1, 1, -9, 9, 9, 0, -1},
		// A measure that is not broken is still brought nearer.
		{11, 10, 20, 1, -9, 9, 9, 0, 4},
		// From steps that are made already.
		{0, 10, 20, 5, -9, 9, 1, 5, 4}, {0, 10, 20, 5, -9, 9, 9, 9, 3}, {0, 10, 20, 5, -2, 2, 9, 2, 2}, {0, 10, 20, 5, -2, 2, 9, -2, 2}, {0, 10, 20, 5, -2, 2, 3, -2, 1}, {0, -20, -10, 5, -2, 2, 3, 2, -1}, {0, -20, -10, 5, 0, 2, 3, 2, 0},
		{0, 5, 5, 1, 0, 0, 9, 0, 0},
		{100000, -100000, -100000, 1000, -1000, 1000, 1000, 0, -200}, {100000, -100000, -100000, 1, -1000, 1000, 1000, 1000, 0}, {100000, -100000, -100000, 1, -1000, 1000, 1000, 0, -1000},
	} {
		b := api.Bench{Measures: measures(measure("a", x.value, x.low, x.high)), Adjustments: adjustments(adjust("x", x.least, x.most, x.pass, on("a", x.by)))}
		steps, e := regulation.Sweep(b, []int{x.from})
		wanted(t, "Sweep of "+text(x), steps, e, []int{x.want}, api.OK)
	}
}

// TestP5_8_InTheOrder checks that a sweep goes through the adjustments in their order, and sees what was changed before.
func TestP5_8_InTheOrder(t *testing.T) {
	b := api.Bench{
		Measures:    measures(measure("a", 0, 6, 6), measure("b", 0, 0, 0), measure("c", 50, 0, 0)),
		Adjustments: adjustments(adjust("x", -9, 9, 9, on("a", 2), on("b", 3)), adjust("y", -9, 9, 9, on("b", 1), on("a", 4)), adjust("z", -9, 9, 9), adjust("w", -9, 9, 9, on("a", 1), on("c", 1))),
	}
	steps, e := regulation.Sweep(b, []int{0, 0, 4, 0})
	wanted(t, "Sweep", steps, e, []int{3, -9, 4, 9}, api.OK)
	b.Adjustments[0].After = []string{"y", "w"}
	steps, e = regulation.Sweep(b, []int{0, 0, 4, 0})
	wanted(t, "Sweep with x behind y and w", steps, e, []int{0, 0, 4, 6}, api.OK)
	b.Adjustments[1].After = []string{"w"}
	steps, e = regulation.Sweep(b, []int{1, 0, -3, 0})
	wanted(t, "Sweep with x behind y behind w", steps, e, []int{7, -3, -3, 4}, api.OK)
}

func TestP5_8_Settle(t *testing.T) {
	in := grand()
	in.Measures[0].Value = 20
	stuck := api.Bench{Measures: measures(measure("a", 0, 9, 9)), Adjustments: adjustments(adjust("x", 0, 5, 1, on("a", 1)))}
	// Each sweep takes back what the one before did.
	restless := api.Bench{Measures: measures(measure("a", 0, 1, 1), measure("b", 0, 0, 0)), Adjustments: adjustments(adjust("x", -5, 5, 1, on("a", 1), on("b", 1)), adjust("y", -5, 5, 1, on("b", 1), on("a", 1)))}
	long := api.Bench{Measures: measures(measure("a", 0, 100, 100)), Adjustments: adjustments(adjust("x", 0, 1000, 1, on("a", 1)))}
	longer := copied(long)
	longer.Measures[0].Low, longer.Measures[0].High = 101, 101
	var hundred [][]int
	for n := range 100 {
		hundred = append(hundred, []int{n + 1})
	}
	for _, x := range []struct {
		bench api.Bench
		most  int
		want  [][]int
		e     api.Errno
	}{
		{grand(), 2, [][]int{{2, 1, 0}, {4, 2, 0}}, api.OK}, {grand(), 100, [][]int{{2, 1, 0}, {4, 2, 0}}, api.OK}, {grand(), 1, nil, api.ErrNone}, {grand(), 0, nil, api.ErrNone},
		{in, 0, nil, api.OK}, {in, 100, nil, api.OK}, {in, 101, nil, api.ErrRange}, {in, -1, nil, api.ErrRange},
		{api.Bench{}, 0, nil, api.OK}, {api.Bench{}, 5, nil, api.OK}, {api.Bench{Measures: measures(measure("a", 2, 0, 1))}, 100, nil, api.ErrNone},
		{stuck, 100, nil, api.ErrNone}, {restless, 100, nil, api.ErrNone},
		{long, 100, hundred, api.OK}, {long, 99, nil, api.ErrNone}, {longer, 100, nil, api.ErrNone},
	} {
		sweeps, e := regulation.Settle(x.bench, x.most)
		wanted(t, "Settle of "+text(x.bench), sweeps, e, x.want, x.e)
	}
	for _, most := range outside(0, 100) {
		sweeps, e := regulation.Settle(grand(), most)
		wanted(t, "Settle with wrong sweeps", sweeps, e, nil, api.ErrRange)
	}
}

func TestP5_8_Disturbs(t *testing.T) {
	b := api.Bench{
		Measures: measures(measure("a", 0, 0, 0), measure("b", 0, 0, 0), measure("c", 0, 0, 0)),
		Adjustments: adjustments(
			adjust("x", 0, 0, 1, on("a", 1), on("b", 1)),
			adjust("y", 0, 0, 1, on("b", 1), on("a", -1)),
			adjust("z", 0, 0, 1, on("c", 1), on("b", 1), on("a", 1)),
			adjust("w", 0, 0, 1),
			adjust("v", 0, 0, 1, on("a", 1)),
		),
	}
	for _, x := range []struct {
		change func(a []api.Adjustment)
		want   [][2]int
	}{
		{func(a []api.Adjustment) {}, [][2]int{{1, 0}, {2, 0}, {2, 1}, {4, 0}}},
		// The order y z w v x, then w v x y z.
		{func(a []api.Adjustment) { a[0].After = []string{"z", "v"} }, [][2]int{{0, 1}, {0, 4}, {2, 1}}},
		{func(a []api.Adjustment) {
			a[0].After, a[1].After, a[2].After = []string{"v"}, []string{"v"}, []string{"v"}
		}, [][2]int{{0, 4}, {1, 0}, {1, 4}, {2, 0}, {2, 1}, {2, 4}}},
		// Only the first effect tells the main measure.
		{func(a []api.Adjustment) { a[0].Effects[0], a[0].Effects[1] = a[0].Effects[1], a[0].Effects[0] }, [][2]int{{1, 0}, {2, 0}, {2, 1}}},
		{func(a []api.Adjustment) { a[4].Effects = nil }, [][2]int{{1, 0}, {2, 0}, {2, 1}}},
	} {
		b := copied(b)
		x.change(b.Adjustments)
		pairs, e := regulation.Disturbs(b)
		want := disturbsBy(b)
		wanted(t, "Disturbs", pairs, e, want, api.OK)
		if text(want) != text(x.want) {
			t.Errorf("the model of Disturbs: %v, want %v", want, x.want)
		}
	}
	pairs, e := regulation.Disturbs(grand())
	wanted(t, "Disturbs", pairs, e, nil, api.OK)
	screw := grand()
	screw.Adjustments[1].Effects = append(screw.Adjustments[1].Effects, on("let-off", 1))
	pairs, e = regulation.Disturbs(screw)
	wanted(t, "Disturbs", pairs, e, [][2]int{{1, 0}}, api.OK)
	pairs, e = regulation.Disturbs(api.Bench{})
	wanted(t, "Disturbs of nothing", pairs, e, nil, api.OK)
	pairs, e = regulation.Disturbs(full())
	if len(pairs) != 66 || pairs[0] != [2]int{1, 0} || pairs[65] != [2]int{11, 10} || e != api.OK {
		t.Errorf("Disturbs of the full bench: %v, %v", pairs, e)
	}
}

func TestP5_8_RandomBenches(t *testing.T) {
	r := rand.New(rand.NewSource(58))
	settled := 0
	for range 2000 {
		b := randomBench(r)
		steps := randomSteps(r, b)
		got, e := regulation.Sweep(b, steps)
		wanted(t, "Sweep", got, e, sweepBy(b, steps), api.OK)
		most := r.Intn(6)
		want, right := settleBy(b, most)
		sweeps, e := regulation.Settle(b, most)
		if right {
			settled++
			wanted(t, "Settle", sweeps, e, want, api.OK)
		} else {
			wanted(t, "Settle", sweeps, e, nil, api.ErrNone)
		}
		pairs, e := regulation.Disturbs(b)
		wanted(t, "Disturbs", pairs, e, disturbsBy(b), api.OK)
	}
	if settled < 400 || settled > 1600 {
		t.Errorf("%d of 2000 benches settle", settled)
	}
}
