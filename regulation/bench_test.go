package regulation_test

import (
	"math/rand"
	"slices"
	"strings"
	"testing"

	"agraffe/api"
	"agraffe/regulation"
)

// plain is two measures and four adjustments, which faults are made in.
func plain() api.Bench {
	return api.Bench{
		Measures: measures(measure("a", 1, 0, 2), measure("b", 1, 0, 2)),
		Adjustments: adjustments(
			behind(adjust("x", -1, 1, 1, on("a", 1), on("b", 2)), "z"),
			behind(adjust("y", -1, 1, 1, on("b", 1), on("a", 2)), "x", "z"),
			adjust("z", 0, 0, 1),
			adjust("w", 0, 0, 1),
		),
	}
}

type fault struct {
	name string
	make func(b *api.Bench)
	want api.Errno
}

// measureFaults are the faults of a measure in the order of the chapter.
func measureFaults(n int) []fault {
	change := func(change func(m *api.Measure)) func(b *api.Bench) {
		return func(b *api.Bench) { change(&b.Measures[n]) }
	}
	l := []fault{{"no name", change(func(m *api.Measure) { m.Name = "1" }), api.ErrName}}
	if n > 0 {
		l = append(l, fault{"the name of the first measure", change(func(m *api.Measure) { m.Name = "a" }), api.ErrExists})
	}
	return append(l,
		fault{"a great value", change(func(m *api.Measure) { m.Value = 100001 }), api.ErrRange},
		fault{"a great end", change(func(m *api.Measure) { m.High = 100001 }), api.ErrRange},
		fault{"a beginning that is small", change(func(m *api.Measure) { m.Low = -100001 }), api.ErrRange},
		fault{"an end before the beginning", change(func(m *api.Measure) { m.Low = 3; m.High = 2 }), api.ErrOrder},
	)
}

// adjustmentFaults are the faults of one of the first two adjustments in the order of the chapter.
func adjustmentFaults(n int) []fault {
	change := func(change func(a *api.Adjustment)) func(b *api.Bench) {
		return func(b *api.Bench) { change(&b.Adjustments[n]) }
	}
	effect := func(i int, change func(f *api.Effect)) func(b *api.Bench) {
		return func(b *api.Bench) { change(&b.Adjustments[n].Effects[i]) }
	}
	l := []fault{{"no name", change(func(a *api.Adjustment) { a.Name = "" }), api.ErrName}}
	if n > 0 {
		l = append(l, fault{"the name of the first adjustment", change(func(a *api.Adjustment) { a.Name = "x" }), api.ErrExists})
	}
	return append(l,
		fault{"too many effects", change(func(a *api.Adjustment) { a.Effects = append(a.Effects, make([]api.Effect, 11)...) }), api.ErrLarge},
		fault{"an effect on nothing", effect(0, func(f *api.Effect) { f.Measure = "x" }), api.ErrMissing},
		fault{"a great effect", effect(0, func(f *api.Effect) { f.By = 1001 }), api.ErrRange},
		fault{"no effect", effect(0, func(f *api.Effect) { f.By = 0 }), api.ErrZero},
		fault{"a second effect on nothing", effect(1, func(f *api.Effect) { f.Measure = "" }), api.ErrMissing},
		fault{"a second effect on a measure", change(func(a *api.Adjustment) { a.Effects[1].Measure = a.Effects[0].Measure }), api.ErrExists},
		fault{"a great second effect", effect(1, func(f *api.Effect) { f.By = -1001 }), api.ErrRange},
		fault{"no second effect", effect(1, func(f *api.Effect) { f.By = 0 }), api.ErrZero},
		fault{"steps that begin above 0", change(func(a *api.Adjustment) { a.Least = 1 }), api.ErrRange},
		fault{"steps that end below 0", change(func(a *api.Adjustment) { a.Most = -1 }), api.ErrRange},
		fault{"no steps in a pass", change(func(a *api.Adjustment) { a.Pass = 0 }), api.ErrRange},
		fault{"too many names", change(func(a *api.Adjustment) { a.After = append(a.After, make([]string, 12)...) }), api.ErrLarge},
		fault{"a name that is missing", change(func(a *api.Adjustment) { a.After[0] = "a" }), api.ErrMissing},
		fault{"a name told twice", change(func(a *api.Adjustment) { a.After = append(a.After, "z") }), api.ErrExists},
	)
}

// faults are the faults of a bench in the order of the chapter.
func faults() []fault {
	l := []fault{{"too many measures", func(b *api.Bench) { b.Measures = append(b.Measures, make([]api.Measure, 11)...) }, api.ErrLarge}}
	l = append(append(l, measureFaults(0)...), measureFaults(1)...)
	l = append(l, fault{"too many adjustments", func(b *api.Bench) { b.Adjustments = append(b.Adjustments, make([]api.Adjustment, 10)...) }, api.ErrLarge})
	l = append(append(l, adjustmentFaults(0)...), adjustmentFaults(1)...)
	return append(l,
		fault{"no name of the last adjustment", func(b *api.Bench) { b.Adjustments[3].Name = "-" }, api.ErrName},
		fault{"no size of the last pass", func(b *api.Bench) { b.Adjustments[3].Pass = 1001 }, api.ErrRange},
		fault{"a circle", func(b *api.Bench) { b.Adjustments[2].After = []string{"y"} }, api.ErrCycle},
	)
}

func TestP5_1_CheckBench(t *testing.T) {
	for _, b := range []api.Bench{{}, plain(), grand(), full(), many(12, 12), many(12, 0), many(0, 12)} {
		if e := regulation.CheckBench(b); e != api.OK {
			t.Errorf("CheckBench(%v) = %v", b, e)
		}
	}
	for _, f := range faults() {
		b := plain()
		f.make(&b)
		if e := regulation.CheckBench(b); e != f.want {
			t.Errorf("CheckBench with %s = %v, want %v", f.name, e, f.want)
		}
	}
}

// TestP5_1_FirstErrors makes two faults, and checks that the one decides that the chapter lists first.
func TestP5_1_FirstErrors(t *testing.T) {
	l := faults()
	for i, first := range l {
		for _, second := range l[i+1:] {
			b := plain()
			second.make(&b)
			first.make(&b)
			if e := regulation.CheckBench(b); e != first.want {
				t.Errorf("CheckBench with %s and %s = %v, want %v", first.name, second.name, e, first.want)
			}
		}
	}
}

// TestP5_1_Limits puts numbers at and beyond the limits at each place of a number.
func TestP5_1_Limits(t *testing.T) {
	for _, x := range []struct {
		name      string
		low, high int
		set       func(b *api.Bench, n int)
		within    api.Errno // for a number in the range that is wrong in another way
		is        func(n int) bool
	}{
		{"Value", -100000, 100000, func(b *api.Bench, n int) { b.Measures[1].Value = n }, api.OK, nil},
		{"Low", -100000, 100000, func(b *api.Bench, n int) { b.Measures[1].Low = n }, api.ErrOrder, func(n int) bool { return n > 2 }},
		{"High", -100000, 100000, func(b *api.Bench, n int) { b.Measures[1].High = n }, api.ErrOrder, func(n int) bool { return n < 0 }},
		{"By", -1000, 1000, func(b *api.Bench, n int) { b.Adjustments[1].Effects[1].By = n }, api.ErrZero, func(n int) bool { return n == 0 }},
		{"Least", -1000, 0, func(b *api.Bench, n int) { b.Adjustments[1].Least = n }, api.OK, nil},
		{"Most", 0, 1000, func(b *api.Bench, n int) { b.Adjustments[1].Most = n }, api.OK, nil},
		{"Pass", 1, 1000, func(b *api.Bench, n int) { b.Adjustments[1].Pass = n }, api.OK, nil},
	} {
		for _, n := range extremes {
			want := api.OK
			if slices.Contains(outside(x.low, x.high), n) {
				want = api.ErrRange
			} else if x.is != nil && x.is(n) {
				want = x.within
			}
			b := plain()
			x.set(&b, n)
			if e := regulation.CheckBench(b); e != want {
				t.Errorf("CheckBench with the %s %d = %v, want %v", x.name, n, e, want)
			}
		}
	}
}

func TestP5_1_Counts(t *testing.T) {
	for _, x := range []struct {
		measures, adjustments int
		want                  api.Errno
	}{{0, 0, api.OK}, {12, 12, api.OK}, {13, 0, api.ErrLarge}, {0, 13, api.ErrLarge}, {13, 13, api.ErrLarge}, {26, 0, api.ErrLarge}} {
		if e := regulation.CheckBench(many(x.measures, x.adjustments)); e != x.want {
			t.Errorf("CheckBench with %d and %d: %v, want %v", x.measures, x.adjustments, e, x.want)
		}
	}
	// Twelve effects and twelve names are no more than there may be; a circle comes at last.
	b := full()
	b.Adjustments[0].After = []string{"adjust-l"}
	if e := regulation.CheckBench(b); e != api.ErrCycle {
		t.Errorf("CheckBench of a circle of twelve = %v", e)
	}
	b = many(1, 12)
	b.Adjustments[3].After = letters(12)
	if e := regulation.CheckBench(b); e != api.ErrCycle {
		t.Errorf("CheckBench with twelve names = %v", e)
	}
	b.Adjustments[3].After = letters(13)
	if e := regulation.CheckBench(b); e != api.ErrLarge {
		t.Errorf("CheckBench with thirteen names = %v", e)
	}
	b = many(12, 1)
	b.Adjustments[0].Effects = nil
	for _, name := range append(letters(12), "a") {
		b.Adjustments[0].Effects = append(b.Adjustments[0].Effects, on(name, 1))
	}
	if e := regulation.CheckBench(b); e != api.ErrLarge {
		t.Errorf("CheckBench with thirteen effects = %v", e)
	}
	b.Adjustments[0].Effects = b.Adjustments[0].Effects[:12]
	if e := regulation.CheckBench(b); e != api.OK {
		t.Errorf("CheckBench with twelve effects = %v", e)
	}
}

func TestP5_1_Names(t *testing.T) {
	check := func(name string, want api.Errno) {
		for _, set := range []func(b *api.Bench){
			func(b *api.Bench) { b.Measures[1].Name = name; b.Adjustments = nil },
			func(b *api.Bench) { b.Adjustments = adjustments(adjust(name, 0, 0, 1)) },
		} {
			b := plain()
			b.Measures[0].Name = "first"
			set(&b)
			if e := regulation.CheckBench(b); e != want {
				t.Errorf("CheckBench with the name %q = %v, want %v", name, e, want)
			}
		}
	}
	for _, name := range wrongNames {
		check(name, api.ErrName)
	}
	for _, name := range rightNames {
		check(name, api.OK)
	}
	// A measure and an adjustment may have one name; letters count as they are written.
	b := api.Bench{Measures: measures(measure("a", 0, 0, 0), measure("A", 0, 0, 0)), Adjustments: adjustments(adjust("a", 0, 0, 1, on("A", 1)), adjust("A", 0, 0, 1, on("a", 1)))}
	if e := regulation.CheckBench(b); e != api.OK {
		t.Errorf("CheckBench(%v) = %v", b, e)
	}
	b.Adjustments[0].Effects[0].Measure = "a"
	b.Adjustments[0].After = []string{"A"}
	if e := regulation.CheckBench(b); e != api.OK {
		t.Errorf("CheckBench(%v) = %v", b, e)
	}
	// A name that stands far behind is none that is missing, even if the adjustment is wrong there.
	b.Adjustments[0].After = []string{""}
	b.Adjustments[1].Name = ""
	if e := regulation.CheckBench(b); e != api.ErrName {
		t.Errorf("CheckBench(%v) = %v", b, e)
	}
}

func TestP5_1_Cycles(t *testing.T) {
	for _, x := range []struct {
		after []string // for each adjustment the letters of those of its After
		want  []int    // nil: a circle
	}{
		{[]string{"", "", ""}, []int{0, 1, 2}},
		{[]string{"a"}, nil},
		{[]string{"", "b"}, nil},
		{[]string{"b", "a"}, nil},
		{[]string{"b", "c", "a"}, nil},
		{[]string{"", "a", "b", "ce", "d"}, nil},
		{[]string{"", "c", "b", ""}, nil},
		{[]string{"c", "", ""}, []int{1, 2, 0}},
		{[]string{"c", "a", ""}, []int{2, 0, 1}},
		{[]string{"b", "c", ""}, []int{2, 1, 0}},
		{[]string{"bc", "", ""}, []int{1, 2, 0}},
		{[]string{"d", "", "", ""}, []int{1, 2, 3, 0}},
		{[]string{"", "d", "", "a"}, []int{0, 2, 3, 1}},
		{[]string{"d", "d", "", ""}, []int{2, 3, 0, 1}},
		{[]string{"bcd", "cd", "d", ""}, []int{3, 2, 1, 0}},
		// What waits for the last one, and what does not, each as early as can be.
		{[]string{"e", "", "a", "", ""}, []int{1, 3, 4, 0, 2}},
		{[]string{"", "f", "", "b", "", ""}, []int{0, 2, 4, 5, 1, 3}},
	} {
		b := many(1, len(x.after))
		for i, names := range x.after {
			for _, name := range names {
				b.Adjustments[i].After = append(b.Adjustments[i].After, string(name))
			}
		}
		want := api.OK
		if x.want == nil {
			want = api.ErrCycle
		}
		order, e := regulation.Order(b)
		wanted(t, "Order of "+strings.Join(x.after, ","), order, e, x.want, want)
		if e := regulation.CheckBench(b); e != want {
			t.Errorf("CheckBench of %v = %v, want %v", x.after, e, want)
		}
	}
}

func TestP5_1_OrdersOfRandomBenches(t *testing.T) {
	r := rand.New(rand.NewSource(51))
	circles := 0
	for range 2000 {
		b := many(2, r.Intn(6))
		for i := range b.Adjustments {
			for _, name := range letters(len(b.Adjustments)) {
				if r.Intn(5) == 0 {
					b.Adjustments[i].After = append(b.Adjustments[i].After, name)
				}
			}
		}
		want := orderBy(b)
		order, e := regulation.Order(b)
		if want == nil {
			circles++
			wanted(t, "Order of a circle", order, e, nil, api.ErrCycle)
			continue
		}
		wanted(t, "Order", order, e, want, api.OK)
	}
	if circles < 200 || circles > 1800 {
		t.Errorf("%d of 2000 benches have a circle", circles)
	}
}

func TestP5_1_OrderOfTheFullBench(t *testing.T) {
	order, e := regulation.Order(full())
	wanted(t, "Order", order, e, fromTo(0, 11), api.OK)
	b := full()
	slices.Reverse(b.Adjustments)
	order, e = regulation.Order(b)
	wanted(t, "Order", order, e, []int{11, 10, 9, 8, 7, 6, 5, 4, 3, 2, 1, 0}, api.OK)
	order, e = regulation.Order(api.Bench{})
	wanted(t, "Order of nothing", order, e, nil, api.OK)
}
