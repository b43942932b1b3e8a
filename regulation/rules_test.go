package regulation_test

import (
	"math/rand"
	"slices"
	"strings"
	"testing"

	"agraffe/api"
	"agraffe/regulation"
)

// wishes are the arguments beside a bench.
type wishes struct {
	steps, weights []int
	plan           [][]api.Step
	measure, most  int
}

func (w wishes) pass() []api.Step {
	if len(w.plan) == 0 {
		return nil
	}
	return w.plan[0]
}

// answer is what a function returned: its results as a text, those that it returns beside an error, and the error.
type answer struct {
	name, got, zero string
	e               api.Errno
}

// answers calls all functions of a bench.
func answers(b api.Bench, w wishes) []answer {
	var l []answer
	add := func(name string, zero any, e api.Errno, results ...any) {
		l = append(l, answer{name: name, got: text(results), zero: text(zero), e: e})
	}
	list, number := [][]int{nil}, []int{0}
	order, e := regulation.Order(b)
	add("Order", list, e, order)
	values, e := regulation.Values(b, w.steps)
	add("Values", list, e, values)
	broken, e := regulation.Broken(b, w.steps)
	add("Broken", list, e, broken)
	at, e := regulation.CheckPass(b, w.pass())
	add("CheckPass", number, e, at)
	sums, at, e := regulation.Sums(b, w.plan)
	add("Sums", []any{"[]", 0}, e, sums, at)
	at, e = regulation.CheckPlan(b, w.plan)
	add("CheckPlan", number, e, at)
	passes, e := regulation.Passes(b, w.steps)
	add("Passes", number, e, passes)
	plan, e := regulation.PlanOf(b, w.steps)
	add("PlanOf", list, e, plan)
	best, passes, e := regulation.Fewest(b)
	add("Fewest", []any{"[]", 0}, e, best, passes)
	reach, e := regulation.Reach(b, w.measure)
	add("Reach", [][2]int{{}}, e, reach)
	out, e := regulation.OutOfReach(b)
	add("OutOfReach", list, e, out)
	add("CheckBench", list[:0], regulation.CheckBench(b))
	add("CheckRefusal", list[:0], regulation.CheckRefusal(b, w.weights))
	weights, e := regulation.Refusal(b)
	add("Refusal", list, e, weights)
	steps, e := regulation.Sweep(b, w.steps)
	add("Sweep", list, e, steps)
	sweeps, e := regulation.Settle(b, w.most)
	add("Settle", list, e, sweeps)
	pairs, e := regulation.Disturbs(b)
	add("Disturbs", list, e, pairs)
	behind, e := regulation.Apply(b, w.steps)
	add("Apply", []api.Bench{{}}, e, behind)
	print, e := regulation.Print(b)
	add("Print", []string{""}, e, print)
	return l
}

// grandWishes are right arguments for the chapter's bench.
func grandWishes() wishes {
	return wishes{steps: []int{3, 0, 1}, weights: []int{0, -1, 100}, plan: plan(pass(step(0, 2), step(1, 1)), pass(step(0, 1))), measure: 2, most: 3}
}

// TestP5_WrongBenches checks that each function returns the error of the bench first, and zero values (R1).
func TestP5_WrongBenches(t *testing.T) {
	right := wishes{steps: []int{0, 0, 0, 0}, weights: []int{0, 1}, measure: 1, most: 1}
	wrong := wishes{steps: []int{9}, weights: []int{999}, plan: slices.Repeat(plan(pass(step(-1, 0))), 99), measure: -1, most: -1}
	for _, f := range faults() {
		b := plain()
		f.make(&b)
		for _, w := range []wishes{right, wrong} {
			for _, a := range answers(b, w) {
				if a.got != a.zero || a.e != f.want {
					t.Errorf("%s with %s: %s, %v, want %s, %v", a.name, f.name, a.got, a.e, a.zero, f.want)
				}
			}
		}
	}
}

// anyOf hands on numbers at and beyond all limits, and values that are built of them.
type anyOf struct{ r *rand.Rand }

func (a anyOf) number() int { return extremes[a.r.Intn(len(extremes))] }

// near returns a right number most of the time.
func (a anyOf) near(right int) int {
	if a.r.Intn(60) == 0 {
		return a.number()
	}
	return right
}

func (a anyOf) name(right string) string {
	if a.r.Intn(60) == 0 {
		return []string{"", "-", "x y", "\xff", "a", "b", "c", strings.Repeat("n", 13)}[a.r.Intn(8)]
	}
	return right
}

func (a anyOf) bench() api.Bench {
	b := randomBench(a.r)
	for i := range b.Measures {
		m := &b.Measures[i]
		m.Name, m.Value, m.Low, m.High = a.name(m.Name), a.near(m.Value), a.near(m.Low), a.near(m.High)
	}
	for i := range b.Adjustments {
		x := &b.Adjustments[i]
		x.Name, x.Least, x.Most, x.Pass = a.name(x.Name), a.near(x.Least), a.near(x.Most), a.near(x.Pass)
		for j := range x.Effects {
			x.Effects[j] = on(a.name(x.Effects[j].Measure), a.near(x.Effects[j].By))
		}
		for j := range x.After {
			x.After[j] = a.name(x.After[j])
		}
	}
	return b
}

func (a anyOf) list(n int) []int {
	l := make([]int, max(0, a.near(n)%20))
	for i := range l {
		l[i] = a.near(0)
	}
	return l
}

func (a anyOf) wishes(b api.Bench) wishes {
	w := wishes{steps: a.list(len(b.Adjustments)), weights: a.list(len(b.Measures)), measure: a.near(0), most: a.near(3)}
	w.plan = make([][]api.Step, a.r.Intn(4))
	for i := range w.plan {
		for range a.r.Intn(4) {
			w.plan[i] = append(w.plan[i], step(a.near(a.r.Intn(4)), a.near(1)))
		}
	}
	return w
}

// TestP5_NoPanic calls every function with numbers at and beyond all limits (R2); beside an error all is zero, but for the places that the chapter names (R1).
func TestP5_NoPanic(t *testing.T) {
	a := anyOf{rand.New(rand.NewSource(5))}
	named := []string{"CheckPass", "Sums", "CheckPlan"}
	for range 10000 {
		b := a.bench()
		for _, x := range answers(b, a.wishes(b)) {
			if x.e != api.OK && x.got != x.zero && !slices.Contains(named, x.name) {
				t.Errorf("%s: %s beside %v", x.name, x.got, x.e)
			}
		}
		s := regulation.FormatStep(step(a.number(), a.number()))
		regulation.ParseStep(s)
		regulation.ParseStep(s[a.r.Intn(len(s)+1):])
		s, _ = regulation.Print(b)
		regulation.Parse(s)
		regulation.Parse(s[a.r.Intn(len(s)+1):])
		regulation.Parse(s[:a.r.Intn(len(s)+1)])
	}
	for _, s := range []string{"\xff\n", "adjust \xff", strings.Repeat(" ", 60000), "measure" + strings.Repeat(" ", 59992) + "\n", "adjust a 0 1 1" + strings.Repeat(" on", 15000) + "\n", "adjust a 0 1 1" + strings.Repeat(" after", 9000) + "\n", strings.Repeat("\n", 60000), strings.Repeat("adjust a 0 1 1\n", 4000)} {
		regulation.Parse(s)
		regulation.ParseStep(s)
	}
}

// TestP5_FullBench calls all functions for the greatest numbers that may be.
func TestP5_FullBench(t *testing.T) {
	w := wishes{steps: slices.Repeat([]int{1000, -1000}, 6), weights: slices.Repeat([]int{-100, 100}, 6), measure: 11, most: 100}
	want := map[string]api.Errno{"Fewest": api.ErrLarge, "Refusal": api.ErrLarge, "Apply": api.ErrRange, "CheckRefusal": api.ErrProof}
	for _, a := range answers(full(), w) {
		if a.e != want[a.name] {
			t.Errorf("%s: %s, %v, want %v", a.name, a.got, a.e, want[a.name])
		}
	}
}

// TestP5_ArgumentsStay checks that no function writes into its arguments (R3), and that all of them return the same again (R4).
func TestP5_ArgumentsStay(t *testing.T) {
	r := rand.New(rand.NewSource(51))
	for range 500 {
		b := randomBench(r)
		w := wishes{steps: randomSteps(r, b), weights: make([]int, len(b.Measures)), plan: randomPlan(r, b), most: 5}
		before := text(b) + text(w)
		first := answers(b, w)
		if text(b)+text(w) != before {
			t.Fatalf("%v, %v, was %s", b, w, before)
		}
		if again := answers(b, w); !slices.Equal(first, again) {
			t.Fatalf("%v, then %v", first, again)
		}
	}
}

// spoil overwrites a list, and what lies behind it.
func spoil[T any](l []T, with T) {
	l = l[:cap(l)]
	for i := range l {
		l[i] = with
	}
}

// spoilLists overwrites lists, one after the other, and checks that none of them is another one's.
func spoilLists[T any](t *testing.T, what string, l [][]T, with T) {
	t.Helper()
	for i := range l {
		rest := text(l[i+1:])
		spoil(l[i], with)
		if text(l[i+1:]) != rest {
			t.Errorf("%s: lists share memory", what)
		}
	}
	spoil(l, nil)
}

// TestP5_ResultsShareNothing checks that results share no memory with arguments, with later results, or with each other (R3, R4).
func TestP5_ResultsShareNothing(t *testing.T) {
	b, w := grand(), grandWishes()
	want := answers(b, w)
	before := text(b) + text(w)
	order, _ := regulation.Order(b)
	values, _ := regulation.Values(b, w.steps)
	broken, _ := regulation.Broken(b, []int{0, -3, 4})
	sums, _, _ := regulation.Sums(b, w.plan)
	best, _, _ := regulation.Fewest(b)
	swept, _ := regulation.Sweep(b, w.steps)
	for _, l := range [][]int{order, values, broken, sums, best, swept} {
		if len(l) == 0 {
			t.Error("a list is empty")
		}
		spoil(l, 77)
	}
	for _, steps := range [][]int{{4, -3, 4}, {10, 3, 4}, {-1, 0, 0}} {
		p, _ := regulation.PlanOf(b, steps)
		spoilLists(t, "PlanOf", p, step(77, 77))
	}
	sweeps, _ := regulation.Settle(b, 9)
	spoilLists(t, "Settle", sweeps, 77)
	apply, _ := regulation.Apply(b, []int{0, 0, 0})
	spoilBench(apply)
	read, _, _ := regulation.Parse(grandText)
	spoilBench(read)
	if text(b)+text(w) != before || text(b) != text(grand()) {
		t.Errorf("%v, %v, was %s", b, w, before)
	}
	if again := answers(b, w); !slices.Equal(again, want) {
		t.Errorf("%v, then %v", want, again)
	}
}

func spoilBench(b api.Bench) {
	for _, a := range b.Adjustments {
		spoil(a.Effects, on("spoiled", 77))
		spoil(a.After, "spoiled")
	}
	spoil(b.Measures, measure("spoiled", 1, 2, 3))
	spoil(b.Adjustments, adjust("spoiled", 1, 2, 3))
}

// TestP5_NilIsEmpty checks that a nil list and an empty one are the same (R5).
func TestP5_NilIsEmpty(t *testing.T) {
	empty := api.Bench{Measures: []api.Measure{}, Adjustments: []api.Adjustment{}}
	nothing := wishes{steps: []int{}, weights: []int{}, plan: [][]api.Step{}}
	if x, y := answers(api.Bench{}, wishes{}), answers(empty, nothing); !slices.Equal(x, y) {
		t.Errorf("%v, but %v", x, y)
	}
	if x, y := answers(api.Bench{}, wishes{plan: plan(nil)}), answers(empty, wishes{plan: plan(pass())}); !slices.Equal(x, y) {
		t.Errorf("%v, but %v", x, y)
	}
	b, c := many(0, 3), many(0, 3)
	for i := range c.Adjustments {
		c.Adjustments[i].Effects, c.Adjustments[i].After = []api.Effect{}, []string{}
	}
	w := wishes{steps: []int{1, 0, -1}}
	if x, y := answers(b, w), answers(c, w); !slices.Equal(x, y) {
		t.Errorf("%v, but %v", x, y)
	}
}
