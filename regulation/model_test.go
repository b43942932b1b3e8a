package regulation_test

import (
	"cmp"
	"fmt"
	"math"
	"math/rand"
	"slices"
	"strings"
	"testing"

	"agraffe/api"
)

// extremes are numbers at the limits of the chapter, just beyond them, and at the ends of int.
var extremes = []int{math.MinInt, math.MinInt + 1, -10000000, -9999999, -100001, -100000, -1001, -1000, -101, -100, -13, -12, -2, -1, 0, 1, 2, 3, 6, 7, 11, 12, 13,
	50, 51, 99, 100, 101, 999, 1000, 1001, 100000, 100001, 9999999, 10000000, math.MaxInt - 1, math.MaxInt}

// outside are the extremes that are not from low to high.
func outside(low, high int) []int {
	return slices.DeleteFunc(slices.Clone(extremes), func(n int) bool { return low <= n && n <= high })
}

// wrongNames are texts that are no names.
var wrongNames = []string{"", "-", "-a", "1", "1a", " a", "a ", "a b", "a.", "a_b", "é", "aé", "a\n", "a\x00", "@", "[", "`", "{", "a/", "a:", strings.Repeat("n", 13)}

// rightNames are names at the limits.
var rightNames = []string{"a", "z", "A", "Z", "a0", "a9", "a-", "A--", strings.Repeat("n", 12)}

func measure(name string, value, low, high int) api.Measure {
	return api.Measure{Name: name, Value: value, Low: low, High: high}
}

// free is a measure that is never broken.
func free(name string, value int) api.Measure {
	return measure(name, value, -100000, 100000)
}

func on(measure string, by int) api.Effect {
	return api.Effect{Measure: measure, By: by}
}

func adjust(name string, least, most, pass int, effects ...api.Effect) api.Adjustment {
	return api.Adjustment{Name: name, Least: least, Most: most, Pass: pass, Effects: effects}
}

// behind is an adjustment that comes behind others.
func behind(a api.Adjustment, names ...string) api.Adjustment {
	a.After = names
	return a
}

func measures(l ...api.Measure) []api.Measure          { return l }
func adjustments(l ...api.Adjustment) []api.Adjustment { return l }

// grand is the bench of the chapter's examples.
func grand() api.Bench {
	return api.Bench{
		Measures: measures(measure("let-off", 30, 10, 20), measure("drop", 5, 0, 8), measure("catch", 0, -5, 5)),
		Adjustments: adjustments(
			adjust("button", -10, 10, 2, on("let-off", -4), on("drop", 1)),
			behind(adjust("screw", -3, 3, 1, on("drop", -2)), "button"),
			adjust("check", 0, 4, 4, on("catch", 5)),
		),
	}
}

// letters are the names of n things: a, b, c ..
func letters(n int) []string {
	var names []string
	for i := range n {
		names = append(names, string(rune('a'+i)))
	}
	return names
}

// many is a bench with so many measures and adjustments; each adjustment has one effect.
func many(measures, adjustments int) api.Bench {
	var b api.Bench
	for _, name := range letters(measures) {
		b.Measures = append(b.Measures, measure(name, 0, 0, 0))
	}
	for i, name := range letters(adjustments) {
		a := adjust(name, -1, 1, 1)
		if measures > 0 {
			a.Effects = append(a.Effects, on(b.Measures[i%measures].Name, 1))
		}
		b.Adjustments = append(b.Adjustments, a)
	}
	return b
}

// full is a bench with the greatest numbers of all that it may have.
func full() api.Bench {
	var b api.Bench
	for i, name := range letters(12) {
		b.Measures = append(b.Measures, measure("measure-"+name, 100000-200000*(i%2), -100000, 100000))
	}
	for i, name := range letters(12) {
		a := adjust("adjust-"+name, -1000, 1000, 1000)
		for j, m := range b.Measures {
			a.Effects = append(a.Effects, on(m.Name, 1000-2000*((i+j)%2)))
		}
		for _, before := range b.Adjustments {
			a.After = append(a.After, before.Name)
		}
		b.Adjustments = append(b.Adjustments, a)
	}
	return b
}

// text writes a value; a nil list, and nil itself, are written as an empty list.
func text(x any) string {
	if x == nil {
		return "[]"
	}
	return fmt.Sprintf("%+v", x)
}

// wanted compares a result and its error.
func wanted(t *testing.T, what string, got any, e api.Errno, want any, wantError api.Errno) {
	t.Helper()
	if text(got) != text(want) || e != wantError {
		t.Errorf("%s = %+v, %v, want %+v, %v", what, got, e, want, wantError)
	}
}

// copied is a bench that shares no memory with another one.
func copied(b api.Bench) api.Bench {
	c := api.Bench{Measures: slices.Clone(b.Measures), Adjustments: slices.Clone(b.Adjustments)}
	for i, a := range c.Adjustments {
		c.Adjustments[i].Effects, c.Adjustments[i].After = slices.Clone(a.Effects), slices.Clone(a.After)
	}
	return c
}

func sizeOf(n int) int {
	if n < 0 {
		return -n
	}
	return n
}

// valuesBy returns the values behind steps by the definition.
func valuesBy(b api.Bench, steps []int) []int {
	var values []int
	for _, m := range b.Measures {
		value := m.Value
		for i, a := range b.Adjustments {
			for _, effect := range a.Effects {
				if effect.Measure == m.Name {
					value += effect.By * steps[i]
				}
			}
		}
		values = append(values, value)
	}
	return values
}

func brokenBy(b api.Bench, steps []int) []int {
	var broken []int
	for i, value := range valuesBy(b, steps) {
		if value < b.Measures[i].Low || value > b.Measures[i].High {
			broken = append(broken, i)
		}
	}
	return broken
}

// listsBy returns all lists of which each number is one of its choices, lexicographically if these ascend.
func listsBy(choices [][]int) [][]int {
	if len(choices) == 0 {
		return [][]int{{}}
	}
	var lists [][]int
	for _, first := range choices[0] {
		for _, rest := range listsBy(choices[1:]) {
			lists = append(lists, append([]int{first}, rest...))
		}
	}
	return lists
}

// fromTo returns the numbers from low to high.
func fromTo(low, high int) []int {
	var l []int
	for n := low; n <= high; n++ {
		l = append(l, n)
	}
	return l
}

// choicesBy returns what a function gives for each adjustment.
func choicesBy(b api.Bench, of func(a api.Adjustment) []int) [][]int {
	var choices [][]int
	for _, a := range b.Adjustments {
		choices = append(choices, of(a))
	}
	return choices
}

// allSteps returns all steps of a bench.
func allSteps(b api.Bench) [][]int {
	return listsBy(choicesBy(b, func(a api.Adjustment) []int { return fromTo(a.Least, a.Most) }))
}

// isOrder says whether a list names each adjustment once, behind those of its After.
func isOrder(b api.Bench, list []int) bool {
	place := map[string]int{}
	for at, i := range list {
		place[b.Adjustments[i].Name] = at
	}
	for _, a := range b.Adjustments {
		for _, name := range a.After {
			if place[name] >= place[a.Name] {
				return false
			}
		}
	}
	return len(place) == len(b.Adjustments)
}

// orderBy returns the first of all lists that are an order, or nil.
func orderBy(b api.Bench) []int {
	for _, list := range listsBy(choicesBy(b, func(api.Adjustment) []int { return fromTo(0, len(b.Adjustments)-1) })) {
		if isOrder(b, list) {
			return list
		}
	}
	return nil
}

// passesBy returns the fewest passes for steps: the least number that leaves no step over.
func passesBy(b api.Bench, steps []int) int {
	for passes := 0; ; passes++ {
		enough := true
		for i, a := range b.Adjustments {
			enough = enough && passes*a.Pass >= sizeOf(steps[i])
		}
		if enough {
			return passes
		}
	}
}

// planBy returns the plan of steps by the definition, one step at a time.
func planBy(b api.Bench, steps []int) [][]api.Step {
	var plan [][]api.Step
	left, order := slices.Clone(steps), orderBy(b)
	for range passesBy(b, steps) {
		var pass []api.Step
		for _, i := range order {
			made := 0
			for sizeOf(made) < b.Adjustments[i].Pass && left[i] != 0 {
				one := left[i] / sizeOf(left[i])
				made, left[i] = made+one, left[i]-one
			}
			if made != 0 {
				pass = append(pass, api.Step{Adjustment: i, Steps: made})
			}
		}
		plan = append(plan, pass)
	}
	return plan
}

// fewestBy returns the best of all steps, or nil.
func fewestBy(b api.Bench) []int {
	var best []int
	cost := func(steps []int) []int {
		sum := 0
		for _, made := range steps {
			sum += sizeOf(made)
		}
		return append([]int{passesBy(b, steps), sum}, steps...)
	}
	for _, steps := range allSteps(b) {
		if len(brokenBy(b, steps)) == 0 && (best == nil || slices.Compare(cost(steps), cost(best)) < 0) {
			best = steps
		}
	}
	return best
}

// weighted returns the sum of weight times number.
func weighted(weights, numbers []int) int {
	sum := 0
	for i, weight := range weights {
		sum += weight * numbers[i]
	}
	return sum
}

// limitsBy returns the least and the greatest weighted sum of lists.
func limitsBy(weights []int, lists [][]int) [2]int {
	var sums []int
	for _, list := range lists {
		sums = append(sums, weighted(weights, list))
	}
	return [2]int{slices.Min(sums), slices.Max(sums)}
}

// cornerValues returns the values behind all steps that are Least or Most; the limits of all sums lie there.
func cornerValues(b api.Bench) [][]int {
	var lists [][]int
	for _, steps := range listsBy(choicesBy(b, func(a api.Adjustment) []int { return []int{a.Least, a.Most} })) {
		lists = append(lists, valuesBy(b, steps))
	}
	return lists
}

// provesBy says whether weights are a proof of refusal, by sums at all corners.
func provesBy(b api.Bench, weights []int) bool {
	var choices [][]int
	for _, m := range b.Measures {
		choices = append(choices, []int{m.Low, m.High})
	}
	reached, tolerated := limitsBy(weights, cornerValues(b)), limitsBy(weights, listsBy(choices))
	return reached[1] < tolerated[0] || tolerated[1] < reached[0]
}

// refusalBy returns the best of all proofs with weights from -1 to 1, or nil.
func refusalBy(b api.Bench) []int {
	var best []int
	cost := func(weights []int) []int {
		count := 0
		for _, weight := range weights {
			if weight != 0 {
				count++
			}
		}
		return append([]int{count}, weights...)
	}
	for _, weights := range listsBy(slices.Repeat([][]int{{-1, 0, 1}}, len(b.Measures))) {
		if provesBy(b, weights) && (best == nil || slices.Compare(cost(weights), cost(best)) < 0) {
			best = weights
		}
	}
	return best
}

// mainBy returns the number of the main measure of an adjustment, or -1.
func mainBy(b api.Bench, a api.Adjustment) int {
	if len(a.Effects) == 0 {
		return -1
	}
	return slices.IndexFunc(b.Measures, func(m api.Measure) bool { return m.Name == a.Effects[0].Measure })
}

// sweepBy returns the steps behind a sweep, trying all numbers of steps.
func sweepBy(b api.Bench, steps []int) []int {
	steps = slices.Clone(steps)
	for _, i := range orderBy(b) {
		a := b.Adjustments[i]
		main := mainBy(b, a)
		if main < 0 {
			continue
		}
		m := b.Measures[main]
		far := func(more int) int {
			tried := slices.Clone(steps)
			tried[i] += more
			return sizeOf(2*valuesBy(b, tried)[main] - (m.Low + m.High))
		}
		possible := slices.DeleteFunc(fromTo(-a.Pass, a.Pass), func(more int) bool {
			return steps[i]+more < a.Least || steps[i]+more > a.Most
		})
		steps[i] += slices.MinFunc(possible, func(x, y int) int {
			return cmp.Or(cmp.Compare(far(x), far(y)), cmp.Compare(sizeOf(x), sizeOf(y)), cmp.Compare(x, y))
		})
	}
	return steps
}

// settleBy returns the steps behind each sweep, or false if most sweeps are not enough.
func settleBy(b api.Bench, most int) ([][]int, bool) {
	steps := make([]int, len(b.Adjustments))
	var sweeps [][]int
	for len(brokenBy(b, steps)) > 0 {
		if len(sweeps) == most {
			return nil, false
		}
		steps = sweepBy(b, steps)
		sweeps = append(sweeps, steps)
	}
	return sweeps, true
}

// disturbsBy returns all pairs of adjustments that disturb each other.
func disturbsBy(b api.Bench) [][2]int {
	var pairs [][2]int
	order := orderBy(b)
	for i, x := range b.Adjustments {
		for j, y := range b.Adjustments {
			main := mainBy(b, y)
			if main < 0 || slices.Index(order, i) <= slices.Index(order, j) {
				continue
			}
			if slices.ContainsFunc(x.Effects, func(effect api.Effect) bool { return effect.Measure == b.Measures[main].Name }) {
				pairs = append(pairs, [2]int{i, j})
			}
		}
	}
	return pairs
}

func among(r *rand.Rand, low, high int) int { return low + r.Intn(high-low+1) }

// randomBench returns a right bench with few measures and adjustments, and small numbers.
func randomBench(r *rand.Rand) api.Bench {
	var b api.Bench
	for _, name := range letters(r.Intn(5)) {
		low := among(r, -8, 8)
		b.Measures = append(b.Measures, measure(name, among(r, -9, 9), low, low+r.Intn(9)))
	}
	names := letters(r.Intn(5))
	rank := r.Perm(len(names))
	for i, name := range names {
		a := adjust(name, -r.Intn(4), r.Intn(4), among(r, 1, 3))
		for _, m := range r.Perm(len(b.Measures)) {
			if by := among(r, -3, 3); by != 0 && r.Intn(2) == 0 {
				a.Effects = append(a.Effects, on(b.Measures[m].Name, by))
			}
		}
		for _, j := range r.Perm(len(names)) {
			if rank[j] < rank[i] && r.Intn(3) == 0 {
				a.After = append(a.After, names[j])
			}
		}
		b.Adjustments = append(b.Adjustments, a)
	}
	return b
}

// randomSteps returns right steps of a bench.
func randomSteps(r *rand.Rand, b api.Bench) []int {
	var steps []int
	for _, a := range b.Adjustments {
		steps = append(steps, among(r, a.Least, a.Most))
	}
	return steps
}

// randomPlan returns passes of a bench that are right, if the sums of their steps are.
func randomPlan(r *rand.Rand, b api.Bench) [][]api.Step {
	plan := make([][]api.Step, r.Intn(5))
	for i := range plan {
		for _, j := range orderBy(b) {
			if made := among(r, -b.Adjustments[j].Pass, b.Adjustments[j].Pass); made != 0 && r.Intn(2) == 0 {
				plan[i] = append(plan[i], api.Step{Adjustment: j, Steps: made})
			}
		}
	}
	return plan
}
