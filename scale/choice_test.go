package scale_test

import (
	"math"
	"math/rand"
	"slices"
	"testing"

	"agraffe/api"
	"agraffe/scale"
)

// exampleGauges are those of the examples.
func exampleGauges() []int { return []int{950, 1000, 1050} }

// wideRow returns so many right gauges.
func wideRow(n int) []int {
	l := make([]int, n)
	for i := range l {
		l[i] = 900 + 10*i
	}
	return l
}

// invalidGauges are gauges with their error.
var invalidGauges = []struct {
	gauges []int
	want   api.Errno
}{
	{nil, api.ErrLarge},
	{[]int{}, api.ErrLarge},
	{wideRow(21), api.ErrLarge},
	{make([]int, 21), api.ErrLarge},
	{[]int{99}, api.ErrRange},
	{[]int{3001}, api.ErrRange},
	{[]int{0}, api.ErrRange},
	{[]int{math.MinInt}, api.ErrRange},
	{[]int{math.MaxInt}, api.ErrRange},
	{[]int{1000, 3001}, api.ErrRange},
	{[]int{1000, 99}, api.ErrRange},
	{[]int{1000, 1000}, api.ErrOrder},
	{[]int{1000, 999}, api.ErrOrder},
	{[]int{900, 1000, 950}, api.ErrOrder},
	{[]int{1000, 1000, 99}, api.ErrOrder},
	{[]int{1000, 99, 99}, api.ErrRange},
}

func TestP2_5_ErrorsOfArguments(t *testing.T) {
	refused := func(s api.Stringing, m api.TensionLimits, gauges []int, c api.GaugeChoice, want api.Errno) {
		t.Helper()
		if l, e := scale.Allowed(s, m, gauges); len(l) != 0 || e != want {
			t.Errorf("Allowed(%v, %v, %v) = %v, %v, want %v", s, m, gauges, l, e, want)
		}
		if c, n, e := scale.Choose(s, m, gauges); len(c.Gauges) != 0 || len(c.Potentials) != 0 || n != 0 || e != want {
			t.Errorf("Choose(%v, %v, %v) = %v, %v, %v, want %v", s, m, gauges, c, n, e, want)
		}
		if n, e := scale.CheckChoice(s, m, gauges, c); n != 0 || e != want {
			t.Errorf("CheckChoice(%v, %v, %v, %v) = %v, %v, want %v", s, m, gauges, c, n, e, want)
		}
	}
	refusedWith := func(s api.Stringing, gauges, choice []int, want api.Errno) {
		t.Helper()
		if x, e := scale.With(s, gauges, choice); !isEmpty(x) || e != want {
			t.Errorf("With(%v, %v, %v) = %v, %v, want %v", s, gauges, choice, x, e, want)
		}
	}
	right := api.GaugeChoice{Gauges: []int{1, 1}, Potentials: [][]int{{0, 0, 0}, {0, 0, 0}}}
	for _, c := range invalidStringings() {
		refused(c.s, exampleLimits(), exampleGauges(), right, c.want)
		refused(c.s, api.TensionLimits{Least: 1}, nil, api.GaugeChoice{}, c.want)
		refusedWith(c.s, exampleGauges(), []int{1, 1}, c.want)
		refusedWith(c.s, nil, nil, c.want)
	}
	for _, c := range invalidLimits {
		refused(two(), c.m, exampleGauges(), right, c.want)
		refused(two(), c.m, nil, api.GaugeChoice{}, c.want)
	}
	for _, c := range invalidGauges {
		refused(two(), exampleLimits(), c.gauges, right, c.want)
		refused(two(), exampleLimits(), c.gauges, api.GaugeChoice{}, c.want)
		refused(api.Stringing{Fork: 440000}, exampleLimits(), c.gauges, api.GaugeChoice{}, c.want)
		refusedWith(two(), c.gauges, []int{0, 0}, c.want)
		refusedWith(two(), c.gauges, nil, c.want)
	}
}

// isEmpty says whether a stringing is the zero value.
func isEmpty(s api.Stringing) bool { return s.Fork == 0 && len(s.Wires) == 0 && len(s.Unisons) == 0 }

func rowsEqual(a, b [][]int) bool {
	return slices.EqualFunc(a, b, func(x, y []int) bool { return slices.Equal(x, y) })
}

func TestP2_5_Allowed(t *testing.T) {
	wide := wideLimits()
	for _, c := range []struct {
		name   string
		s      api.Stringing
		m      api.TensionLimits
		gauges []int
		want   [][]int
	}{
		{"the example", two(), exampleLimits(), exampleGauges(), [][]int{{1}, {1}}},
		{"no unisons", api.Stringing{Fork: 440000}, exampleLimits(), exampleGauges(), nil},
		{"all", two(), wide, exampleGauges(), [][]int{{0, 1, 2}, {0, 1, 2}}},
		{"without Jump", two(), api.TensionLimits{Least: 60000, Most: 90000, Share: 500}, exampleGauges(), [][]int{{0, 1, 2}, {0, 1, 2}}},
		{"none", two(), api.TensionLimits{Least: 85000, Most: 90000, Share: 500}, exampleGauges(), [][]int{{}, {}}},
		{"by Least", two(), api.TensionLimits{Least: 76389, Most: 90000, Share: 500}, exampleGauges(), [][]int{{1, 2}, {1, 2}}},
		{"by Most", two(), api.TensionLimits{Least: 60000, Most: 76390, Share: 500}, exampleGauges(), [][]int{{0, 1}, {0, 1}}},
		{"by Share", octaves(plain(40000, 1000), plain(21000, 1000)), api.TensionLimits{Most: 100000, Share: 425}, exampleGauges(), [][]int{{0, 1, 2}, {}}},
		{"by what is wound around it", octaves(plain(40000, 900), wound(20000, 900, 1000)), wide, []int{950, 999, 1000, 1050}, [][]int{{0, 1, 2, 3}, {0, 1}}},
		{"the ends", two(), wide, []int{100, 3000}, [][]int{{0, 1}, {0, 1}}},
		{"twenty", two(), api.TensionLimits{Least: 76389, Most: 76390, Share: 425}, wideRow(20), [][]int{{10}, {10}}},
	} {
		if l, e := scale.Allowed(c.s, c.m, c.gauges); !rowsEqual(l, c.want) || e != api.OK {
			t.Errorf("Allowed, %s: %v, %v, want %v", c.name, l, e, c.want)
		}
	}
	weak := two()
	weak.Wires[0].Mass, weak.Wires[0].Strength = 1, 1
	if l, e := scale.Allowed(weak, wide, []int{998, 999, 1000, 1001}); !rowsEqual(l, [][]int{{2, 3}, {2, 3}}) || e != api.OK {
		t.Errorf("Allowed of a weak wire: %v, %v", l, e)
	}
}

// bench is what gauges of a stringing come to, by the definitions: whether they are allowed, and their tensions.
type bench struct {
	allowed  [][]bool
	tensions [][]api.Range
	m        api.TensionLimits
}

func benchOf(s api.Stringing, m api.TensionLimits, gauges []int) bench {
	b := bench{m: m}
	for i := range s.Unisons {
		allowed, tensions := make([]bool, len(gauges)), make([]api.Range, len(gauges))
		for j, gauge := range gauges {
			with := api.Stringing{Fork: s.Fork, Wires: s.Wires, Unisons: slices.Clone(s.Unisons)}
			with.Unisons[i].Strand.Core = gauge
			if scale.CheckStrand(with.Wires, with.Unisons[i].Strand) == api.OK {
				n := figuresAt(with, i)
				allowed[j], tensions[j] = n.keepsBy(m), n.tension
			}
		}
		b.allowed, b.tensions = append(b.allowed, allowed), append(b.tensions, tensions)
	}
	return b
}

func (b bench) together(unison, before, gauge int) bool {
	return b.allowed[unison-1][before] && b.allowed[unison][gauge] && jumpOf(b.tensions[unison-1][before], b.tensions[unison][gauge]) <= b.m.Jump
}

// choices hands on every choice with its cost, and returns how far lists of gauges lead.
func (b bench) choices(found func(choice []int, cost int)) int {
	farthest := 0
	var extend func(choice []int, cost int)
	extend = func(choice []int, cost int) {
		unison := len(choice)
		farthest = max(farthest, unison)
		if unison == len(b.allowed) {
			found(choice, cost)
			return
		}
		for gauge := range b.allowed[unison] {
			if unison == 0 && b.allowed[0][gauge] {
				extend([]int{gauge}, 0)
			}
			if unison > 0 && b.together(unison, choice[unison-1], gauge) {
				extend(append(slices.Clone(choice), gauge), cost+abs(gauge-choice[unison-1]))
			}
		}
	}
	extend(nil, 0)
	return farthest
}

func abs(n int) int { return max(n, -n) }

// proves says by the definition whether potentials prove a bound.
func (b bench) proves(p [][]int, bound int) bool {
	for unison := range b.allowed {
		for gauge, allowed := range b.allowed[unison] {
			if allowed && (unison == 0 && p[0][gauge] > 0 || unison == len(p)-1 && p[unison][gauge] < bound) {
				return false
			}
			for before := range b.allowed[unison] {
				if unison > 0 && b.together(unison, before, gauge) && p[unison][gauge] > p[unison-1][before]+abs(gauge-before) {
					return false
				}
			}
		}
	}
	return true
}

func TestP2_5_ChooseExamples(t *testing.T) {
	c, n, e := scale.Choose(two(), exampleLimits(), exampleGauges())
	if !slices.Equal(c.Gauges, []int{1, 1}) || n != 0 || e != api.OK {
		t.Errorf("Choose = %v, %v, %v", c, n, e)
	}
	if n, e := scale.CheckChoice(two(), exampleLimits(), exampleGauges(), c); n != 0 || e != api.OK {
		t.Errorf("CheckChoice = %v, %v", n, e)
	}
	empty := api.Stringing{Fork: 440000}
	c, n, e = scale.Choose(empty, exampleLimits(), exampleGauges())
	if len(c.Gauges) != 0 || len(c.Potentials) != 0 || n != 0 || e != api.OK {
		t.Errorf("Choose without unisons = %v, %v, %v", c, n, e)
	}
	if n, e := scale.CheckChoice(empty, exampleLimits(), exampleGauges(), c); n != 0 || e != api.OK {
		t.Errorf("CheckChoice without unisons = %v, %v", n, e)
	}
}

func TestP2_5_ChooseRefuses(t *testing.T) {
	short := plain(1000, 1000)
	right := func(i int) api.Strand { return plain(40000>>i, 1000) }
	for _, c := range []struct {
		name string
		s    api.Stringing
		m    api.TensionLimits
		want int
	}{
		{"at first", two(), api.TensionLimits{Least: 85000, Most: 90000, Share: 500, Jump: 2000}, 0},
		{"in the middle", octaves(right(0), short, right(2)), exampleLimits(), 1},
		{"at last", octaves(right(0), right(1), short), exampleLimits(), 2},
		{"at two, the first", octaves(right(0), short, short), exampleLimits(), 1},
		// All are allowed, but no two tensions are the same.
		{"by the jump", two(), api.TensionLimits{Least: 60000, Most: 90000, Share: 500, Jump: 0}, 1},
		{"by the jump of the last one", octaves(right(0), right(1), plain(9700, 1000)), api.TensionLimits{Least: 60000, Most: 90000, Share: 500, Jump: 1}, 2},
	} {
		if x, n, e := scale.Choose(c.s, c.m, exampleGauges()); len(x.Gauges) != 0 || len(x.Potentials) != 0 || n != c.want || e != api.ErrNone {
			t.Errorf("Choose, %s: %v, %v, %v, want %v", c.name, x, n, e, c.want)
		}
	}
}

// randomBench returns a stringing, limits and gauges with few or many choices.
func randomBench(r *rand.Rand) (api.Stringing, api.TensionLimits, []int) {
	s, m := randomStringing(r, among(r, 1, 5)), randomLimits(r)
	var gauges []int
	for gauge := among(r, 90, 97) * 10; len(gauges) < 5 && gauge < 1100; gauge += among(r, 5, 40) {
		gauges = append(gauges, gauge)
	}
	m.Jump = among(r, 500, 12000)
	return s, m, gauges
}

func TestP2_5_ChooseAgainstAllChoices(t *testing.T) {
	r := rand.New(rand.NewSource(7))
	refused, costly := 0, 0
	for range 800 {
		s, m, gauges := randomBench(r)
		b := benchOf(s, m, gauges)
		least := math.MaxInt
		farthest := b.choices(func(_ []int, cost int) { least = min(least, cost) })
		c, n, e := scale.Choose(s, m, gauges)
		if farthest < len(s.Unisons) {
			refused++
			if len(c.Gauges) != 0 || len(c.Potentials) != 0 || n != farthest || e != api.ErrNone {
				t.Errorf("Choose(%v, %v, %v) = %v, %v, %v, want %v", s, m, gauges, c, n, e, farthest)
			}
			continue
		}
		if least > 0 {
			costly++
		}
		if n != least || e != api.OK || len(c.Gauges) != len(s.Unisons) || len(c.Potentials) != len(s.Unisons) {
			t.Fatalf("Choose(%v, %v, %v) = %v, %v, %v, want %v", s, m, gauges, c, n, e, least)
		}
		found := false
		b.choices(func(choice []int, cost int) { found = found || cost == least && slices.Equal(choice, c.Gauges) })
		if !found || !b.proves(c.Potentials, least) {
			t.Errorf("Choose(%v, %v, %v) = %v, %v", s, m, gauges, c, n)
		}
		for _, row := range c.Potentials {
			if len(row) != len(gauges) || slices.Min(row) < -1000000 || slices.Max(row) > 1000000 {
				t.Errorf("Choose(%v, %v, %v): potentials %v", s, m, gauges, c.Potentials)
			}
		}
		if cost, e := scale.CheckChoice(s, m, gauges, c); cost != least || e != api.OK {
			t.Errorf("CheckChoice(%v, %v, %v, %v) = %v, %v", s, m, gauges, c, cost, e)
		}
	}
	if refused < 50 || costly < 50 {
		t.Errorf("%d are refused, %d cost anything", refused, costly)
	}
}

func TestP2_5_CheckChoice(t *testing.T) {
	// All three gauges are allowed, but only equal ones go together.
	m := api.TensionLimits{Least: 60000, Most: 90000, Share: 500, Jump: 2000}
	zeros := func(n int) [][]int {
		l := make([][]int, n)
		for i := range l {
			l[i] = make([]int, 3)
		}
		return l
	}
	for _, c := range []struct {
		name       string
		gauges     []int
		potentials [][]int
		e          api.Errno
	}{
		{"right", []int{2, 2}, zeros(2), api.OK},
		{"another one", []int{0, 0}, zeros(2), api.OK},
		{"too few gauges", []int{2}, zeros(2), api.ErrShape},
		{"too many gauges", []int{2, 2, 2}, zeros(2), api.ErrShape},
		{"no gauges", nil, zeros(2), api.ErrShape},
		{"too few potentials", []int{2, 2}, zeros(1), api.ErrShape},
		{"too many potentials", []int{2, 2}, zeros(3), api.ErrShape},
		{"no potentials", []int{2, 2}, nil, api.ErrShape},
		{"a short list of potentials", []int{2, 2}, [][]int{{0, 0, 0}, {0, 0}}, api.ErrShape},
		{"a long list of potentials", []int{2, 2}, [][]int{{0, 0, 0, 0}, {0, 0, 0}}, api.ErrShape},
		{"an empty list of potentials", []int{2, 2}, [][]int{{0, 0, 0}, nil}, api.ErrShape},
		{"a short list, and no gauge", []int{3, 3}, [][]int{{0, 0, 0}, {0, 0}}, api.ErrShape},
		{"no gauge at first", []int{3, 2}, zeros(2), api.ErrMissing},
		{"no gauge at last", []int{2, 3}, zeros(2), api.ErrMissing},
		{"below all gauges", []int{2, -1}, zeros(2), api.ErrMissing},
		{"far below", []int{math.MinInt, 2}, zeros(2), api.ErrMissing},
		{"far above", []int{2, math.MaxInt}, zeros(2), api.ErrMissing},
		{"not together", []int{1, 2}, zeros(2), api.ErrClash},
		{"not together, and a potential", []int{1, 2}, [][]int{{math.MinInt, 0, 0}, {0, 0, 0}}, api.ErrClash},
		{"no gauge, and a potential", []int{2, 3}, [][]int{{1000001, 0, 0}, {0, 0, 0}}, api.ErrMissing},
		{"a potential that is too great", []int{2, 2}, [][]int{{0, 0, 0}, {0, 1000001, 0}}, api.ErrRange},
		{"a potential that is too small", []int{2, 2}, [][]int{{-1000001, 0, 0}, {0, 0, 0}}, api.ErrRange},
		{"the greatest potential", []int{2, 2}, [][]int{{0, 0, 0}, {0, 0, math.MaxInt}}, api.ErrRange},
		{"the least potential", []int{2, 2}, [][]int{{math.MinInt, 0, 0}, {0, 0, 0}}, api.ErrRange},
		{"a wrong potential before one that is too great", []int{2, 2}, [][]int{{1, 0, 0}, {0, 0, 1000001}}, api.ErrRange},
		{"above 0 at first", []int{2, 2}, [][]int{{0, 0, 1}, {0, 0, 0}}, api.ErrProof},
		{"below the cost at last", []int{2, 2}, [][]int{{0, 0, 0}, {-1, 0, 0}}, api.ErrProof},
		{"far below the cost at last", []int{2, 2}, [][]int{{0, 0, 0}, {0, 0, -1000000}}, api.ErrProof},
		{"above the one before", []int{2, 2}, [][]int{{0, 0, 0}, {0, 1, 0}}, api.ErrProof},
		{"far above the one before", []int{2, 2}, [][]int{{0, 0, 0}, {0, 1000000, 0}}, api.ErrProof},
		{"below the next one", []int{2, 2}, [][]int{{0, -1000000, 0}, {0, 0, 0}}, api.ErrProof},
	} {
		if n, e := scale.CheckChoice(two(), m, exampleGauges(), api.GaugeChoice{Gauges: c.gauges, Potentials: c.potentials}); n != 0 || e != c.e {
			t.Errorf("CheckChoice, %s: %v, %v, want %v", c.name, n, e, c.e)
		}
	}
}

func TestP2_5_CheckChoiceOfAllowedGauges(t *testing.T) {
	m := exampleLimits()
	check := func(s api.Stringing, gauges []int, potentials [][]int, want api.Errno) {
		t.Helper()
		if n, e := scale.CheckChoice(s, m, exampleGauges(), api.GaugeChoice{Gauges: gauges, Potentials: potentials}); n != 0 || e != want {
			t.Errorf("CheckChoice(%v, %v) = %v, %v, want %v", gauges, potentials, n, e, want)
		}
	}
	zeros := [][]int{{0, 0, 0}, {0, 0, 0}}
	check(two(), []int{1, 1}, zeros, api.OK)
	check(two(), []int{0, 1}, zeros, api.ErrBreak)
	check(two(), []int{1, 2}, zeros, api.ErrBreak)
	check(two(), []int{0, 0}, zeros, api.ErrBreak)
	// The first unison with an error decides.
	check(two(), []int{0, 3}, zeros, api.ErrBreak)
	check(two(), []int{3, 0}, zeros, api.ErrMissing)
	check(octaves(plain(40000, 1000), plain(20000, 1000), plain(10000, 1000)), []int{1, 3, 0}, append(zeros, []int{0, 0, 0}), api.ErrMissing)
	// The potentials of gauges that are not allowed only have to be in their range.
	check(two(), []int{1, 1}, [][]int{{1000000, 0, -1000000}, {-1000000, 0, 1000000}}, api.OK)
	check(two(), []int{1, 1}, [][]int{{1000001, 0, 0}, {0, 0, 0}}, api.ErrRange)
	check(two(), []int{1, 1}, [][]int{{0, 0, 0}, {0, 0, -1000001}}, api.ErrRange)
	// A clash comes before errors of later unisons.
	m = api.TensionLimits{Least: 60000, Most: 80000, Share: 500, Jump: 2000}
	check(octaves(plain(40000, 1000), plain(20000, 1000), plain(10000, 1000)), []int{0, 1, 3}, append(zeros, []int{0, 0, 0}), api.ErrClash)
	check(octaves(plain(40000, 1000), plain(20000, 1000), plain(10000, 1000)), []int{0, 1, 2}, append(zeros, []int{0, 0, 0}), api.ErrClash)
	check(octaves(plain(40000, 1000), plain(20000, 1000), plain(10000, 1000)), []int{0, 2, 2}, append(zeros, []int{0, 0, 0}), api.ErrBreak)
}

func TestP2_5_CheckChoiceAsDefined(t *testing.T) {
	r := rand.New(rand.NewSource(8))
	proved, refused := 0, 0
	for range 400 {
		s, m, gauges := randomBench(r)
		best, _, e := scale.Choose(s, m, gauges)
		if e != api.OK {
			continue
		}
		b := benchOf(s, m, gauges)
		least := math.MaxInt
		b.choices(func(_ []int, cost int) { least = min(least, cost) })
		b.choices(func(choice []int, cost int) {
			if r.Intn(4) > 0 && cost > least {
				return
			}
			potentials := make([][]int, len(best.Potentials))
			for i, row := range best.Potentials {
				potentials[i] = slices.Clone(row)
			}
			for range r.Intn(3) {
				row := potentials[r.Intn(len(potentials))]
				i := r.Intn(len(row))
				row[i] = min(1000000, row[i]+among(r, -1, 1))
			}
			want, wantE := cost, api.OK
			if !b.proves(potentials, cost) {
				want, wantE = 0, api.ErrProof
				refused++
			} else {
				proved++
			}
			c := api.GaugeChoice{Gauges: choice, Potentials: potentials}
			if n, e := scale.CheckChoice(s, m, gauges, c); n != want || e != wantE {
				t.Errorf("CheckChoice(%v, %v, %v, %v) = %v, %v, want %v, %v", s, m, gauges, c, n, e, want, wantE)
			}
		})
	}
	if proved < 50 || refused < 50 {
		t.Errorf("%d are proved, %d are refused", proved, refused)
	}
}

func TestP2_5_With(t *testing.T) {
	s := octaves(plain(40000, 1000), wound(20000, 1000, 1040))
	x, e := scale.With(s, exampleGauges(), []int{2, 0})
	if e != api.OK || x.Fork != s.Fork || !slices.Equal(x.Wires, s.Wires) || !slices.Equal(x.Unisons, octaves(plain(40000, 1050), wound(20000, 950, 1040)).Unisons) {
		t.Errorf("With = %v, %v", x, e)
	}
	if x, e := scale.With(api.Stringing{Fork: 440000}, exampleGauges(), nil); e != api.OK || x.Fork != 440000 || len(x.Unisons) != 0 || len(x.Wires) != 0 {
		t.Errorf("With of no unisons = %v, %v", x, e)
	}
	for _, c := range []struct {
		choice []int
		want   api.Errno
	}{
		{nil, api.ErrShape}, {[]int{0}, api.ErrShape}, {[]int{0, 0, 0}, api.ErrShape}, {[]int{0, 0, 3}, api.ErrShape},
		{[]int{0, 3}, api.ErrMissing}, {[]int{-1, 0}, api.ErrMissing}, {[]int{math.MinInt, 0}, api.ErrMissing}, {[]int{0, math.MaxInt}, api.ErrMissing},
		// The wrap of the second one is not around a core of 1050.
		{[]int{0, 2}, api.ErrForm}, {[]int{3, 2}, api.ErrMissing},
	} {
		if x, e := scale.With(s, exampleGauges(), c.choice); !isEmpty(x) || e != c.want {
			t.Errorf("With(%v) = %v, %v, want %v", c.choice, x, e, c.want)
		}
	}
	weak := two()
	weak.Wires[0].Strength = 1
	if x, e := scale.With(weak, exampleGauges(), []int{1, 0}); !isEmpty(x) || e != api.ErrZero {
		t.Errorf("With of a weak wire = %v, %v", x, e)
	}
}
