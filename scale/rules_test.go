package scale_test

import (
	"math"
	"math/rand"
	"slices"
	"strings"
	"testing"

	"agraffe/api"
	"agraffe/scale"
)

// anyOf returns functions that hand on numbers at and beyond all limits, and values that are built of them.
type anyOf struct{ r *rand.Rand }

func (a anyOf) number() int { return extremes[a.r.Intn(len(extremes))] }

// near returns a right number most of the time.
func (a anyOf) near(right int) int {
	if a.r.Intn(12) == 0 {
		return a.number()
	}
	return right
}

func (a anyOf) name() string {
	return []string{"steel", "copper", "steel", "copper", "", "-", "x y", strings.Repeat("n", 13)}[a.r.Intn(8)]
}

func (a anyOf) wires() []api.Wire {
	l := both()
	for i := range l {
		l[i].Mass, l[i].Strength, l[i].Stiff = a.near(24661), a.near(180000), a.near(97000000)
	}
	return l[:a.r.Intn(3)]
}

func (a anyOf) strand() api.Strand {
	s := api.Strand{Length: a.near(40000), Core: a.near(1000), Wire: a.name()}
	if a.r.Intn(2) == 0 {
		s.Over, s.Wrap = a.near(1100), a.name()
	}
	return s
}

func (a anyOf) stringing() api.Stringing {
	s := api.Stringing{Fork: a.near(440000), Wires: both()}
	if a.r.Intn(3) == 0 {
		s.Wires = a.wires()
	}
	for i := range a.r.Intn(4) {
		u := api.Unison{Pitch: pitch(a.near(i), a.near(0), a.near(0), a.near(1)), Count: a.near(3), Strand: plain(a.near(40000>>i), a.near(1000))}
		if a.r.Intn(8) == 0 {
			u.Strand = a.strand()
		}
		s.Unisons = append(s.Unisons, u)
	}
	return s
}

func (a anyOf) span() api.Range { return span(a.near(5000), a.near(440000)) }

func (a anyOf) limits() api.TensionLimits {
	return api.TensionLimits{Least: a.near(60000), Most: a.near(90000), Share: a.near(500), Jump: a.near(20000)}
}

func (a anyOf) row(n int) []int {
	l := make([]int, n)
	for i := range l {
		l[i] = a.near(i)
	}
	return l
}

func (a anyOf) gauges() []int {
	l := exampleGauges()
	for i := range l {
		l[i] = a.near(l[i])
	}
	return l[:a.r.Intn(4)]
}

// TestP2_NoPanic calls every function with numbers at and beyond all limits (R2).
func TestP2_NoPanic(t *testing.T) {
	a := anyOf{rand.New(rand.NewSource(16))}
	for range 20000 {
		l, strand, f, s, m, gauges := a.wires(), a.strand(), a.span(), a.stringing(), a.limits(), a.gauges()
		scale.CheckWires(l)
		scale.CheckStrand(l, strand)
		scale.MassOf(l, strand)
		for _, call := range rangeCalls {
			call(l, strand, f)
		}
		scale.ClassOf(a.row(a.r.Intn(4)), a.span())
		scale.CheckStringing(s)
		scale.Frequency(s, a.number())
		scale.Tensions(s)
		scale.Total(s)
		scale.CheckLimits(m)
		scale.Keeps(s, m)
		scale.LongestFor(s, a.near(0), m)
		scale.LeastGauge(s, a.near(0), m)
		scale.Allowed(s, m, gauges)
		c, _, _ := scale.Choose(s, m, gauges)
		scale.CheckChoice(s, m, gauges, c)
		c = api.GaugeChoice{Gauges: a.row(len(s.Unisons))}
		for range a.near(len(s.Unisons)) % 4 {
			c.Potentials = append(c.Potentials, a.row(len(gauges)))
		}
		scale.CheckChoice(s, m, gauges, c)
		scale.With(s, gauges, a.row(len(s.Unisons)))
		bounds := make([]api.Range, a.r.Intn(4))
		for i := range bounds {
			bounds[i] = a.span()
		}
		scale.LengthSystem(bounds, a.span())
		scale.SmoothLengths(bounds, a.span())
		text, _ := scale.Print(s)
		scale.Parse(text)
		scale.Parse(text[a.r.Intn(len(text)+1):])
	}
}

// TestP2_ArgumentsStay checks that no function writes into its arguments (R3).
func TestP2_ArgumentsStay(t *testing.T) {
	s, m, gauges := two(), exampleLimits(), exampleGauges()
	bounds, marks := exampleLengths(), []int{4000, 5000}
	potentials, choice := [][]int{{0, 0, 0}, {0, 0, 0}}, []int{1, 1}
	scale.CheckWires(s.Wires)
	for _, call := range rangeCalls {
		call(s.Wires, s.Unisons[0].Strand, span(440000, 440000))
	}
	scale.ClassOf(marks, span(4340, 4341))
	scale.CheckStringing(s)
	scale.Frequency(s, 1)
	scale.Tensions(s)
	scale.Total(s)
	scale.Keeps(s, m)
	scale.LongestFor(s, 0, m)
	scale.LeastGauge(s, 0, m)
	scale.Allowed(s, m, gauges)
	scale.Choose(s, m, gauges)
	scale.CheckChoice(s, m, gauges, api.GaugeChoice{Gauges: choice, Potentials: potentials})
	scale.With(s, gauges, []int{2, 0})
	scale.LengthSystem(bounds, span(0, 100))
	scale.SmoothLengths(bounds, span(0, 100))
	scale.SmoothLengths(bounds, span(600, 700))
	scale.Print(s)
	if !equal(s, two()) || !slices.Equal(gauges, exampleGauges()) || !slices.Equal(bounds, exampleLengths()) || !slices.Equal(marks, []int{4000, 5000}) ||
		!slices.Equal(choice, []int{1, 1}) || !rowsEqual(potentials, [][]int{{0, 0, 0}, {0, 0, 0}}) {
		t.Error(s, gauges, bounds, marks, choice, potentials)
	}
}

// TestP2_ResultsShareNothing checks that results share no memory with arguments, with each other, or with later results (R3, R4).
func TestP2_ResultsShareNothing(t *testing.T) {
	s, gauges := two(), exampleGauges()
	x, e := scale.With(s, gauges, []int{1, 1})
	if e != api.OK {
		t.Fatal(e)
	}
	x.Wires[0], x.Unisons[0] = api.Wire{}, api.Unison{}
	_, _ = append(x.Wires[:1], api.Wire{}), append(x.Unisons[:1], api.Unison{})
	if !equal(s, two()) {
		t.Errorf("With shares memory: %v", s)
	}
	m := api.TensionLimits{Least: 60000, Most: 90000, Share: 500, Jump: 2000}
	rows, _ := scale.Allowed(s, m, gauges)
	_ = append(rows[0], 99)
	rows[0][0] = 99
	if !slices.Equal(rows[1], []int{0, 1, 2}) {
		t.Errorf("Allowed: %v", rows)
	}
	if again, _ := scale.Allowed(s, m, gauges); !rowsEqual(again, [][]int{{0, 1, 2}, {0, 1, 2}}) {
		t.Errorf("Allowed: %v", again)
	}
	c, _, e := scale.Choose(s, m, gauges)
	if e != api.OK {
		t.Fatal(e)
	}
	second, chosen := slices.Clone(c.Potentials[1]), slices.Clone(c.Gauges)
	_ = append(c.Potentials[0], 99, 99, 99)
	c.Potentials[0][0], c.Potentials[0][2] = 99, 99
	if !slices.Equal(c.Potentials[1], second) || !slices.Equal(c.Gauges, chosen) {
		t.Errorf("Choose: %v", c)
	}
	c.Gauges[0] = 99
	if again, n, e := scale.Choose(s, m, gauges); n != 0 || e != api.OK || slices.Contains(again.Gauges, 99) || slices.Contains(again.Potentials[0], 99) {
		t.Errorf("Choose: %v, %v, %v", again, n, e)
	}
	l, _ := scale.Tensions(s)
	l[0] = api.Range{}
	if again, _ := scale.Tensions(s); again[0] != span(76389, 76390) {
		t.Errorf("Tensions: %v", again)
	}
	system, _ := scale.LengthSystem(exampleLengths(), span(0, 100))
	system[0] = api.Bound{}
	if again, _ := scale.LengthSystem(exampleLengths(), span(0, 100)); again[0] != (api.Bound{From: 2, To: 0, Most: 2000}) {
		t.Errorf("LengthSystem: %v", again)
	}
}

// TestP2_NilIsEmpty checks that a nil list and an empty one are the same (R5).
func TestP2_NilIsEmpty(t *testing.T) {
	empty := api.Stringing{Fork: 440000, Wires: []api.Wire{}, Unisons: []api.Unison{}}
	bare := api.Stringing{Fork: 440000}
	m, gauges := exampleLimits(), exampleGauges()
	for _, s := range []api.Stringing{empty, bare} {
		if n, e := scale.CheckStringing(s); n != 0 || e != api.OK {
			t.Error("CheckStringing", n, e)
		}
		if n, e := scale.Keeps(s, m); n != -1 || e != api.OK {
			t.Error("Keeps", n, e)
		}
		if text, e := scale.Print(s); text != "fork 440000\n" || e != api.OK {
			t.Error("Print", text, e)
		}
		for _, c := range []api.GaugeChoice{{}, {Gauges: []int{}, Potentials: [][]int{}}} {
			if n, e := scale.CheckChoice(s, m, gauges, c); n != 0 || e != api.OK {
				t.Error("CheckChoice", n, e)
			}
			if x, e := scale.With(s, gauges, c.Gauges); !equal(x, bare) || e != api.OK {
				t.Error("With", x, e)
			}
		}
	}
	if scale.CheckWires(nil) != scale.CheckWires([]api.Wire{}) || scale.CheckStrand([]api.Wire{}, plain(40000, 1000)) != api.ErrMissing {
		t.Error("CheckWires")
	}
	for _, marks := range [][]int{nil, {}} {
		if n, e := scale.ClassOf(marks, span(0, 1)); n != 0 || e != api.OK {
			t.Error("ClassOf", n, e)
		}
		if _, e := scale.Allowed(two(), m, marks); e != api.ErrLarge {
			t.Error("Allowed", e)
		}
	}
	for _, bounds := range [][]api.Range{nil, {}} {
		if l, e := scale.LengthSystem(bounds, span(0, 0)); len(l) != 0 || e != api.OK {
			t.Error("LengthSystem", l, e)
		}
		if l, circle, e := scale.SmoothLengths(bounds, span(0, 0)); len(l) != 0 || len(circle) != 0 || e != api.OK {
			t.Error("SmoothLengths", l, circle, e)
		}
	}
}

// TestP2_LimitsAreIncluded checks the ends of the ranges of a stringing together (R7).
func TestP2_LimitsAreIncluded(t *testing.T) {
	most := api.Wire{Name: "abcdefghijkl", Mass: 200000, Strength: 1000000, Stiff: 100000000}
	s := api.Stringing{Fork: 10000000, Wires: []api.Wire{most}, Unisons: []api.Unison{
		{Pitch: pitch(-1, 0, 0, 1), Count: 1, Strand: api.Strand{Length: 300000, Core: 3000, Wire: most.Name}},
		{Pitch: pitch(0, 0, 0, 12), Count: 4, Strand: api.Strand{Length: 300000, Core: 3000, Over: 10000, Wire: most.Name, Wrap: most.Name}}}}
	// x is 3000000 and q is 900000000: the greatest tension is 1.8 10^12, and all products stay below 2^63.
	if l, e := scale.Tensions(s); e != api.OK || l[1] != span(1800000000000, 1800000000000) || l[0] != span(40500000000, 40500000000) {
		t.Errorf("Tensions = %v, %v", l, e)
	}
	if x, e := scale.Total(s); e != api.OK || x != span(7240500000000, 7240500000000) {
		t.Errorf("Total = %v, %v", x, e)
	}
	if x, e := scale.Share(s.Wires, s.Unisons[1].Strand, span(10000000, 10000000)); e != api.OK || x != span(200000000, 200000000) {
		t.Errorf("Share = %v, %v", x, e)
	}
	if x, e := scale.Inharmonicity(s.Wires, api.Strand{Length: 1000, Core: 3000, Wire: most.Name}, span(100000, 100000)); e != api.OK || x.Lo < 1 || x.Hi > math.MaxInt/2 {
		t.Errorf("Inharmonicity = %v, %v", x, e)
	}
}
