package scale_test

import (
	"math"
	"math/rand"
	"strconv"
	"strings"
	"testing"

	"agraffe/api"
	"agraffe/scale"
)

// named returns a right wire with this name.
func named(name string) api.Wire { return api.Wire{Name: name, Mass: 1, Strength: 1000000, Stiff: 0} }

// many returns so many right wires with the same name.
func many(n int) []api.Wire {
	l := make([]api.Wire, n)
	for i := range l {
		l[i] = named("x")
	}
	return l
}

// refusedWires is a list of wires with the error of CheckWires.
type refusedWires struct {
	l    []api.Wire
	want api.Errno
}

// invalidWires returns lists of wires with their errors, by what is wrong with them.
func invalidWires() map[string]refusedWires {
	bad := map[string]refusedWires{
		"21 wires":                     {many(21), api.ErrLarge},
		"21 wires, the first bad":      {append([]api.Wire{named("")}, many(20)...), api.ErrLarge},
		"20 wires of one name":         {many(20), api.ErrExists},
		"a name again":                 {[]api.Wire{steel(), copper(), steel()}, api.ErrExists},
		"a name again, and no mass":    {[]api.Wire{steel(), {Name: "steel"}}, api.ErrExists},
		"no name and no mass":          {[]api.Wire{{}}, api.ErrName},
		"no name again":                {[]api.Wire{steel(), {}, {}}, api.ErrName},
		"no mass, then no name":        {[]api.Wire{{Name: "x"}, {}}, api.ErrRange},
		"no mass, then its name again": {[]api.Wire{{Name: "x"}, named("x")}, api.ErrRange},
		"no mass behind a right one":   {[]api.Wire{steel(), {Name: "x"}}, api.ErrRange},
	}
	for _, name := range []string{"", "1", "1a", "-", "-a", " a", "a b", "a ", "a\n", "a_b", "a.", "é", "aé", "a@", "a[", "a`", "a{", "a/", "a:", "@", "[", "`", "{", "abcdefghijklm", strings.Repeat("a", 70000)} {
		bad["name "+name] = refusedWires{[]api.Wire{named(name)}, api.ErrName}
	}
	for _, n := range []int{math.MinInt, -1, 0, 200001, math.MaxInt} {
		w := steel()
		w.Mass = n
		bad["mass "+strconv.Itoa(n)] = refusedWires{[]api.Wire{w}, api.ErrRange}
	}
	for _, n := range []int{math.MinInt, -1, 0, 1000001, math.MaxInt} {
		w := steel()
		w.Strength = n
		bad["strength "+strconv.Itoa(n)] = refusedWires{[]api.Wire{w}, api.ErrRange}
	}
	for _, n := range []int{math.MinInt, -1, 100000001, math.MaxInt} {
		w := steel()
		w.Stiff = n
		bad["stiff "+strconv.Itoa(n)] = refusedWires{[]api.Wire{w}, api.ErrRange}
	}
	return bad
}

// invalidStrands are strands of the wires both with the error of CheckStrand.
var invalidStrands = []struct {
	s    api.Strand
	want api.Errno
}{
	{api.Strand{}, api.ErrRange},
	{plain(999, 1000), api.ErrRange},
	{plain(300001, 1000), api.ErrRange},
	{plain(math.MinInt, 1000), api.ErrRange},
	{plain(math.MaxInt, 1000), api.ErrRange},
	{plain(40000, 99), api.ErrRange},
	{plain(40000, 3001), api.ErrRange},
	{plain(40000, math.MinInt), api.ErrRange},
	{plain(40000, math.MaxInt), api.ErrRange},
	{wound(40000, 1000, -1), api.ErrRange},
	{wound(40000, 1000, 10001), api.ErrRange},
	{wound(40000, 1000, math.MinInt), api.ErrRange},
	{wound(40000, 1000, math.MaxInt), api.ErrRange},
	{wound(40000, 1000, 1000), api.ErrForm},
	{wound(40000, 1000, 999), api.ErrForm},
	{wound(40000, 1000, 1), api.ErrForm},
	{wound(40000, 1000, 0), api.ErrForm},
	{api.Strand{Length: 40000, Core: 1000, Over: 1001, Wire: "steel"}, api.ErrForm},
	{api.Strand{Length: 40000, Core: 1000, Over: 10000, Wire: "steel"}, api.ErrForm},
	{api.Strand{Length: 40000, Core: 1000, Wire: "iron"}, api.ErrMissing},
	{api.Strand{Length: 40000, Core: 1000}, api.ErrMissing},
	{api.Strand{Length: 40000, Core: 1000, Wire: "Steel"}, api.ErrMissing},
	{api.Strand{Length: 40000, Core: 1000, Over: 1100, Wire: "iron", Wrap: "copper"}, api.ErrMissing},
	{api.Strand{Length: 40000, Core: 1000, Over: 1100, Wire: "steel", Wrap: "iron"}, api.ErrMissing},
	// Of several errors the one that is listed first.
	{api.Strand{Length: 999, Core: 1000, Over: 1000, Wire: "steel", Wrap: "copper"}, api.ErrRange},
	{api.Strand{Length: 40000, Core: 99, Over: 99, Wire: "iron"}, api.ErrRange},
	{api.Strand{Length: 40000, Core: 1000, Wire: "iron", Wrap: "iron"}, api.ErrForm},
	{api.Strand{Length: 40000, Core: 1000, Over: 1000, Wire: "iron", Wrap: "copper"}, api.ErrForm},
	{api.Strand{Length: 40000, Core: 1000, Over: 1100, Wire: "iron"}, api.ErrForm},
}

func TestP2_1_CheckWires(t *testing.T) {
	for name, c := range invalidWires() {
		if e := scale.CheckWires(c.l); e != c.want {
			t.Errorf("%s: %v, want %v", name, e, c.want)
		}
	}
	twenty := many(20)
	for i := range twenty {
		twenty[i].Name = "x" + string(rune('a'+i))
	}
	for _, l := range [][]api.Wire{nil, {steel()}, both(), twenty,
		{named("a"), named("z"), named("A"), named("Z"), named("a-"), named("a--0"), named("Z09"), named("abcdefghijkl"), named("aa")},
		{{Name: "x", Mass: 200000, Strength: 1000000, Stiff: 100000000}, {Name: "y", Mass: 1, Strength: 1, Stiff: 0}}} {
		if e := scale.CheckWires(l); e != api.OK {
			t.Errorf("CheckWires(%v) = %v", l, e)
		}
	}
}

func TestP2_1_CheckStrand(t *testing.T) {
	for _, c := range invalidStrands {
		if e := scale.CheckStrand(both(), c.s); e != c.want {
			t.Errorf("CheckStrand(%v) = %v, want %v", c.s, e, c.want)
		}
	}
	for name, c := range invalidWires() {
		for _, s := range []api.Strand{plain(40000, 1000), {}} {
			if e := scale.CheckStrand(c.l, s); e != c.want {
				t.Errorf("CheckStrand, %s: %v, want %v", name, e, c.want)
			}
		}
	}
	if e := scale.CheckStrand(nil, plain(40000, 1000)); e != api.ErrMissing {
		t.Errorf("CheckStrand without wires: %v", e)
	}
	for _, s := range []api.Strand{plain(1000, 100), plain(300000, 3000), wound(40000, 1000, 1001), wound(1000, 3000, 10000), wound(1000, 100, 101),
		{Length: 1000, Core: 1000, Over: 1100, Wire: "steel", Wrap: "steel"}, {Length: 1000, Core: 1000, Over: 1100, Wire: "copper", Wrap: "steel"}} {
		if e := scale.CheckStrand(both(), s); e != api.OK {
			t.Errorf("CheckStrand(%v) = %v", s, e)
		}
	}
}

func TestP2_1_StrengthOfZero(t *testing.T) {
	for _, c := range []struct {
		strength, core int
		want           api.Errno
	}{
		{1, 999, api.ErrZero}, {1, 1000, api.OK}, {99, 100, api.ErrZero}, {100, 100, api.OK}, {1, 100, api.ErrZero}, {50, 141, api.ErrZero}, {50, 142, api.OK}, {1, 3000, api.OK},
	} {
		wires := []api.Wire{{Name: "steel", Mass: 1, Strength: c.strength}, copper()}
		for _, s := range []api.Strand{plain(1000, c.core), wound(1000, c.core, 5000)} {
			if e := scale.CheckStrand(wires, s); e != c.want {
				t.Errorf("CheckStrand(strength %d, %v) = %v, want %v", c.strength, s, e, c.want)
			}
		}
		missing := plain(1000, c.core)
		missing.Over, missing.Wrap = 5000, "iron"
		if e := scale.CheckStrand(wires, missing); e != api.ErrMissing {
			t.Errorf("CheckStrand(strength %d, %v) = %v", c.strength, missing, e)
		}
	}
	// What the wrap bears does not count.
	weak := []api.Wire{steel(), {Name: "copper", Mass: 1, Strength: 1}}
	if e := scale.CheckStrand(weak, wound(1000, 100, 200)); e != api.OK {
		t.Errorf("CheckStrand with a weak wrap: %v", e)
	}
}

func TestP2_1_MassOf(t *testing.T) {
	most := []api.Wire{{Name: "steel", Mass: 200000, Strength: 1000000, Stiff: 100000000}, {Name: "copper", Mass: 200000, Strength: 1}}
	for _, c := range []struct {
		l    []api.Wire
		s    api.Strand
		want int
	}{
		{both(), plain(40000, 1000), 24661000000},
		{both(), plain(1000, 950), 22256552500},
		{both(), plain(1000, 100), 246610000},
		{both(), wound(40000, 1000, 1100), 24661000000 + 27960*210000},
		{both(), wound(40000, 1000, 1001), 24661000000 + 27960*2001},
		{both(), api.Strand{Length: 1000, Core: 1000, Over: 1100, Wire: "steel", Wrap: "steel"}, 24661 * 1210000},
		{both(), api.Strand{Length: 1000, Core: 1000, Over: 1100, Wire: "copper", Wrap: "steel"}, 27960000000 + 24661*210000},
		{most, wound(300000, 3000, 10000), 20000000000000},
	} {
		if n, e := scale.MassOf(c.l, c.s); n != c.want || e != api.OK {
			t.Errorf("MassOf(%v) = %v, %v, want %v", c.s, n, e, c.want)
		}
	}
}

// rangeCalls are the functions with wires, a strand and a frequency.
var rangeCalls = map[string]func(l []api.Wire, s api.Strand, f api.Range) (api.Range, api.Errno){
	"Tension": scale.Tension, "Share": scale.Share, "Inharmonicity": scale.Inharmonicity, "Impedance": scale.Impedance,
}

// invalidFrequencies are ranges with the error of a frequency.
var invalidFrequencies = []api.Range{{}, {Lo: 0, Hi: 440000}, {Lo: -1, Hi: 1}, {Lo: 2, Hi: 1}, {Lo: 440001, Hi: 440000}, {Lo: 1, Hi: 10000001}, {Lo: 10000001, Hi: 10000001},
	{Lo: math.MinInt, Hi: 1}, {Lo: 1, Hi: math.MaxInt}, {Lo: math.MinInt, Hi: math.MaxInt}, {Lo: math.MaxInt, Hi: math.MinInt}, {Lo: 1, Hi: 0}, {Lo: 1, Hi: math.MinInt}}

func TestP2_2_ErrorsOfArguments(t *testing.T) {
	right := span(440000, 440000)
	for name, call := range rangeCalls {
		refused := func(l []api.Wire, s api.Strand, f api.Range, want api.Errno) {
			t.Helper()
			if x, e := call(l, s, f); x != (api.Range{}) || e != want {
				t.Errorf("%s(%v, %v, %v) = %v, %v, want %v", name, l, s, f, x, e, want)
			}
		}
		for _, c := range invalidWires() {
			refused(c.l, plain(40000, 1000), right, c.want)
			refused(c.l, plain(40000, 1), span(0, 0), c.want)
		}
		for _, c := range invalidStrands {
			refused(both(), c.s, right, c.want)
			refused(both(), c.s, span(2, 1), c.want)
		}
		refused([]api.Wire{{Name: "steel", Mass: 1, Strength: 1}}, plain(1000, 999), span(0, 0), api.ErrZero)
		for _, f := range invalidFrequencies {
			refused(both(), plain(40000, 1000), f, api.ErrRange)
			refused(both(), wound(1000, 1000, 1100), f, api.ErrRange)
		}
	}
	for _, c := range invalidWires() {
		if n, e := scale.MassOf(c.l, plain(40000, 1)); n != 0 || e != c.want {
			t.Errorf("MassOf(%v) = %v, %v, want %v", c.l, n, e, c.want)
		}
	}
	for _, c := range invalidStrands {
		if n, e := scale.MassOf(both(), c.s); n != 0 || e != c.want {
			t.Errorf("MassOf(%v) = %v, %v, want %v", c.s, n, e, c.want)
		}
	}
}

func TestP2_2_Examples(t *testing.T) {
	for _, c := range []struct {
		name string
		s    api.Strand
		f    api.Range
		want api.Range
		e    api.Errno
	}{
		{"Tension", plain(40000, 1000), span(440000, 440000), span(76389, 76390), api.OK},
		{"Tension", plain(40000, 950), span(440000, 440000), span(68941, 68942), api.OK},
		{"Tension", plain(40000, 1050), span(440000, 440000), span(84219, 84220), api.OK},
		{"Share", plain(40000, 1000), span(440000, 440000), span(424, 425), api.OK},
		{"Inharmonicity", plain(40000, 1000), span(440000, 440000), span(793624, 793636), api.OK},
		{"Impedance", plain(40000, 1000), span(440000, 440000), span(4340, 4341), api.OK},
		// x from 0 to 1: no tension is proved.
		{"Tension", plain(1000, 1000), span(1, 1), span(0, 3), api.OK},
		{"Share", plain(1000, 1000), span(1, 1), span(0, 1), api.OK},
		{"Inharmonicity", plain(1000, 1000), span(1, 1), api.Range{}, api.ErrZero},
		{"Impedance", plain(1000, 1000), span(1, 1), api.Range{}, api.ErrZero},
		{"Impedance", plain(1000, 1000), span(999, 10000), api.Range{}, api.ErrZero},
		// x is 1: q is from 0 to 1.
		{"Tension", plain(1000, 1000), span(1000, 1000), span(0, 3), api.OK},
		{"Inharmonicity", plain(1000, 1000), span(1000, 1000), api.Range{}, api.ErrZero},
		{"Impedance", plain(1000, 1000), span(1000, 1000), span(0, 3000), api.OK},
		// x is 100, q is 1, and m q / 10^6 is 2.4661.
		{"Tension", plain(1000, 1000), span(100000, 100000), span(2, 3), api.OK},
		{"Impedance", plain(1000, 1000), span(100000, 100000), span(20, 30), api.OK},
		{"Inharmonicity", plain(1000, 1000), span(100000, 100000), span(32333333333333, 48500000000000), api.OK},
	} {
		if x, e := rangeCalls[c.name](both(), c.s, c.f); x != c.want || e != c.e {
			t.Errorf("%s(%v, %v) = %v, %v, want %v, %v", c.name, c.s, c.f, x, e, c.want, c.e)
		}
	}
}

// agree compares the numbers of a strand with those of the definitions.
func agree(t *testing.T, l []api.Wire, s api.Strand, f api.Range) {
	t.Helper()
	n := figuresOf(l, s, f)
	if mass, e := scale.MassOf(l, s); mass != n.mass || e != api.OK {
		t.Errorf("MassOf(%v) = %v, %v, want %v", s, mass, e, n.mass)
	}
	errorIf := func(no bool) api.Errno {
		if no {
			return api.ErrZero
		}
		return api.OK
	}
	for name, want := range map[string]struct {
		x api.Range
		e api.Errno
	}{
		"Tension": {n.tension, api.OK}, "Share": {n.share, api.OK},
		"Inharmonicity": {n.inharmonic, errorIf(n.tension.Lo == 0)}, "Impedance": {n.impeding, errorIf(n.x.Lo == 0)},
	} {
		if x, e := rangeCalls[name](l, s, f); x != want.x || e != want.e {
			t.Errorf("%s(%v, %v, %v) = %v, %v, want %v", name, l, s, f, x, e, want)
		}
	}
}

func TestP2_2_AgainstBig(t *testing.T) {
	r := rand.New(rand.NewSource(1))
	for range 5000 {
		agree(t, randomWires(r), randomStrand(r), randomFrequency(r))
	}
	most := []api.Wire{{Name: "steel", Mass: 200000, Strength: 1000000, Stiff: 100000000}, {Name: "copper", Mass: 200000, Strength: 1}}
	weak := []api.Wire{{Name: "steel", Mass: 200000, Strength: 1, Stiff: 100000000}, {Name: "copper", Mass: 200000, Strength: 1}}
	light := []api.Wire{{Name: "steel", Mass: 1, Strength: 1000000, Stiff: 100000000}, {Name: "copper", Mass: 1, Strength: 1}}
	for _, l := range [][]api.Wire{most, weak, light} {
		for _, s := range []api.Strand{plain(300000, 3000), plain(1000, 3000), wound(300000, 3000, 10000), wound(300000, 1000, 10000), wound(1000, 1000, 10000), plain(1000, 1000)} {
			for _, f := range []api.Range{span(10000000, 10000000), span(1, 10000000), span(1, 1), span(9999999, 10000000), span(100000, 100000)} {
				agree(t, l, s, f)
			}
		}
	}
}

func TestP2_2_ClassOf(t *testing.T) {
	twenty := make([]int, 20)
	for i := range twenty {
		twenty[i] = 10 * (i + 1)
	}
	for _, c := range []struct {
		marks []int
		x     api.Range
		want  int
		e     api.Errno
	}{
		{[]int{4000, 5000}, span(4340, 4341), 1, api.OK},
		{[]int{4341}, span(4340, 4341), 0, api.ErrNone},
		{[]int{4340}, span(4340, 4341), 1, api.OK},
		{[]int{4342}, span(4340, 4341), 0, api.OK},
		{[]int{4341}, span(4341, 4341), 1, api.OK},
		{[]int{10, 20, 30}, span(20, 29), 2, api.OK},
		{[]int{10, 20, 30}, span(20, 30), 0, api.ErrNone},
		{[]int{10, 20, 30}, span(9, 9), 0, api.OK},
		{[]int{10, 20, 30}, span(0, 9), 0, api.OK},
		{[]int{10, 20, 30}, span(0, 10), 0, api.ErrNone},
		{[]int{10, 20, 30}, span(5, 100), 0, api.ErrNone},
		{[]int{10, 20, 30}, span(30, api.MaxNumber), 3, api.OK},
		{nil, span(0, api.MaxNumber), 0, api.OK},
		{[]int{1, api.MaxNumber}, span(api.MaxNumber, api.MaxNumber), 2, api.OK},
		{[]int{1, api.MaxNumber}, span(api.MaxNumber-1, api.MaxNumber), 0, api.ErrNone},
		{twenty, span(205, 208), 20, api.OK},
		{append([]int{1}, twenty...), span(5, 5), 0, api.ErrLarge},
		{make([]int, 21), span(5, 4), 0, api.ErrLarge},
		{[]int{0}, span(5, 5), 0, api.ErrRange},
		{[]int{-1}, span(5, 5), 0, api.ErrRange},
		{[]int{math.MinInt}, span(5, 5), 0, api.ErrRange},
		{[]int{api.MaxNumber + 1}, span(5, 5), 0, api.ErrRange},
		{[]int{math.MaxInt}, span(5, 5), 0, api.ErrRange},
		{[]int{10, 10}, span(5, 5), 0, api.ErrOrder},
		{[]int{10, 9}, span(5, 5), 0, api.ErrOrder},
		{[]int{10, 0}, span(5, 5), 0, api.ErrRange},
		{[]int{10, 9, 0}, span(5, 5), 0, api.ErrOrder},
		{[]int{0, 9, 9}, span(5, 5), 0, api.ErrRange},
		{[]int{10, 10}, span(5, 4), 0, api.ErrOrder},
		{[]int{10}, span(5, 4), 0, api.ErrRange},
		{[]int{5}, span(5, 4), 0, api.ErrRange},
		{nil, span(5, 4), 0, api.ErrRange},
		{[]int{10}, span(-1, 4), 0, api.ErrRange},
		{nil, span(-2, -1), 0, api.ErrRange},
		{[]int{10}, span(20, api.MaxNumber+1), 0, api.ErrRange},
		{[]int{10}, span(api.MaxNumber+1, api.MaxNumber+1), 0, api.ErrRange},
		{[]int{10}, span(5, math.MaxInt), 0, api.ErrRange},
		{[]int{10}, span(math.MinInt, 20), 0, api.ErrRange},
		{nil, span(math.MaxInt, math.MinInt), 0, api.ErrRange},
	} {
		if n, e := scale.ClassOf(c.marks, c.x); n != c.want || e != c.e {
			t.Errorf("ClassOf(%v, %v) = %v, %v, want %v, %v", c.marks, c.x, n, e, c.want, c.e)
		}
	}
}
