package scale_test

import (
	"math"
	"math/rand"
	"testing"

	"agraffe/api"
	"agraffe/number"
	"agraffe/scale"
)

// exampleLimits are those of the examples.
func exampleLimits() api.TensionLimits {
	return api.TensionLimits{Least: 70000, Most: 80000, Share: 500, Jump: 2000}
}

// invalidLimits are limits with the error of CheckLimits.
var invalidLimits = []struct {
	m    api.TensionLimits
	want api.Errno
}{
	{api.TensionLimits{Least: -1}, api.ErrRange},
	{api.TensionLimits{Least: math.MinInt}, api.ErrRange},
	{api.TensionLimits{Least: api.MaxNumber + 1, Most: api.MaxNumber}, api.ErrRange},
	{api.TensionLimits{Least: math.MaxInt, Most: math.MaxInt}, api.ErrRange},
	{api.TensionLimits{Most: -1}, api.ErrRange},
	{api.TensionLimits{Most: math.MinInt}, api.ErrRange},
	{api.TensionLimits{Most: api.MaxNumber + 1}, api.ErrRange},
	{api.TensionLimits{Most: math.MaxInt}, api.ErrRange},
	{api.TensionLimits{Jump: -1}, api.ErrRange},
	{api.TensionLimits{Jump: math.MinInt}, api.ErrRange},
	{api.TensionLimits{Jump: api.MaxNumber + 1}, api.ErrRange},
	{api.TensionLimits{Jump: math.MaxInt}, api.ErrRange},
	{api.TensionLimits{Share: -1}, api.ErrRange},
	{api.TensionLimits{Share: math.MinInt}, api.ErrRange},
	{api.TensionLimits{Share: 1000001}, api.ErrRange},
	{api.TensionLimits{Share: math.MaxInt}, api.ErrRange},
	{api.TensionLimits{Least: 2, Most: 1, Share: -1}, api.ErrRange},
	{api.TensionLimits{Least: 2, Most: 1, Jump: -1}, api.ErrRange},
	{api.TensionLimits{Least: 2, Most: 1}, api.ErrOrder},
	{api.TensionLimits{Least: 1}, api.ErrOrder},
	{api.TensionLimits{Least: api.MaxNumber, Most: api.MaxNumber - 1, Share: 1000000, Jump: api.MaxNumber}, api.ErrOrder},
}

func TestP2_4_CheckLimits(t *testing.T) {
	for _, c := range invalidLimits {
		if e := scale.CheckLimits(c.m); e != c.want {
			t.Errorf("CheckLimits(%v) = %v, want %v", c.m, e, c.want)
		}
	}
	for _, m := range []api.TensionLimits{{}, exampleLimits(), wideLimits(), {Least: api.MaxNumber, Most: api.MaxNumber}, {Least: 1, Most: 1}} {
		if e := scale.CheckLimits(m); e != api.OK {
			t.Errorf("CheckLimits(%v) = %v", m, e)
		}
	}
}

// limitCalls are the functions with a stringing and limits, and for the last two also with a unison.
var limitCalls = map[string]func(s api.Stringing, unison int, m api.TensionLimits) (int, api.Errno){
	"Keeps":      func(s api.Stringing, _ int, m api.TensionLimits) (int, api.Errno) { return scale.Keeps(s, m) },
	"LongestFor": scale.LongestFor,
	"LeastGauge": scale.LeastGauge,
}

func TestP2_4_ErrorsOfArguments(t *testing.T) {
	for name, call := range limitCalls {
		refused := func(s api.Stringing, unison int, m api.TensionLimits, want api.Errno) {
			t.Helper()
			if n, e := call(s, unison, m); n != 0 || e != want {
				t.Errorf("%s(%v, %v, %v) = %v, %v, want %v", name, s, unison, m, n, e, want)
			}
		}
		for _, c := range invalidStringings() {
			refused(c.s, 0, exampleLimits(), c.want)
			refused(c.s, -1, api.TensionLimits{Least: 1}, c.want)
		}
		for _, c := range invalidLimits {
			refused(two(), 1, c.m, c.want)
			refused(octaves(wound(40000, 1000, 1100)), 0, c.m, c.want)
			if name == "Keeps" {
				refused(api.Stringing{Fork: 440000}, 0, c.m, c.want)
				continue
			}
			for _, unison := range []int{-1, 2, math.MinInt, math.MaxInt} {
				refused(two(), unison, c.m, api.ErrMissing)
				refused(two(), unison, wideLimits(), api.ErrMissing)
			}
			refused(api.Stringing{Fork: 440000}, 0, c.m, api.ErrMissing)
		}
	}
}

func TestP2_4_Keeps(t *testing.T) {
	falling := octaves(plain(40000, 1000), plain(20000, 950), plain(10000, 1000))
	for _, c := range []struct {
		name string
		s    api.Stringing
		m    api.TensionLimits
		want int
	}{
		{"the example", two(), exampleLimits(), -1},
		{"nothing", api.Stringing{Fork: 440000}, api.TensionLimits{}, -1},
		{"all at the ends", two(), api.TensionLimits{Least: 76389, Most: 76390, Share: 425, Jump: 1}, -1},
		{"Least", two(), api.TensionLimits{Least: 76390, Most: 76390, Share: 425, Jump: 1}, 0},
		{"Most", two(), api.TensionLimits{Least: 76389, Most: 76389, Share: 425, Jump: 1}, 0},
		{"Share", two(), api.TensionLimits{Least: 76389, Most: 76390, Share: 424, Jump: 1}, 0},
		{"Jump", two(), api.TensionLimits{Least: 76389, Most: 76390, Share: 425, Jump: 0}, 1},
		{"Jump of one", octaves(plain(40000, 1000)), api.TensionLimits{Least: 76389, Most: 76390, Share: 425, Jump: 0}, -1},
		{"all", two(), api.TensionLimits{}, 0},
		// 76389 to 76390, 68941 to 68942, 76389 to 76390: jumps of 7449 down and up.
		{"down and up", falling, api.TensionLimits{Most: 80000, Share: 500, Jump: 7449}, -1},
		{"down", falling, api.TensionLimits{Most: 80000, Share: 500, Jump: 7448}, 1},
		{"up", octaves(plain(40000, 950), plain(20000, 1000)), api.TensionLimits{Most: 80000, Share: 500, Jump: 7448}, 1},
		{"up, as far as it may", octaves(plain(40000, 950), plain(20000, 1000)), api.TensionLimits{Most: 80000, Share: 500, Jump: 7449}, -1},
		{"the second one", falling, api.TensionLimits{Least: 68942, Most: 80000, Share: 500, Jump: 10000}, 1},
		{"the last one", octaves(plain(40000, 1000), plain(20000, 1000), plain(10000, 1050)), exampleLimits(), 2},
		{"the last jump", octaves(plain(40000, 1000), plain(20000, 1000), plain(10000, 1050)), api.TensionLimits{Most: 90000, Share: 1000, Jump: 7830}, 2},
	} {
		want := api.OK
		if c.want >= 0 {
			want = api.ErrBreak
		}
		if n, e := scale.Keeps(c.s, c.m); n != c.want || e != want {
			t.Errorf("Keeps, %s: %v, %v, want %v", c.name, n, e, c.want)
		}
	}
}

// figuresAt returns the numbers of a unison.
func figuresAt(s api.Stringing, unison int) figures {
	f, _ := number.Enclose(s.Unisons[unison].Pitch, s.Fork)
	return figuresOf(s.Wires, s.Unisons[unison].Strand, f)
}

// firstBroken returns the first unison that breaks limits, by the definition, or -1.
func firstBroken(s api.Stringing, m api.TensionLimits) int {
	for i := range s.Unisons {
		if !figuresAt(s, i).keepsBy(m) || i > 0 && jumpOf(figuresAt(s, i-1).tension, figuresAt(s, i).tension) > m.Jump {
			return i
		}
	}
	return -1
}

// randomLimits returns limits of which each may be broken by a random stringing.
func randomLimits(r *rand.Rand) api.TensionLimits {
	m := api.TensionLimits{Least: among(r, 60000, 72000), Most: among(r, 80000, 95000), Share: among(r, 430, 560), Jump: among(r, 1, 25000)}
	if r.Intn(3) == 0 {
		m.Least = 0
	}
	return m
}

func TestP2_4_KeepsAsDefined(t *testing.T) {
	r := rand.New(rand.NewSource(4))
	found := map[int]int{}
	for range 600 {
		s, m := randomStringing(r, among(r, 1, 4)), randomLimits(r)
		want := firstBroken(s, m)
		found[want]++
		if n, e := scale.Keeps(s, m); n != want || (e == api.OK) != (want < 0) || (e == api.ErrBreak) != (want >= 0) {
			t.Errorf("Keeps(%v, %v) = %v, %v, want %v", s, m, n, e, want)
		}
	}
	if len(found) < 4 {
		t.Errorf("only %v was found", found)
	}
}

func TestP2_4_LongestFor(t *testing.T) {
	none := -1
	for _, c := range []struct {
		name string
		s    api.Stringing
		m    api.TensionLimits
		want int
	}{
		{"wide", two(), wideLimits(), 300000},
		{"wide, but for Jump and Least", two(), api.TensionLimits{Least: api.MaxNumber, Most: api.MaxNumber, Share: 1000000}, 300000},
		{"Most of 0", two(), api.TensionLimits{Share: 1000000}, none},
		{"Share of 0", two(), api.TensionLimits{Most: api.MaxNumber}, none},
		// Up to 1015 x is at most 447, q at most 20, T at most 50 and the share at most 1; then x is up to 448, and q up to 21.
		{"Most at the shortest", two(), api.TensionLimits{Most: 50, Share: 1000000}, 1015},
		{"Most below the shortest", two(), api.TensionLimits{Most: 49, Share: 1000000}, none},
		{"the shortest at Share", two(), api.TensionLimits{Most: 50, Share: 1}, 1015},
	} {
		if n, e := scale.LongestFor(c.s, 0, c.m); c.want == none && (n != 0 || e != api.ErrNone) || c.want != none && (n != c.want || e != api.OK) {
			t.Errorf("LongestFor, %s: %v, %v, want %v", c.name, n, e, c.want)
		}
	}
}

// lengthFits says by the definition whether a unison has at most the tension and the share of limits with this length.
func lengthFits(s api.Stringing, unison, length int, m api.TensionLimits) bool {
	f, _ := number.Enclose(s.Unisons[unison].Pitch, s.Fork)
	strand := s.Unisons[unison].Strand
	strand.Length = length
	n := figuresOf(s.Wires, strand, f)
	return n.tension.Hi <= m.Most && n.share.Hi <= m.Share
}

func TestP2_4_LongestForAsDefined(t *testing.T) {
	r := rand.New(rand.NewSource(5))
	bySize := map[string]int{}
	for range 800 {
		s, unison := randomStringing(r, 3), r.Intn(3)
		m := api.TensionLimits{Most: 50 << r.Intn(20), Share: min(1000000, 1<<r.Intn(21))}
		n, e := scale.LongestFor(s, unison, m)
		switch {
		case e == api.ErrNone:
			bySize["none"]++
			if n != 0 || lengthFits(s, unison, 1000, m) {
				t.Errorf("LongestFor(%v, %d, %v) = %v, %v", s, unison, m, n, e)
			}
		case e != api.OK || n < 1000 || n > 300000 || !lengthFits(s, unison, n, m) || n < 300000 && lengthFits(s, unison, n+1, m):
			t.Errorf("LongestFor(%v, %d, %v) = %v, %v", s, unison, m, n, e)
		case n == 300000:
			bySize["longest"]++
		default:
			bySize["between"]++
		}
	}
	if len(bySize) < 3 {
		t.Errorf("only %v was found", bySize)
	}
}

func TestP2_4_LeastGauge(t *testing.T) {
	withStrength := func(n int) api.Stringing {
		s := two()
		s.Wires[0].Strength = n
		return s
	}
	for _, c := range []struct {
		name string
		s    api.Stringing
		m    api.TensionLimits
		want int
		e    api.Errno
	}{
		{"no tension is needed", two(), api.TensionLimits{}, 100, api.OK},
		{"the least one that is right", withStrength(50), api.TensionLimits{}, 142, api.OK},
		{"the least one that is right, of the weakest", withStrength(1), api.TensionLimits{}, 1000, api.OK},
		{"the example", two(), api.TensionLimits{Least: 76389, Most: 76389}, 1000, api.OK},
		{"a little more", two(), api.TensionLimits{Least: 76390, Most: 76390}, 1001, api.OK},
		// 3000: M = 221949000000, and T = 687509.2224.
		{"the thickest", two(), api.TensionLimits{Least: 687509, Most: 687509}, 3000, api.OK},
		{"more than the thickest has", two(), api.TensionLimits{Least: 687510, Most: 687510}, 0, api.ErrNone},
		{"far more", two(), api.TensionLimits{Least: api.MaxNumber, Most: api.MaxNumber}, 0, api.ErrNone},
		{"a wound one", octaves(wound(40000, 1000, 1100)), api.TensionLimits{}, 0, api.ErrKind},
		{"a wound one, where there is none", octaves(wound(40000, 1000, 1100)), api.TensionLimits{Least: api.MaxNumber, Most: api.MaxNumber}, 0, api.ErrKind},
	} {
		if n, e := scale.LeastGauge(c.s, 0, c.m); n != c.want || e != c.e {
			t.Errorf("LeastGauge, %s: %v, %v, want %v, %v", c.name, n, e, c.want, c.e)
		}
	}
}

func TestP2_4_LeastGaugeAsDefined(t *testing.T) {
	r := rand.New(rand.NewSource(6))
	enough := func(s api.Stringing, core, least int) bool {
		s.Unisons[1].Strand.Core = core
		return scale.CheckStrand(s.Wires, s.Unisons[1].Strand) == api.OK && figuresAt(s, 1).tension.Lo >= least
	}
	for range 400 {
		s := randomStringing(r, 3)
		s.Unisons[1].Strand = plain(s.Unisons[1].Strand.Length, 1000)
		s.Wires[0].Strength = 1 << r.Intn(20)
		if scale.CheckWires(s.Wires) != api.OK || scale.CheckStrand(s.Wires, s.Unisons[0].Strand) != api.OK || scale.CheckStrand(s.Wires, s.Unisons[2].Strand) != api.OK {
			continue
		}
		m := api.TensionLimits{Least: among(r, 0, 1000000) >> r.Intn(10)}
		m.Most = m.Least
		n, e := scale.LeastGauge(s, 1, m)
		if e == api.ErrNone {
			if n != 0 || enough(s, 3000, m.Least) {
				t.Errorf("LeastGauge(%v, %v) = %v, %v", s, m, n, e)
			}
			continue
		}
		if e != api.OK || n < 100 || n > 3000 || !enough(s, n, m.Least) || n > 100 && enough(s, n-1, m.Least) {
			t.Errorf("LeastGauge(%v, %v) = %v, %v", s, m, n, e)
		}
	}
}
