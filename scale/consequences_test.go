package scale_test

import (
	"math"
	"math/rand"
	"slices"
	"testing"

	"agraffe/api"
	"agraffe/number"
	"agraffe/scale"
)

// tensionOf returns a tension that is known to exist.
func tensionOf(t *testing.T, l []api.Wire, s api.Strand, f api.Range) api.Range {
	t.Helper()
	x, e := scale.Tension(l, s, f)
	if e != api.OK {
		t.Fatalf("Tension(%v, %v): %v", s, f, e)
	}
	return x
}

func TestP2_8_TensionIsMonotone(t *testing.T) {
	r := rand.New(rand.NewSource(11))
	for range 4000 {
		l, s, f := randomWires(r), plain(among(r, 1000, 299999), among(r, 100, 2999)), randomFrequency(r)
		x := tensionOf(t, l, s, f)
		longer, thicker := s, s
		longer.Length += 1 + r.Intn(min(5000, 300000-s.Length))
		thicker.Core += 1 + r.Intn(min(50, 3000-s.Core))
		higher := span(min(f.Lo+r.Intn(1000), 10000000), min(f.Hi+1000, 10000000))
		for _, y := range []api.Range{tensionOf(t, l, longer, f), tensionOf(t, l, thicker, f), tensionOf(t, l, s, higher)} {
			if y.Lo < x.Lo || y.Hi < x.Hi {
				t.Errorf("Tension(%v, %v) = %v, and less for one more: %v", s, f, x, y)
			}
		}
	}
}

func TestP2_8_WiderFrequencies(t *testing.T) {
	r := rand.New(rand.NewSource(12))
	for range 4000 {
		l, s, f := randomWires(r), randomStrand(r), randomFrequency(r)
		wider := span(max(1, f.Lo-r.Intn(500)), min(10000000, f.Hi+r.Intn(500)))
		for name, call := range rangeCalls {
			narrow, e := call(l, s, f)
			wide, wideE := call(l, s, wider)
			if e == api.ErrZero || wideE == api.ErrZero {
				continue
			}
			if e != api.OK || wideE != api.OK || wide.Lo > narrow.Lo || wide.Hi < narrow.Hi || narrow.Lo > narrow.Hi {
				t.Errorf("%s(%v, %v) = %v, %v, not within that for %v, %v, %v", name, s, f, narrow, e, wider, wide, wideE)
			}
		}
	}
}

func TestP2_8_TwiceTheLength(t *testing.T) {
	r := rand.New(rand.NewSource(13))
	for range 3000 {
		// With these lengths x is whole.
		length, hertz := 1000*among(r, 1, 150), 1000*among(r, 1, 10000)
		l, s, f := randomWires(r), plain(length, among(r, 100, 3000)), span(hertz, hertz)
		twice := s
		twice.Length *= 2
		x, y := tensionOf(t, l, s, f), tensionOf(t, l, twice, f)
		if y.Lo < 4*x.Lo || y.Hi > 4*x.Hi {
			t.Errorf("Tension(%v, %v) = %v, for twice the length %v", s, f, x, y)
		}
	}
}

func TestP2_9_ChoicesKeepLimits(t *testing.T) {
	r := rand.New(rand.NewSource(14))
	chosen, narrowed := 0, 0
	for range 500 {
		s, m, gauges := randomBench(r)
		c, _, e := scale.Choose(s, m, gauges)
		if e == api.OK {
			chosen++
			with, e := scale.With(s, gauges, c.Gauges)
			if n, keeps := scale.Keeps(with, m); e != api.OK || n != -1 || keeps != api.OK {
				t.Errorf("With(%v, %v, %v) = %v, %v: Keeps %v, %v", s, gauges, c.Gauges, with, e, n, keeps)
			}
			if _, e := scale.CheckChoice(s, m, gauges, c); e != api.OK {
				t.Errorf("CheckChoice(%v, %v, %v, %v): %v", s, m, gauges, c, e)
			}
		}
		// A list without one gauge is narrower.
		i := r.Intn(len(gauges))
		narrow := slices.Delete(slices.Clone(gauges), i, i+1)
		if _, _, narrowE := scale.Choose(s, m, narrow); len(narrow) > 0 && narrowE == api.OK {
			narrowed++
			if e != api.OK {
				t.Errorf("Choose(%v, %v, %v): %v, but not for %v", s, m, gauges, e, narrow)
			}
		}
	}
	if chosen < 50 || narrowed < 50 {
		t.Errorf("%d are chosen, %d of narrower lists", chosen, narrowed)
	}
}

// TestP2_9_GreatChoices checks that choices for as many unisons and gauges as there may be are proved by their potentials.
func TestP2_9_GreatChoices(t *testing.T) {
	s := api.Stringing{Fork: 440000, Wires: both()}
	for i := range 90 {
		f := 440000 * math.Exp2(float64(i-60)/12)
		length := int(17600e6/f) * (80 + 7*i%40) / 100
		s.Unisons = append(s.Unisons, api.Unison{Pitch: pitch(i-60, 250, -171, 12), Count: 2, Strand: plain(max(1000, min(300000, length)), 1000)})
	}
	var gauges []int
	for i := range 20 {
		gauges = append(gauges, 800+20*i)
	}
	chosen := 0
	for _, jump := range []int{1000000, 50000, 20000, 12000, 8000, 5000, 3000, 1000} {
		m := api.TensionLimits{Least: 2000, Most: 150000, Share: 1000, Jump: jump}
		c, cost, e := scale.Choose(s, m, gauges)
		if e == api.ErrNone {
			continue
		}
		chosen++
		if checked, checkE := scale.CheckChoice(s, m, gauges, c); e != api.OK || checked != cost || checkE != api.OK {
			t.Errorf("Choose with the jump %d: %v, %v, checked %v, %v", jump, cost, e, checked, checkE)
		}
	}
	if chosen < 3 {
		t.Errorf("%d are chosen", chosen)
	}
}

func TestP2_9_LengthsSolveTheSystem(t *testing.T) {
	r := rand.New(rand.NewSource(15))
	solved := 0
	for range 500 {
		bounds := make([]api.Range, among(r, 1, 50))
		middle := 290000
		for i := range bounds {
			bounds[i] = span(max(1000, middle-among(r, 0, 9000)), min(300000, middle+among(r, 0, 9000)))
			middle -= among(r, 0, 5000)
		}
		drop := span(among(r, -2000, 3000), 0)
		drop.Hi = drop.Lo + among(r, 0, 5000)
		l, circle, e := scale.SmoothLengths(bounds, drop)
		if e == api.ErrCycle {
			if !proved(bounds, drop, circle) {
				t.Errorf("SmoothLengths(%v, %v): the circle %v", bounds, drop, circle)
			}
			continue
		}
		solved++
		system, systemE := scale.LengthSystem(bounds, drop)
		if e != api.OK || systemE != api.OK || len(l) != len(bounds) {
			t.Fatalf("SmoothLengths(%v, %v) = %v, %v", bounds, drop, l, e)
		}
		values := append(slices.Clone(l), 0)
		for _, b := range system {
			if values[b.To]-values[b.From] > b.Most {
				t.Errorf("SmoothLengths(%v, %v) = %v breaks %v", bounds, drop, l, b)
			}
		}
		// One more at any length breaks a bound, together with whatever lengths: the system with this length has a circle.
		i := r.Intn(len(l))
		if len(system) < api.MaxBounds {
			more := append(slices.Clone(system), api.Bound{From: i, To: len(l), Most: -l[i] - 1})
			if _, _, e := number.Solve(len(l)+1, more); e != api.ErrCycle {
				t.Errorf("SmoothLengths(%v, %v) = %v: the length %d may be greater", bounds, drop, l, i)
			}
		}
	}
	if solved < 50 {
		t.Errorf("%d are solved", solved)
	}
}
