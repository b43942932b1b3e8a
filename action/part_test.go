package action_test

import (
	"math/rand"
	"testing"

	"agraffe/action"
	"agraffe/api"
)

func TestP4_5_CurveOf(t *testing.T) {
	a := upright()
	beyond := chain(10, curve(0, 0, 20, 40), curve(5, 1, 15, 11, 25, 1))
	sisters := upright()
	sisters.Parts = append(sisters.Parts, api.ActionPart{Name: "damper", Driver: "wippen", Curve: curve(100, 0, 500, 800)}, api.ActionPart{Name: "rail", Curve: curve(3, 9)})
	for name, x := range map[string]struct {
		a    api.Action
		part string
		want api.Curve
	}{
		"the wippen":                  {a, "wippen", curve(0, 0, 1000, 500)},
		"the hammer":                  {a, "hammer", curve(0, 0, 900, 4500, 1000, 4300)},
		"a curve beyond the dip":      {beyond, "a", curve(0, 0, 10, 20)},
		"driven by it":                {beyond, "b", knees(whole(0), whole(1), frac(5, 2), whole(1), frac(15, 2), whole(11), whole(10), whole(6))},
		"a sister":                    {sisters, "damper", curve(0, 0, 200, 0, 1000, 800)},
		"a part that does not move":   {sisters, "rail", curve(0, 9, 3, 9, 1000, 9)},
		"a curve before the dip":      {only(5, curve(-9, 1, -3, 7), 0, 0), "only", curve(0, 7, 5, 7)},
		"a curve from before the dip": {only(5, curve(-2, 0, 2, 8), 0, 0), "only", curve(0, 4, 2, 8, 5, 8)},
		"the least dip":               {only(1, curve(0, 0, 3, 3), 0, 0), "only", curve(0, 0, 1, 1)},
	} {
		if c, e := action.CurveOf(x.a, x.part); !sameCurve(c, x.want) || e != api.OK {
			t.Errorf("CurveOf, %s: %v, %v, want %v", name, c, e, x.want)
		}
	}
	// Each of the 11 stretches of the first part goes through all corners of the second one.
	for _, x := range []struct {
		c    api.Curve
		want int
	}{{zigzag(12, 0, 0, 11), 0}, {zigzag(5, 0, 0, 11), 56}, {zigzag(6, 0, 0, 11), 0}, {curve(0, 0, 1, 1, 2, 2, 3, 3, 4, 4, 5, 5, 6, 6), 0}} {
		c, e := action.CurveOf(chain(11, zigzag(12, 0, 0, 11), x.c), "b")
		if len(c.Corners) != x.want || (e == api.ErrLarge) != (x.want == 0) || x.want > 0 && e != api.OK {
			t.Errorf("CurveOf by %v: %d corners, %v, want %d", x.c, len(c.Corners), e, x.want)
		}
	}
}

func TestP4_5_PositionAndRatio(t *testing.T) {
	for _, x := range []struct {
		part           string
		dip            api.Frac
		position, rate api.Frac
	}{
		{"wippen", whole(0), whole(0), frac(1, 2)}, {"wippen", frac(1, 3), frac(1, 6), frac(1, 2)}, {"wippen", whole(999), frac(999, 2), frac(1, 2)}, {"wippen", whole(1000), whole(500), whole(0)},
		{"hammer", whole(0), whole(0), whole(5)}, {"hammer", frac(1799, 2), frac(8995, 2), whole(5)}, {"hammer", whole(900), whole(4500), whole(-2)}, {"hammer", whole(950), whole(4400), whole(-2)}, {"hammer", whole(1000), whole(4300), whole(0)},
	} {
		f, e := action.Position(upright(), x.part, x.dip)
		wanted(t, "Position of "+x.part, f, e, x.position, api.OK)
		f, e = action.Ratio(upright(), x.part, x.dip)
		wanted(t, "Ratio of "+x.part, f, e, x.rate, api.OK)
	}
}

func TestP4_5_Errors(t *testing.T) {
	for _, name := range []string{"", "jack", "lift", "Hammer", "-", "hammer ", "\xff"} {
		if c, e := action.CurveOf(upright(), name); len(c.Corners) != 0 || e != api.ErrMissing {
			t.Errorf("CurveOf %q: %v, %v", name, c, e)
		}
		for _, dip := range []api.Frac{whole(0), frac(2, 2), whole(1001)} {
			f, e := action.Position(upright(), name, dip)
			wanted(t, "Position of "+name, f, e, api.Frac{}, api.ErrMissing)
			f, e = action.Ratio(upright(), name, dip)
			wanted(t, "Ratio of "+name, f, e, api.Frac{}, api.ErrMissing)
		}
	}
	// A part whose curve is too large tells so behind the errors of the dip, a part before it not at all.
	large := winding()
	large.Dip = 1000
	for _, x := range wrongDips {
		for part, a := range map[string]api.Action{"hammer": upright(), "b": large, "a": large} {
			f, e := action.Position(a, part, x.f)
			wanted(t, "Position", f, e, api.Frac{}, x.want)
			f, e = action.Ratio(a, part, x.f)
			wanted(t, "Ratio", f, e, api.Frac{}, x.want)
		}
	}
	if c, e := action.CurveOf(large, "b"); len(c.Corners) != 0 || e != api.ErrLarge {
		t.Errorf("CurveOf: %v, %v", c, e)
	}
	f, e := action.Position(large, "b", whole(5))
	wanted(t, "Position", f, e, api.Frac{}, api.ErrLarge)
	f, e = action.Ratio(large, "b", whole(5))
	wanted(t, "Ratio", f, e, api.Frac{}, api.ErrLarge)
	f, e = action.Position(large, "a", whole(5))
	wanted(t, "Position", f, e, whole(11), api.OK)
	f, e = action.Ratio(large, "a", whole(5))
	wanted(t, "Ratio", f, e, whole(-11), api.OK)
	// What a large part drives is large too, even if it stands still.
	still := winding()
	still.Parts = append(still.Parts, api.ActionPart{Name: "c", Driver: "b", Curve: curve(0, 0)})
	if c, e := action.CurveOf(still, "c"); len(c.Corners) != 0 || e != api.ErrLarge {
		t.Errorf("CurveOf: %v, %v", c, e)
	}
	// A position may be large where the ratio is not.
	f, e = action.Position(only(3, curve(0, 0, 3, 1), 0, 0), "only", frac(1, 1000000000))
	wanted(t, "Position", f, e, api.Frac{}, api.ErrLarge)
	f, e = action.Ratio(only(3, curve(0, 0, 3, 1), 0, 0), "only", frac(1, 1000000000))
	wanted(t, "Ratio", f, e, frac(1, 3), api.OK)
}

// TestP4_5_FromTheDipOn has curves of which it matters that they are composed from the dip on: composed from the last part back, other numbers would be on the way.
func TestP4_5_FromTheDipOn(t *testing.T) {
	slow := chain(100, curve(0, 0, 100, 1), curve(0, 0, 10000, 1), curve(0, 0, 10000, 1))
	if c, e := action.CurveOf(slow, "b"); !sameCurve(c, knees(whole(0), whole(0), whole(100), frac(1, 10000))) || e != api.OK {
		t.Errorf("CurveOf: %v, %v", c, e)
	}
	if c, e := action.CurveOf(slow, "c"); len(c.Corners) != 0 || e != api.ErrLarge {
		t.Errorf("CurveOf: %v, %v", c, e)
	}
	// The curves of b, c and d alone would come to a slope of 1/1000000000000; but the dip holds b still.
	held := chain(100, curve(0, -5), curve(0, 0, 10000, 1), curve(0, 0, 10000, 1), curve(0, 0, 10000, 1))
	if c, e := action.CurveOf(held, "d"); !sameCurve(c, curve(0, 0, 100, 0)) || e != api.OK {
		t.Errorf("CurveOf: %v, %v", c, e)
	}
}

func TestP4_5_Model(t *testing.T) {
	r := rand.New(rand.NewSource(45))
	count := map[api.Errno]int{}
	for range 6000 {
		a := randomAction(r)
		dip := randomDip(r, a)
		for _, p := range a.Parts {
			var s steps
			want, wantError := s.partBy(a, p.Name), api.OK
			if s.large {
				want, wantError = nil, api.ErrLarge
			}
			c, e := action.CurveOf(a, p.Name)
			if !sameCurve(c, curveOf(want)) || e != wantError {
				t.Errorf("CurveOf(%v, %v) = %v, %v, want %v, %v", a, p.Name, c, e, want, wantError)
			}
			count[e]++
			if e != api.OK {
				continue
			}
			value, slope := s.valueBy(want, ratOf(dip))
			f, e := action.Ratio(a, p.Name, dip)
			wanted(t, "Ratio", f, e, fracOf(slope), api.OK)
			position, positionError := s.fracBy(value)
			f, e = action.Position(a, p.Name, dip)
			wanted(t, "Position", f, e, position, positionError)
		}
	}
	if count[api.OK] < 500 || count[api.ErrLarge] < 500 {
		t.Errorf("too few cases: %v", count)
	}
}
