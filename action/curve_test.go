package action_test

import (
	"math/rand"
	"slices"
	"testing"

	"agraffe/action"
	"agraffe/api"
)

// bend is the curve of the first example.
func bend() api.Curve { return curve(0, 0, 10, 5, 20, 25) }

// wrongCurves are curves with their errors.
func wrongCurves() map[string]struct {
	c    api.Curve
	want api.Errno
} {
	type wrong = struct {
		c    api.Curve
		want api.Errno
	}
	bad := frac(2, 2)
	far := whole(1000000001)
	return map[string]wrong{
		"no corners":              {api.Curve{}, api.ErrShape},
		"an empty list":           {api.Curve{Corners: []api.Knee{}}, api.ErrShape},
		"61 corners":              {zigzag(61, 0, 0, 1), api.ErrShape},
		"61 wrong corners":        {api.Curve{Corners: make([]api.Knee, 61)}, api.ErrShape},
		"a zero value":            {api.Curve{Corners: make([]api.Knee, 1)}, api.ErrForm},
		"X before Y":              {knees(far, bad), api.ErrRange},
		"Y behind X":              {knees(bad, far), api.ErrForm},
		"Y in a last corner":      {knees(whole(0), whole(0), whole(1), far), api.ErrRange},
		"X before the order":      {knees(whole(5), whole(0), bad, whole(0)), api.ErrForm},
		"Y before the order":      {knees(whole(5), whole(0), whole(5), far), api.ErrRange},
		"the same X":              {curve(1, 1, 1, 2), api.ErrOrder},
		"the same corner":         {curve(0, 0, 1, 1, 1, 1), api.ErrOrder},
		"a lesser X":              {curve(0, 0, 2, 1, 1, 2), api.ErrOrder},
		"a hardly lesser X":       {knees(frac(1, 999999999), whole(0), frac(1, 1000000000), whole(0)), api.ErrOrder},
		"order before a slope":    {curve(1, -1000000000, 1, 1000000000), api.ErrOrder},
		"a slope before Form":     {knees(whole(0), whole(-1000000000), whole(1), whole(1), bad, bad), api.ErrLarge},
		"order before Form":       {knees(whole(0), whole(0), whole(0), whole(0), bad, bad), api.ErrOrder},
		"Form before a slope":     {knees(whole(0), whole(0), bad, whole(0), whole(1), whole(-1000000000), whole(2), whole(1)), api.ErrForm},
		"a difference of Y":       {curve(0, -500000000, 2, 500000001), api.ErrLarge},
		"the other way":           {curve(0, 500000001, 2, -500000000), api.ErrLarge},
		"a difference of X":       {curve(-500000000, 0, 500000001, 0), api.ErrLarge},
		"a fine difference of Y":  {knees(whole(0), frac(1, 3), frac(1, 3), frac(333333337, 1000000000)), api.ErrLarge},
		"a fine difference of X":  {knees(frac(1, 3), whole(0), frac(333333337, 1000000000), whole(0)), api.ErrLarge},
		"a steep slope":           {knees(whole(0), whole(0), frac(1, 2), whole(500000001)), api.ErrLarge},
		"a flat slope":            {knees(whole(0), whole(0), whole(500000001), frac(1, 2)), api.ErrLarge},
		"a steep slope downwards": {knees(whole(0), whole(0), whole(1), whole(0), frac(3, 2), whole(-500000001)), api.ErrLarge},
	}
}

func TestP4_1_CheckCurve(t *testing.T) {
	for name, c := range map[string]api.Curve{
		"the example":         bend(),
		"one corner":          curve(-7, 3),
		"60 corners":          zigzag(60, -5, 0, 1),
		"greatest numbers":    curve(-1000000000, 1000000000, 0, 0, 1000000000, 1000000000),
		"a difference at 1e9": curve(-500000000, -500000000, 500000000, 500000000),
		"finest numbers":      knees(frac(-1, 1000000000), frac(999999999, 1000000000), frac(1, 1000000000), frac(-999999999, 1000000000)),
		"a steep slope":       knees(whole(0), whole(0), frac(1, 2), whole(500000000)),
		"a flat slope":        knees(whole(0), whole(0), whole(500000000), frac(1, 2)),
		"zeros":               curve(0, 0),
	} {
		if e := action.CheckCurve(c); e != api.OK {
			t.Errorf("CheckCurve, %s: %v", name, e)
		}
	}
	for name, x := range wrongCurves() {
		if e := action.CheckCurve(x.c); e != x.want {
			t.Errorf("CheckCurve, %s: %v, want %v", name, e, x.want)
		}
	}
	for _, x := range wrongFracs {
		for _, c := range []api.Curve{knees(x.f, whole(0)), knees(whole(0), x.f), knees(whole(0), whole(0), whole(1), x.f), knees(whole(0), whole(0), x.f, whole(0))} {
			if e := action.CheckCurve(c); e != x.want {
				t.Errorf("CheckCurve(%v) = %v, want %v", c, e, x.want)
			}
		}
	}
}

func TestP4_1_ValueAndSlope(t *testing.T) {
	steep := curve(-2, 7, 1, -5)
	for _, x := range []struct {
		c           api.Curve
		x           api.Frac
		value, rise api.Frac
	}{
		{bend(), whole(-3), whole(0), whole(0)}, {bend(), frac(-1, 1000000000), whole(0), whole(0)}, {bend(), whole(0), whole(0), frac(1, 2)}, {bend(), whole(4), whole(2), frac(1, 2)}, {bend(), frac(1, 3), frac(1, 6), frac(1, 2)},
		{bend(), frac(99, 10), frac(99, 20), frac(1, 2)}, {bend(), whole(10), whole(5), whole(2)}, {bend(), whole(15), whole(15), whole(2)}, {bend(), whole(20), whole(25), whole(0)}, {bend(), whole(1000000000), whole(25), whole(0)}, {bend(), whole(-1000000000), whole(0), whole(0)},
		{steep, whole(-2), whole(7), whole(-4)}, {steep, frac(-1, 4), whole(0), whole(-4)}, {steep, whole(1), whole(-5), whole(0)}, {steep, whole(2), whole(-5), whole(0)}, {steep, whole(-5), whole(7), whole(0)},
		// One corner is a constant.
		{curve(3, 8), whole(2), whole(8), whole(0)}, {curve(3, 8), whole(3), whole(8), whole(0)}, {curve(3, 8), whole(4), whole(8), whole(0)},
		{curve(0, 4, 2, 4, 3, 5), whole(1), whole(4), whole(0)},
	} {
		f, e := action.Value(x.c, x.x)
		wanted(t, "Value", f, e, x.value, api.OK)
		f, e = action.Slope(x.c, x.x)
		wanted(t, "Slope", f, e, x.rise, api.OK)
	}
}

// largeValues are curves and places whose values have a single number on the way that is not small: the difference, the product, the sum.
var largeValues = []struct {
	c api.Curve
	x api.Frac
}{
	{knees(frac(1, 3), whole(0), frac(4, 3), whole(3)), frac(333333337, 1000000000)},
	{knees(whole(0), frac(1, 3), whole(1), frac(2, 3)), frac(11, 1000000000)},
	{knees(whole(0), frac(1, 7), whole(1), frac(8, 7)), frac(1, 1000000000)},
}

func TestP4_1_LargeValues(t *testing.T) {
	for _, x := range largeValues {
		f, e := action.Value(x.c, x.x)
		wanted(t, "Value", f, e, api.Frac{}, api.ErrLarge)
		// A slope has no numbers on the way to it but those of the curve.
		if f, e := action.Slope(x.c, x.x); f.Num == 0 || f.Den == 0 || e != api.OK {
			t.Errorf("Slope = %v, %v", f, e)
		}
	}
	// At the corners and outside of them there is no way.
	c := knees(frac(1, 3), frac(1, 7), frac(4, 3), frac(8, 7))
	for x, y := range map[api.Frac]api.Frac{frac(1, 1000000000): frac(1, 7), frac(1, 3): frac(1, 7), frac(4, 3): frac(8, 7), frac(999999999, 2): frac(8, 7)} {
		f, e := action.Value(c, x)
		wanted(t, "Value", f, e, y, api.OK)
	}
}

func TestP4_1_ErrorsOfArguments(t *testing.T) {
	for name, x := range wrongCurves() {
		for _, at := range []api.Frac{whole(0), frac(2, 2), whole(1000000001)} {
			f, e := action.Value(x.c, at)
			wanted(t, "Value, "+name, f, e, api.Frac{}, x.want)
			f, e = action.Slope(x.c, at)
			wanted(t, "Slope, "+name, f, e, api.Frac{}, x.want)
			f, e = action.Reach(x.c, at, true)
			wanted(t, "Reach, "+name, f, e, api.Frac{}, x.want)
		}
		for _, right := range []api.Curve{bend(), curve(0, 0)} {
			if c, e := action.Compose(x.c, right); len(c.Corners) != 0 || e != x.want {
				t.Errorf("Compose with a wrong outer curve, %s: %v, %v", name, c, e)
			}
			if c, e := action.Compose(right, x.c); len(c.Corners) != 0 || e != x.want {
				t.Errorf("Compose with a wrong inner curve, %s: %v, %v", name, c, e)
			}
		}
		if c, e := action.Compose(x.c, knees(frac(2, 2), frac(2, 2))); len(c.Corners) != 0 || e != x.want {
			t.Errorf("Compose of wrong curves, %s: %v, %v", name, c, e)
		}
	}
	for _, x := range wrongFracs {
		f, e := action.Value(bend(), x.f)
		wanted(t, "Value", f, e, api.Frac{}, x.want)
		f, e = action.Slope(bend(), x.f)
		wanted(t, "Slope", f, e, api.Frac{}, x.want)
		for _, falling := range []bool{false, true} {
			f, e = action.Reach(bend(), x.f, falling)
			wanted(t, "Reach", f, e, api.Frac{}, x.want)
		}
	}
}

func TestP4_2_Compose(t *testing.T) {
	for name, x := range map[string]struct{ outer, inner, want api.Curve }{
		"the example":                {bend(), curve(0, 0, 30, 15), curve(0, 0, 20, 5, 30, 15)},
		"an inner one that falls":    {curve(0, 0, 10, 5, 20, 25, 30, 0), curve(0, 30, 15, 0), curve(0, 0, 5, 25, 10, 5, 15, 0)},
		"up and down":                {bend(), curve(0, 0, 30, 15, 60, 0), curve(0, 0, 20, 5, 30, 15, 40, 5, 60, 0)},
		"fractions":                  {bend(), curve(0, 12, 6, 9), knees(whole(0), whole(9), whole(4), whole(5), whole(6), frac(9, 2))},
		"flat stretches":             {bend(), curve(0, 3, 1, 3, 2, 10, 3, 10, 4, 10), knees(whole(0), frac(3, 2), whole(1), frac(3, 2), whole(2), whole(5), whole(3), whole(5), whole(4), whole(5))},
		"ends at corners":            {bend(), curve(0, 0, 1, 10, 2, 20), curve(0, 0, 1, 5, 2, 25)},
		"no change of slope":         {curve(0, 0, 1, 1, 2, 2, 3, 3), curve(0, 0, 6, 3), curve(0, 0, 2, 1, 4, 2, 6, 3)},
		"outside of the corners":     {bend(), curve(0, -50, 1, -5, 2, 50, 3, 70), knees(whole(0), whole(0), whole(1), whole(0), frac(12, 11), whole(0), frac(14, 11), whole(5), frac(16, 11), whole(25), whole(2), whole(25), whole(3), whole(25))},
		"one inner corner":           {bend(), curve(-5, 15), curve(-5, 15)},
		"one outer corner":           {curve(5, 7), curve(0, 0, 10, 10), curve(0, 7, 5, 7, 10, 7)},
		"one corner each":            {curve(5, 7), curve(3, 9), curve(3, 7)},
		"one outer corner at an end": {curve(5, 7), curve(0, 0, 10, 5), curve(0, 7, 10, 7)},
	} {
		if c, e := action.Compose(x.outer, x.inner); !sameCurve(c, x.want) || e != api.OK {
			t.Errorf("Compose, %s: %v, %v, want %v", name, c, e, x.want)
		}
	}
}

func TestP4_2_TooManyCorners(t *testing.T) {
	// Of the corners from 1 to 60, 58 lie between the ends.
	comb := zigzag(60, 1, 0, 1)
	for _, inner := range []api.Curve{curve(0, 1, 1, 60), curve(0, 60, 1, 1), curve(0, 0, 1, 59), curve(0, 2, 1, 60, 2, 60)} {
		if c, e := action.Compose(comb, inner); len(c.Corners) != 60 || e != api.OK {
			t.Errorf("Compose with %v: %v, %v", inner, c, e)
		}
	}
	for _, inner := range []api.Curve{curve(0, 0, 1, 60), curve(0, 1, 1, 61), curve(0, 60, 1, 0), curve(0, 0, 1, 61), curve(0, 1, 1, 60, 2, 60), curve(-1, 1, 0, 1, 1, 60), curve(0, 0, 1, 61, 2, 0)} {
		if c, e := action.Compose(comb, inner); len(c.Corners) != 0 || e != api.ErrLarge {
			t.Errorf("Compose with %v: %v, %v", inner, c, e)
		}
	}
	if c, e := action.Compose(curve(0, 1, 1, 0), zigzag(60, 0, 0, 1)); len(c.Corners) != 60 || e != api.OK {
		t.Errorf("Compose of 60 corners: %v, %v", c, e)
	}
}

// TestP4_2_LargeNumbers has curves of curves with a single number on the way that is not small.
func TestP4_2_LargeNumbers(t *testing.T) {
	half := 500000000 // half of the greatest denominator
	for name, x := range map[string]struct{ outer, inner api.Curve }{
		"the difference of an added corner": {knees(frac(333333337, 1000000000), whole(5)), knees(whole(0), frac(1, 3), whole(1), frac(2, 3))},
		"the quotient of an added corner":   {knees(whole(1), whole(5), frac(half+7, half), whole(5)), knees(frac(-1, 7), whole(0), whole(1), whole(8))},
		"the X of an added corner":          {knees(frac(1, 1000000000), whole(5)), knees(frac(1, 7), whole(0), frac(8, 7), whole(1))},
		"a difference of the result's Y":    {curve(0, 0, 3, 1), knees(whole(0), frac(1, 100), frac(1, 3), frac(30000003, 1000000000))},
		"a difference of the result's X":    {knees(frac(3, 1000000000), whole(5)), knees(whole(0), whole(0), frac(1, 3), whole(1))},
		"a slope of the result":             {curve(0, 0, 100000, 1), curve(0, 0, 100000, 1)},
		"a steep slope of the result":       {curve(0, 0, 1, 100000), curve(0, 0, 1, 100000)},
	} {
		if c, e := action.Compose(x.outer, x.inner); len(c.Corners) != 0 || e != api.ErrLarge {
			t.Errorf("Compose, %s: %v, %v", name, c, e)
		}
	}
	for i, x := range largeValues {
		if c, e := action.Compose(x.c, knees(whole(0), x.x)); len(c.Corners) != 0 || e != api.ErrLarge {
			t.Errorf("Compose, value %d: %v, %v", i, c, e)
		}
	}
}

func TestP4_3_Reach(t *testing.T) {
	down := curve(-4, 8, 0, 4, 2, 4, 6, 0, 7, 9)
	for _, x := range []struct {
		c       api.Curve
		level   api.Frac
		falling bool
		want    api.Frac
		e       api.Errno
	}{
		{bend(), whole(10), false, frac(25, 2), api.OK}, {bend(), whole(0), false, whole(0), api.OK}, {bend(), whole(-1), false, whole(0), api.OK}, {bend(), whole(5), false, whole(10), api.OK}, {bend(), whole(25), false, whole(20), api.OK}, {bend(), frac(1, 3), false, frac(2, 3), api.OK},
		{bend(), whole(26), false, api.Frac{}, api.ErrNone}, {bend(), frac(25000001, 1000000), false, api.Frac{}, api.ErrNone}, {bend(), whole(1000000000), false, api.Frac{}, api.ErrNone},
		{bend(), whole(3), true, whole(0), api.OK}, {bend(), whole(0), true, whole(0), api.OK}, {bend(), whole(-1), true, api.Frac{}, api.ErrNone}, {bend(), frac(-1, 1000000000), true, api.Frac{}, api.ErrNone},
		{down, whole(8), true, whole(-4), api.OK}, {down, whole(9), true, whole(-4), api.OK}, {down, whole(7), true, whole(-3), api.OK}, {down, whole(4), true, whole(0), api.OK}, {down, frac(7, 2), true, frac(5, 2), api.OK}, {down, whole(0), true, whole(6), api.OK},
		{down, whole(8), false, whole(-4), api.OK}, {down, frac(17, 2), false, frac(125, 18), api.OK}, {down, whole(9), false, whole(7), api.OK}, {down, whole(10), false, api.Frac{}, api.ErrNone},
		{curve(3, 8), whole(8), false, whole(3), api.OK}, {curve(3, 8), whole(9), false, api.Frac{}, api.ErrNone}, {curve(3, 8), whole(8), true, whole(3), api.OK}, {curve(3, 8), whole(7), true, api.Frac{}, api.ErrNone},
		{curve(0, 0, 2, 6, 4, 0, 6, 6), whole(3), false, whole(1), api.OK}, {curve(0, 0, 2, 6, 4, -2, 6, 6), whole(-1), true, frac(15, 4), api.OK},
	} {
		f, e := action.Reach(x.c, x.level, x.falling)
		wanted(t, "Reach", f, e, x.want, x.e)
	}
	for name, x := range map[string]struct {
		c     api.Curve
		level api.Frac
	}{
		"the difference": {knees(whole(0), frac(1, 3), whole(1), frac(2, 3)), frac(333333337, 1000000000)},
		"the quotient":   {knees(frac(1, 3), whole(0), frac(4, 3), whole(3)), frac(11, 1000000000)},
		"the sum":        {knees(frac(1, 7), whole(0), frac(8, 7), whole(1)), frac(1, 1000000000)},
	} {
		f, e := action.Reach(x.c, x.level, false)
		wanted(t, "Reach, "+name, f, e, api.Frac{}, api.ErrLarge)
	}
}

// TestP4_1_Model compares random curves with the definitions.
func TestP4_1_Model(t *testing.T) {
	r := rand.New(rand.NewSource(41))
	count := map[api.Errno]int{}
	for range 20000 {
		l := dens(r)
		c, x := randomCurve(r, 6, 9, l...), randomFrac(r, 11, l...)
		var s steps
		value, slope := s.valueBy(dotsOf(c), ratOf(x))
		f, e := action.Value(c, x)
		want, wantError := s.fracBy(value)
		wanted(t, "Value", f, e, want, wantError)
		count[e]++
		f, e = action.Slope(c, x)
		wanted(t, "Slope", f, e, fracOf(slope), api.OK)
	}
	if count[api.OK] < 1000 || count[api.ErrLarge] < 1000 {
		t.Errorf("too few cases: %v", count)
	}
}

func TestP4_2_Model(t *testing.T) {
	r := rand.New(rand.NewSource(42))
	count := map[api.Errno]int{}
	for range 20000 {
		l := dens(r)
		outer, inner := randomCurve(r, 6, 9, l...), randomCurve(r, 6, 9, l...)
		var s steps
		want, wantError := s.composeBy(dotsOf(outer), dotsOf(inner)), api.OK
		if s.large {
			want, wantError = nil, api.ErrLarge
		}
		c, e := action.Compose(outer, inner)
		if !sameCurve(c, curveOf(want)) || e != wantError {
			t.Errorf("Compose(%v, %v) = %v, %v, want %v, %v", outer, inner, c, e, curveOf(want), wantError)
		}
		count[e]++
	}
	if count[api.OK] < 1000 || count[api.ErrLarge] < 1000 {
		t.Errorf("too few cases: %v", count)
	}
}

func TestP4_3_Model(t *testing.T) {
	r := rand.New(rand.NewSource(43))
	count := map[api.Errno]int{}
	for range 20000 {
		l := dens(r)
		c, level, falling := randomCurve(r, 6, 9, l...), randomFrac(r, 11, l...), r.Intn(2) == 0
		if r.Intn(4) == 0 {
			level = c.Corners[r.Intn(len(c.Corners))].Y
		}
		var s steps
		want, wantError := s.fracBy(s.reachBy(dotsOf(c), ratOf(level), falling))
		f, e := action.Reach(c, level, falling)
		wanted(t, "Reach", f, e, want, wantError)
		count[e]++
	}
	if slices.Min([]int{count[api.OK], count[api.ErrNone], count[api.ErrLarge]}) < 500 {
		t.Errorf("too few cases: %v", count)
	}
}
