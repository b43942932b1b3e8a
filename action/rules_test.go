package action_test

import (
	"math/rand"
	"slices"
	"strings"
	"testing"

	"agraffe/action"
	"agraffe/api"
)

// anyOf hands on numbers at and beyond all limits, and values that are built of them.
type anyOf struct{ r *rand.Rand }

func (a anyOf) number() int { return extremes[a.r.Intn(len(extremes))] }

// near returns a right number most of the time.
func (a anyOf) near(right int) int {
	if a.r.Intn(40) == 0 {
		return a.number()
	}
	return right
}

func (a anyOf) frac() api.Frac {
	if a.r.Intn(2) == 0 {
		return frac(a.number(), a.number())
	}
	return frac(a.near(a.r.Intn(9)), a.near(1))
}

func (a anyOf) curve() api.Curve {
	c := api.Curve{Corners: make([]api.Knee, a.r.Intn(5))}
	for i := range c.Corners {
		c.Corners[i] = api.Knee{X: frac(a.near(10*i), a.near(1)), Y: frac(a.near(a.r.Intn(50)), a.near(1))}
		if a.r.Intn(8) == 0 {
			c.Corners[i].Y = frac(a.number(), a.number())
		}
	}
	return c
}

func (a anyOf) name() string {
	return []string{"a", "b", "c", "a", "b", "c", "a", "b", "c", "a", "b", "c", "", "-", "x y", "\xff", strings.Repeat("n", 13)}[a.r.Intn(17)]
}

func (a anyOf) leads() []api.Lead {
	l := make([]api.Lead, a.r.Intn(4))
	for i := range l {
		l[i] = api.Lead{Weight: a.near(20), Place: a.near(500)}
	}
	return l
}

func (a anyOf) action() api.Action {
	x := chain(a.near(1000), curve(0, 0, 5, 9), curve(0, 0, 5, 9), curve(0, 0, 5, 9))
	for i := range x.Parts {
		p := &x.Parts[i]
		p.Weight, p.Friction = a.near(5), a.near(5)
		if a.r.Intn(4) == 0 {
			p.Curve = a.curve()
		}
		if a.r.Intn(20) == 0 {
			p.Name, p.Driver = a.name(), a.name()
		}
	}
	for i := range a.r.Intn(3) {
		x.Events = append(x.Events, api.ActionEvent{Name: string(rune('a' + i)), Part: "c", Level: a.near(5), Falling: a.r.Intn(2) == 0})
	}
	x.Leads = a.leads()
	return x
}

// TestP4_NoPanic calls every function with numbers at and beyond all limits (R2).
func TestP4_NoPanic(t *testing.T) {
	a := anyOf{rand.New(rand.NewSource(4))}
	for range 20000 {
		c, d, f, x := a.curve(), a.curve(), a.frac(), a.action()
		w := api.TouchWindow{Down: a.near(100), Up: a.near(10)}
		action.CheckCurve(c)
		action.Value(c, f)
		action.Slope(c, f)
		action.Compose(c, d)
		action.Reach(c, f, a.r.Intn(2) == 0)
		action.CheckAction(x)
		action.CurveOf(x, a.name())
		action.Position(x, a.name(), f)
		action.Ratio(x, a.name(), f)
		action.EventAt(x, a.name())
		action.Order(x)
		action.Happened(x, f)
		action.CheckOrder(x, []string{a.name(), a.name()}, a.near(7))
		action.Aftertouch(x, a.name())
		action.Balance(x, f)
		action.Touch(x, f)
		action.CheckTouch(x, w, f)
		action.ChooseLeads(x, a.leads(), w)
		text, _ := action.Print(x)
		action.Parse(text)
		action.Parse(text[a.r.Intn(len(text)+1):])
		action.Parse(text[:a.r.Intn(len(text)+1)])
	}
	for _, text := range []string{"\xff\n", "part \xff", strings.Repeat(" ", 60000), "part" + strings.Repeat(" ", 59995) + "\n", "event" + strings.Repeat(" 1", 2000) + "\n", strings.Repeat("\n", 60000), "action 1\n" + strings.Repeat("action 1\n", 6000)} {
		action.Parse(text)
	}
}

// TestP4_LongChains calls for the last part of the longest chain, at all that the limits allow.
func TestP4_LongChains(t *testing.T) {
	var l []api.Curve
	for range 12 {
		l = append(l, curve(0, 0, 1000, 1000))
	}
	a := chain(1000, l...)
	for i := range 20 {
		a.Events = append(a.Events, api.ActionEvent{Name: "v" + string(rune('a'+i)), Part: "l", Level: 50 * i})
	}
	for i := range a.Parts {
		a.Parts[i].Weight, a.Parts[i].Friction = 100000, 10000
	}
	for range 8 {
		a.Leads = append(a.Leads, api.Lead{Weight: 5000, Place: 1000})
	}
	if c, e := action.CurveOf(a, "l"); !sameCurve(c, curve(0, 0, 1000, 1000)) || e != api.OK {
		t.Errorf("CurveOf: %v, %v", c, e)
	}
	if l, e := action.Order(a); len(l) != 20 || e != api.OK {
		t.Errorf("Order: %v, %v", l, e)
	}
	touch, e := action.Touch(a, whole(0))
	wanted(t, "Touch", touch, e, [2]api.Frac{whole(1280000), whole(1040000)}, api.OK)
	order, _ := action.Order(a)
	n, e := action.CheckOrder(a, order, 50)
	wanted(t, "CheckOrder", n, e, 0, api.OK)
	holes := slices.Repeat([]api.Lead{{Weight: 5000, Place: 1000}}, 8)
	a.Leads = nil
	if l, e := action.ChooseLeads(a, holes, api.TouchWindow{Down: 100000, Up: -100000}); len(l) != 0 || e != api.ErrNone {
		t.Errorf("ChooseLeads: %v, %v", l, e)
	}
}

// TestP4_ArgumentsStay checks that no function writes into its arguments (R3).
func TestP4_ArgumentsStay(t *testing.T) {
	r := rand.New(rand.NewSource(5))
	for range 300 {
		outer, inner, a := randomCurve(r, 5, 9, 1), randomCurve(r, 5, 9, 1), randomAction(r)
		copied := [2]api.Curve{{Corners: slices.Clone(outer.Corners)}, {Corners: slices.Clone(inner.Corners)}}
		text, _ := action.Print(a)
		holes, order := randomLeads(r, 5), []string{"A", "B"}
		held := slices.Clone(holes)
		action.CheckCurve(outer)
		action.Value(outer, whole(1))
		action.Slope(outer, whole(1))
		action.Compose(outer, inner)
		action.Reach(outer, whole(1), true)
		for _, p := range a.Parts {
			action.CurveOf(a, p.Name)
			action.Position(a, p.Name, whole(0))
			action.Ratio(a, p.Name, whole(0))
		}
		action.Order(a)
		action.Happened(a, whole(0))
		action.CheckOrder(a, order, 0)
		action.EventAt(a, "A")
		action.Aftertouch(a, "A")
		action.Balance(a, whole(0))
		action.Touch(a, whole(0))
		action.CheckTouch(a, api.TouchWindow{}, whole(0))
		action.ChooseLeads(a, holes, api.TouchWindow{Down: 50, Up: -50})
		if !sameCurve(outer, copied[0]) || !sameCurve(inner, copied[1]) || !slices.Equal(holes, held) || !slices.Equal(order, []string{"A", "B"}) {
			t.Fatal(outer, inner, holes, order)
		}
		if again, e := action.Print(a); again != text || e != api.OK {
			t.Fatalf("%q is now %q, %v", text, again, e)
		}
	}
}

// spoil overwrites the corners of a curve, and what lies behind them.
func spoil(c api.Curve) {
	l := c.Corners[:cap(c.Corners)]
	for i := range l {
		l[i] = api.Knee{X: whole(77), Y: whole(77)}
	}
}

// TestP4_ResultsShareNothing checks that results share no memory with arguments, with later results, or with each other (R3, R4).
func TestP4_ResultsShareNothing(t *testing.T) {
	for _, x := range [][2]api.Curve{{bend(), curve(0, 0, 30, 15)}, {curve(0, 7), curve(3, 4, 5, 6)}, {curve(-99, -99, 99, 99), bend()}, {bend(), curve(1, 1)}} {
		outer, inner := api.Curve{Corners: slices.Clone(x[0].Corners)}, api.Curve{Corners: slices.Clone(x[1].Corners)}
		c, _ := action.Compose(outer, inner)
		want := slices.Clone(c.Corners)
		spoil(c)
		if !sameCurve(outer, x[0]) || !sameCurve(inner, x[1]) {
			t.Errorf("Compose shares memory: %v, %v", outer, inner)
		}
		if again, e := action.Compose(outer, inner); !slices.Equal(again.Corners, want) || e != api.OK {
			t.Errorf("Compose = %v, %v, want %v", again, e, want)
		}
	}
	a := upright()
	for _, part := range []string{"wippen", "hammer"} {
		c, _ := action.CurveOf(a, part)
		spoil(c)
		if !sameAction(a, upright()) {
			t.Errorf("CurveOf shares memory: %v", a)
		}
		if c, e := action.CurveOf(a, part); c.Corners[0].X != whole(0) || e != api.OK {
			t.Errorf("CurveOf = %v, %v", c, e)
		}
	}
	for range 2 {
		order, e := action.Order(a)
		if !slices.Equal(order, []string{"lift", "let-off"}) || e != api.OK {
			t.Errorf("Order = %v, %v", order, e)
		}
		order[0] = "x"
		holes, e := action.ChooseLeads(a, []api.Lead{{Weight: 1, Place: 1}, {Weight: 140, Place: 500}}, api.TouchWindow{Down: 200, Up: 0})
		if !slices.Equal(holes, []int{1}) || e != api.OK {
			t.Errorf("ChooseLeads = %v, %v", holes, e)
		}
		holes[0] = 9
		read, _, e := action.Parse(uprightText)
		if !sameAction(read, upright()) || e != api.OK {
			t.Errorf("Parse = %v, %v", read, e)
		}
		spoil(read.Parts[0].Curve)
		if !sameCurve(read.Parts[1].Curve, upright().Parts[1].Curve) {
			t.Errorf("Parse: %v", read)
		}
		read.Parts[0], read.Events[0] = api.ActionPart{}, api.ActionEvent{}
	}
}

// TestP4_NilIsEmpty checks that a nil list and an empty one are the same (R5).
func TestP4_NilIsEmpty(t *testing.T) {
	empty := api.Action{Dip: 5, Parts: []api.ActionPart{}, Events: []api.ActionEvent{}, Leads: []api.Lead{}}
	for _, a := range []api.Action{{Dip: 5}, empty} {
		if l, e := action.Order(a); len(l) != 0 || e != api.OK {
			t.Errorf("Order: %v, %v", l, e)
		}
		touch, e := action.Touch(a, whole(0))
		wanted(t, "Touch", touch, e, [2]api.Frac{whole(0), whole(0)}, api.OK)
		text, e := action.Print(a)
		wanted(t, "Print", text, e, "action 5\n", api.OK)
		for _, order := range [][]string{nil, {}} {
			n, e := action.CheckOrder(a, order, 1)
			wanted(t, "CheckOrder", n, e, 0, api.OK)
		}
		for _, holes := range [][]api.Lead{nil, {}} {
			if l, e := action.ChooseLeads(a, holes, api.TouchWindow{}); len(l) != 0 || e != api.OK {
				t.Errorf("ChooseLeads: %v, %v", l, e)
			}
			if l, e := action.ChooseLeads(a, holes, api.TouchWindow{Down: -1}); len(l) != 0 || e != api.ErrNone {
				t.Errorf("ChooseLeads: %v, %v", l, e)
			}
		}
	}
}
