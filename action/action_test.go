package action_test

import (
	"strings"
	"testing"

	"agraffe/action"
	"agraffe/api"
)

// full is an action with the greatest numbers of all that it may have.
func full() api.Action {
	a := api.Action{Dip: 2000}
	for i := range 12 {
		p := api.ActionPart{Name: "part-" + string(rune('a'+i)), Curve: zigzag(12, 9989, -10000, 10000), Weight: 100000, Friction: 10000}
		if i > 0 {
			p.Driver = "part-a"
		}
		a.Parts = append(a.Parts, p)
	}
	for i := range 20 {
		a.Events = append(a.Events, api.ActionEvent{Name: "event-" + string(rune('a'+i)), Part: a.Parts[i%12].Name, Level: 10000 - 20000*(i%2), Falling: i%3 == 0})
	}
	for i := range 8 {
		a.Leads = append(a.Leads, api.Lead{Weight: 5000, Place: 1000 - 2000*(i%2)})
	}
	return a
}

// broken is two parts, two events and two leads, which faults are made in.
func broken() api.Action {
	return api.Action{
		Dip:    1000,
		Parts:  []api.ActionPart{{Name: "a", Curve: curve(0, 0, 1, 1)}, {Name: "b", Driver: "a", Curve: curve(0, 0, 1, 1)}},
		Events: []api.ActionEvent{{Name: "x", Part: "a"}, {Name: "y", Part: "b"}},
		Leads:  []api.Lead{{Weight: 1}, {Weight: 1}},
	}
}

type fault struct {
	name string
	make func(a *api.Action)
	want api.Errno
}

// partFaults are the faults of a part in the order of the chapter.
func partFaults(n int) []fault {
	corner := func(i int, k api.Knee) func(a *api.Action) {
		return func(a *api.Action) { a.Parts[n].Curve.Corners[i] = k }
	}
	knee := func(x, y api.Frac) api.Knee { return api.Knee{X: x, Y: y} }
	return []fault{
		{"no name", func(a *api.Action) { a.Parts[n].Name = "" }, api.ErrName},
		{"a driver that is missing", func(a *api.Action) { a.Parts[n].Driver = "c" }, api.ErrMissing},
		{"too many corners", func(a *api.Action) {
			a.Parts[n].Curve.Corners = append(a.Parts[n].Curve.Corners, make([]api.Knee, 11)...)
		}, api.ErrShape},
		{"a corner that is not whole", corner(0, knee(whole(20000), frac(1, 2))), api.ErrForm},
		{"a great corner", corner(1, knee(whole(-1), whole(10001))), api.ErrRange},
		{"a great weight", func(a *api.Action) { a.Parts[n].Weight = 100001 }, api.ErrRange},
	}
}

// faults are the faults of an action in the order of the chapter.
func faults() []fault {
	l := []fault{
		{"no dip", func(a *api.Action) { a.Dip = 0 }, api.ErrRange},
		{"too many parts", func(a *api.Action) { a.Parts = append(a.Parts, make([]api.ActionPart, 11)...) }, api.ErrLarge},
	}
	l = append(append(l, partFaults(0)...), partFaults(1)...)
	return append(l, []fault{
		{"too many events", func(a *api.Action) { a.Events = append(a.Events, make([]api.ActionEvent, 19)...) }, api.ErrLarge},
		{"no name of an event", func(a *api.Action) { a.Events[0].Name = "1" }, api.ErrName},
		{"a part that is missing", func(a *api.Action) { a.Events[0].Part = "x" }, api.ErrMissing},
		{"a high level", func(a *api.Action) { a.Events[0].Level = 10001 }, api.ErrRange},
		{"no name of a second event", func(a *api.Action) { a.Events[1].Name = "-" }, api.ErrName},
		{"a second part that is missing", func(a *api.Action) { a.Events[1].Part = "" }, api.ErrMissing},
		{"a low level", func(a *api.Action) { a.Events[1].Level = -10001 }, api.ErrRange},
		{"too many leads", func(a *api.Action) { a.Leads = append(a.Leads, make([]api.Lead, 7)...) }, api.ErrLarge},
		{"no weight of a lead", func(a *api.Action) { a.Leads[0].Weight = 0 }, api.ErrRange},
		{"a far place", func(a *api.Action) { a.Leads[1].Place = -1001 }, api.ErrRange},
	}...)
}

func TestP4_4_RightActions(t *testing.T) {
	sister := broken()
	sister.Parts = append(sister.Parts, api.ActionPart{Name: "x", Driver: "a", Curve: curve(10000, -10000)})
	sister.Events = append(sister.Events, api.ActionEvent{Name: "a", Part: "x", Level: -10000})
	for name, a := range map[string]api.Action{
		"the example": upright(), "full": full(), "broken": broken(), "no parts": {Dip: 1}, "no parts, empty": {Dip: 2000, Parts: []api.ActionPart{}, Events: []api.ActionEvent{}, Leads: []api.Lead{}},
		"leads only": {Dip: 5, Leads: []api.Lead{{Weight: 1, Place: 0}}}, "a driver of two, and one name for a part and an event": sister, "winding": winding(),
	} {
		if e := action.CheckAction(a); e != api.OK {
			t.Errorf("CheckAction, %s: %v", name, e)
		}
	}
	for _, name := range rightNames {
		a := broken()
		a.Parts[0].Name, a.Parts[1].Driver, a.Events[0].Part = name, name, name
		a.Parts[1].Name, a.Events[1].Part = "other", "other"
		a.Events[0].Name, a.Events[1].Name = name, "other"
		if e := action.CheckAction(a); e != api.OK {
			t.Errorf("CheckAction with the name %q: %v", name, e)
		}
	}
}

// TestP4_4_OrderOfErrors makes each fault, and each two of them: the one that the chapter lists first is told.
func TestP4_4_OrderOfErrors(t *testing.T) {
	l := faults()
	for i, first := range l {
		for _, second := range l[i:] {
			a := broken()
			second.make(&a)
			first.make(&a)
			if e := action.CheckAction(a); e != first.want {
				t.Errorf("CheckAction, %s and %s: %v, want %v", first.name, second.name, e, first.want)
			}
		}
	}
}

func TestP4_4_Names(t *testing.T) {
	for _, name := range wrongNames {
		for _, make := range []func(a *api.Action){func(a *api.Action) { a.Parts[0].Name = name }, func(a *api.Action) { a.Parts[1].Name = name }, func(a *api.Action) { a.Events[0].Name = name }, func(a *api.Action) { a.Events[1].Name = name }} {
			a := broken()
			make(&a)
			if e := action.CheckAction(a); e != api.ErrName {
				t.Errorf("CheckAction with the name %q: %v", name, e)
			}
		}
	}
	// A name that is there comes before a driver, a part or a level that is wrong.
	a := broken()
	a.Parts[1].Name, a.Parts[1].Driver = "a", "c"
	if e := action.CheckAction(a); e != api.ErrExists {
		t.Errorf("CheckAction with a part twice: %v", e)
	}
	a = broken()
	a.Events[1].Name, a.Events[1].Part = "x", "c"
	if e := action.CheckAction(a); e != api.ErrExists {
		t.Errorf("CheckAction with an event twice: %v", e)
	}
	a = broken()
	a.Parts = append(a.Parts, api.ActionPart{Name: "a", Curve: curve(0, 0)})
	if e := action.CheckAction(a); e != api.ErrExists {
		t.Errorf("CheckAction with a first part again: %v", e)
	}
	a = broken()
	a.Events = append(a.Events, api.ActionEvent{Name: "x", Part: "b"})
	if e := action.CheckAction(a); e != api.ErrExists {
		t.Errorf("CheckAction with a first event again: %v", e)
	}
	// Names are told apart by case, and by all their letters.
	a = broken()
	a.Parts = append(a.Parts, api.ActionPart{Name: "A", Driver: "b", Curve: curve(0, 0)}, api.ActionPart{Name: "aa", Driver: "A", Curve: curve(0, 0)})
	if e := action.CheckAction(a); e != api.OK {
		t.Errorf("CheckAction with other names: %v", e)
	}
}

func TestP4_4_Drivers(t *testing.T) {
	for driver, want := range map[string]api.Errno{"": api.OK, "a": api.OK, "b": api.ErrMissing, "c": api.ErrMissing, "x": api.ErrMissing, "A": api.ErrMissing, "-": api.ErrMissing, " ": api.ErrMissing, "a ": api.ErrMissing} {
		a := broken()
		a.Parts[1].Driver = driver
		a.Parts = append(a.Parts, api.ActionPart{Name: "c", Driver: "b", Curve: curve(0, 0)})
		if e := action.CheckAction(a); e != want {
			t.Errorf("CheckAction with the driver %q: %v, want %v", driver, e, want)
		}
	}
	a := broken()
	a.Parts[0].Driver = "a"
	if e := action.CheckAction(a); e != api.ErrMissing {
		t.Errorf("CheckAction with a part that drives itself: %v", e)
	}
	for part, want := range map[string]api.Errno{"a": api.OK, "b": api.OK, "": api.ErrMissing, "x": api.ErrMissing, "-": api.ErrMissing} {
		a := broken()
		a.Events[0].Part = part
		if e := action.CheckAction(a); e != want {
			t.Errorf("CheckAction with an event of %q: %v, want %v", part, e, want)
		}
	}
}

func TestP4_4_Corners(t *testing.T) {
	for name, x := range map[string]struct {
		c    api.Curve
		want api.Errno
	}{
		"none":                   {api.Curve{}, api.ErrShape},
		"an empty list":          {api.Curve{Corners: []api.Knee{}}, api.ErrShape},
		"one":                    {curve(-10000, 10000), api.OK},
		"12":                     {zigzag(12, -10000, 10000, -10000), api.OK},
		"13":                     {zigzag(13, 0, 0, 1), api.ErrShape},
		"61":                     {zigzag(61, 0, 0, 1), api.ErrShape},
		"zero values":            {api.Curve{Corners: make([]api.Knee, 12)}, api.ErrForm},
		"a half X":               {knees(frac(1, 2), whole(0)), api.ErrForm},
		"a half Y":               {knees(whole(0), frac(1, 2)), api.ErrForm},
		"no lowest terms":        {knees(frac(2, 2), whole(0)), api.ErrForm},
		"a Den below 0":          {knees(whole(0), frac(1, -1)), api.ErrForm},
		"Form of Y before Range": {knees(whole(10001), frac(1, 2)), api.ErrForm},
		"Form of X before Range": {knees(frac(1, 2), whole(10001)), api.ErrForm},
		"Form before Order":      {knees(whole(0), whole(0), whole(0), frac(1, 2)), api.ErrForm},
		"Range before Order":     {curve(0, 0, 0, -10001), api.ErrRange},
		"Range before Form":      {knees(whole(10001), whole(0), frac(1, 2), whole(0)), api.ErrRange},
		"Order before Form":      {knees(whole(1), whole(0), whole(1), whole(0), frac(1, 2), whole(0)), api.ErrOrder},
		"Order before Range":     {curve(1, 0, 0, 0, 10001, 0), api.ErrOrder},
		"the same X":             {curve(-3, 0, -3, 1), api.ErrOrder},
		"a lesser X":             {curve(0, 0, 5, 1, 4, 1), api.ErrOrder},
	} {
		a := broken()
		a.Parts[1].Curve = x.c
		if e := action.CheckAction(a); e != x.want {
			t.Errorf("CheckAction, corners, %s: %v, want %v", name, e, x.want)
		}
	}
	for _, n := range outside(-10000, 10000) {
		for _, c := range []api.Curve{curve(n, 0), curve(0, n), curve(-10000, 0, 0, n), {Corners: []api.Knee{{X: whole(-10000), Y: whole(0)}, {X: whole(n), Y: whole(0)}}}} {
			a := broken()
			a.Parts[0].Curve = c
			if e := action.CheckAction(a); e != api.ErrRange {
				t.Errorf("CheckAction with %v: %v", c, e)
			}
		}
	}
}

func TestP4_4_Ranges(t *testing.T) {
	for name, x := range map[string]struct {
		low, high int
		set       func(a *api.Action, n int)
	}{
		"the dip":             {1, 2000, func(a *api.Action, n int) { a.Dip = n }},
		"a weight":            {0, 100000, func(a *api.Action, n int) { a.Parts[0].Weight = n }},
		"a friction":          {0, 10000, func(a *api.Action, n int) { a.Parts[0].Friction = n }},
		"a second weight":     {0, 100000, func(a *api.Action, n int) { a.Parts[1].Weight = n }},
		"a second friction":   {0, 10000, func(a *api.Action, n int) { a.Parts[1].Friction = n }},
		"a level":             {-10000, 10000, func(a *api.Action, n int) { a.Events[0].Level = n }},
		"a second level":      {-10000, 10000, func(a *api.Action, n int) { a.Events[1].Level = n }},
		"a lead":              {1, 5000, func(a *api.Action, n int) { a.Leads[0].Weight = n }},
		"a place":             {-1000, 1000, func(a *api.Action, n int) { a.Leads[0].Place = n }},
		"a second lead":       {1, 5000, func(a *api.Action, n int) { a.Leads[1].Weight = n }},
		"a second place":      {-1000, 1000, func(a *api.Action, n int) { a.Leads[1].Place = n }},
		"a level that falls":  {-10000, 10000, func(a *api.Action, n int) { a.Events[0].Level, a.Events[0].Falling = n, true }},
		"a corner's X":        {-10000, 0, func(a *api.Action, n int) { a.Parts[0].Curve.Corners[0].X = whole(n) }},
		"a second corner's Y": {-10000, 10000, func(a *api.Action, n int) { a.Parts[0].Curve.Corners[1].Y = whole(n) }},
	} {
		for _, n := range []int{x.low, x.high} {
			a := broken()
			x.set(&a, n)
			if e := action.CheckAction(a); e != api.OK {
				t.Errorf("CheckAction, %s of %d: %v", name, n, e)
			}
		}
		for _, n := range append(outside(x.low, x.high), x.low-1, x.high+1) {
			a := broken()
			x.set(&a, n)
			if e := action.CheckAction(a); e != api.ErrRange && !strings.HasSuffix(name, "X") {
				t.Errorf("CheckAction, %s of %d: %v", name, n, e)
			} else if e == api.OK {
				t.Errorf("CheckAction, %s of %d", name, n)
			}
		}
	}
}

func TestP4_4_Counts(t *testing.T) {
	a := full()
	a.Parts = append(a.Parts, api.ActionPart{Name: "more", Curve: curve(0, 0)})
	if e := action.CheckAction(a); e != api.ErrLarge {
		t.Errorf("CheckAction with 13 parts: %v", e)
	}
	a = full()
	a.Events = append(a.Events, api.ActionEvent{Name: "more", Part: "part-a"})
	if e := action.CheckAction(a); e != api.ErrLarge {
		t.Errorf("CheckAction with 21 events: %v", e)
	}
	a = full()
	a.Leads = append(a.Leads, api.Lead{Weight: 1})
	if e := action.CheckAction(a); e != api.ErrLarge {
		t.Errorf("CheckAction with 9 leads: %v", e)
	}
}

// TestP4_4_EverywhereFirst checks that all functions return the error of an action, ahead of those of other arguments.
func TestP4_4_EverywhereFirst(t *testing.T) {
	bad := frac(2, 2)
	window := api.TouchWindow{Down: 100001}
	for _, x := range faults() {
		a := broken()
		x.make(&a)
		for _, name := range []string{"a", "none", "x"} {
			c, e := action.CurveOf(a, name)
			if len(c.Corners) != 0 || e != x.want {
				t.Errorf("CurveOf, %s: %v, %v, want %v", x.name, c, e, x.want)
			}
			f, e := action.Position(a, name, bad)
			wanted(t, "Position, "+x.name, f, e, api.Frac{}, x.want)
			f, e = action.Ratio(a, name, bad)
			wanted(t, "Ratio, "+x.name, f, e, api.Frac{}, x.want)
			f, e = action.EventAt(a, name)
			wanted(t, "EventAt, "+x.name, f, e, api.Frac{}, x.want)
			f, e = action.Aftertouch(a, name)
			wanted(t, "Aftertouch, "+x.name, f, e, api.Frac{}, x.want)
		}
		l, e := action.Order(a)
		if len(l) != 0 || e != x.want {
			t.Errorf("Order, %s: %v, %v, want %v", x.name, l, e, x.want)
		}
		l, e = action.Happened(a, bad)
		if len(l) != 0 || e != x.want {
			t.Errorf("Happened, %s: %v, %v, want %v", x.name, l, e, x.want)
		}
		n, e := action.CheckOrder(a, []string{"x", "none"}, -1)
		wanted(t, "CheckOrder, "+x.name, n, e, 0, x.want)
		n, e = action.CheckOrder(a, make([]string, 21), -1)
		wanted(t, "CheckOrder, "+x.name, n, e, 0, x.want)
		f, e := action.Balance(a, bad)
		wanted(t, "Balance, "+x.name, f, e, api.Frac{}, x.want)
		touch, e := action.Touch(a, bad)
		wanted(t, "Touch, "+x.name, touch, e, [2]api.Frac{}, x.want)
		wanted(t, "CheckTouch, "+x.name, 0, action.CheckTouch(a, window, bad), 0, x.want)
		holes, e := action.ChooseLeads(a, make([]api.Lead, 9), window)
		if len(holes) != 0 || e != x.want {
			t.Errorf("ChooseLeads, %s: %v, %v, want %v", x.name, holes, e, x.want)
		}
		text, e := action.Print(a)
		wanted(t, "Print, "+x.name, text, e, "", x.want)
	}
}
