package action_test

import (
	"math/big"
	"math/rand"
	"slices"
	"strings"
	"testing"

	"agraffe/action"
	"agraffe/api"
)

// fine is an action with events of a part that rises by 99400891/100000000: its dips have great numerators and denominators.
func fine(levels ...int) api.Action {
	a := chain(2000, curve(0, 0, 10000, 9973), curve(0, 0, 10000, 9967))
	for i, level := range levels {
		a.Events = append(a.Events, api.ActionEvent{Name: string(rune('p' + i)), Part: "b", Level: level})
	}
	return a
}

// waves is an action with events at 0, at its full dip, at the same dip, and between corners.
func waves() api.Action {
	a := only(8, curve(0, 0, 2, 4, 4, -4, 8, 6), 0, 0)
	a.Parts = append(a.Parts, api.ActionPart{Name: "twin", Curve: curve(1, 0, 3, 4)})
	for _, v := range []api.ActionEvent{
		{Name: "top", Part: "only", Level: 6}, {Name: "late", Part: "only", Level: 4}, {Name: "same", Part: "twin", Level: 2}, {Name: "early", Part: "only", Level: 4, Falling: true}, {Name: "down", Part: "only", Level: -3, Falling: true},
		{Name: "never", Part: "only", Level: -5, Falling: true}, {Name: "begin", Part: "twin", Level: 0}, {Name: "half", Part: "only", Level: 3}, {Name: "above", Part: "only", Level: 7}, {Name: "bottom", Part: "only", Level: -4, Falling: true},
	} {
		a.Events = append(a.Events, v)
	}
	return a
}

func TestP4_6_EventAt(t *testing.T) {
	for event, x := range map[string]struct {
		dip api.Frac
		e   api.Errno
	}{
		"top": {whole(8), api.OK}, "late": {whole(2), api.OK}, "same": {whole(2), api.OK}, "early": {whole(0), api.OK}, "down": {frac(15, 4), api.OK}, "never": {api.Frac{}, api.ErrNone}, "begin": {whole(0), api.OK}, "half": {frac(3, 2), api.OK}, "above": {api.Frac{}, api.ErrNone}, "bottom": {whole(4), api.OK},
		"": {api.Frac{}, api.ErrMissing}, "only": {api.Frac{}, api.ErrMissing}, "Top": {api.Frac{}, api.ErrMissing}, "top ": {api.Frac{}, api.ErrMissing}, "\xff": {api.Frac{}, api.ErrMissing},
	} {
		f, e := action.EventAt(waves(), event)
		wanted(t, "EventAt "+event, f, e, x.dip, x.e)
		want, wantError := api.Frac{}, x.e
		if x.e == api.OK {
			want = fracOf(new(big.Rat).Sub(rat(8), ratOf(x.dip)))
		}
		f, e = action.Aftertouch(waves(), event)
		wanted(t, "Aftertouch "+event, f, e, want, wantError)
	}
	for event, x := range map[string][2]api.Frac{"lift": {whole(2), whole(998)}, "let-off": {whole(900), whole(100)}} {
		f, e := action.EventAt(upright(), event)
		wanted(t, "EventAt "+event, f, e, x[0], api.OK)
		f, e = action.Aftertouch(upright(), event)
		wanted(t, "Aftertouch "+event, f, e, x[1], api.OK)
	}
}

func TestP4_6_LargeDips(t *testing.T) {
	for level, want := range map[int]api.Errno{1: api.OK, 10: api.OK, 11: api.ErrLarge, 50: api.ErrLarge, 1987: api.ErrLarge, 1989: api.ErrNone} {
		wantDip := api.Frac{}
		if want == api.OK {
			wantDip = frac(level*100000000, 99400891)
		}
		f, e := action.EventAt(fine(level), "p")
		wanted(t, "EventAt", f, e, wantDip, want)
		// What is left of the dip is large in any case.
		if want == api.OK {
			want = api.ErrLarge
		}
		f, e = action.Aftertouch(fine(level), "p")
		wanted(t, "Aftertouch", f, e, api.Frac{}, want)
	}
	a := winding()
	a.Events = []api.ActionEvent{{Name: "x", Part: "b"}, {Name: "y", Part: "a"}}
	for _, level := range []int{0, 10000} {
		a.Events[0].Level = level
		f, e := action.EventAt(a, "x")
		wanted(t, "EventAt", f, e, api.Frac{}, api.ErrLarge)
		f, e = action.Aftertouch(a, "x")
		wanted(t, "Aftertouch", f, e, api.Frac{}, api.ErrLarge)
		f, e = action.EventAt(a, "y")
		wanted(t, "EventAt", f, e, whole(0), api.OK)
		if l, e := action.Order(a); len(l) != 0 || e != api.ErrLarge {
			t.Errorf("Order: %v, %v", l, e)
		}
		if l, e := action.Happened(a, whole(0)); len(l) != 0 || e != api.ErrLarge {
			t.Errorf("Happened: %v, %v", l, e)
		}
	}
}

func TestP4_6_OrderAndHappened(t *testing.T) {
	all := []string{"early", "begin", "half", "late", "same", "down", "bottom", "top"}
	if l, e := action.Order(waves()); !slices.Equal(l, all) || e != api.OK {
		t.Errorf("Order: %v, %v", l, e)
	}
	// On equal dips the events come by their numbers.
	back := waves()
	slices.Reverse(back.Events)
	if l, e := action.Order(back); !slices.Equal(l, []string{"begin", "early", "half", "same", "late", "down", "bottom", "top"}) || e != api.OK {
		t.Errorf("Order: %v, %v", l, e)
	}
	for _, x := range []struct {
		dip  api.Frac
		want int
	}{{whole(0), 2}, {frac(1, 1000000000), 2}, {frac(1499999, 1000000), 2}, {frac(3, 2), 3}, {frac(199999999, 100000000), 3}, {whole(2), 5}, {frac(7, 2), 5}, {frac(15, 4), 6}, {whole(4), 7}, {frac(79999999, 10000000), 7}, {whole(8), 8}} {
		if l, e := action.Happened(waves(), x.dip); !slices.Equal(l, all[:x.want]) || e != api.OK {
			t.Errorf("Happened up to %v: %v, %v", x.dip, l, e)
		}
	}
	for _, x := range wrongDips {
		a := winding()
		a.Dip = 1000
		a.Events = []api.ActionEvent{{Name: "x", Part: "b"}}
		for _, a := range []api.Action{upright(), a} {
			if l, e := action.Happened(a, x.f); len(l) != 0 || e != x.want {
				t.Errorf("Happened up to %v: %v, %v, want %v", x.f, l, e, x.want)
			}
		}
	}
	for _, a := range []api.Action{{Dip: 3}, only(3, curve(0, 0), 1, 1)} {
		if l, e := action.Order(a); len(l) != 0 || e != api.OK {
			t.Errorf("Order without events: %v, %v", l, e)
		}
		if l, e := action.Happened(a, whole(3)); len(l) != 0 || e != api.OK {
			t.Errorf("Happened without events: %v, %v", l, e)
		}
	}
	many := only(2000, curve(0, 0, 2000, 2000), 0, 0)
	var names []string
	for i := range 20 {
		name := "v" + strings.Repeat("x", i%11) + string(rune('a'+i))
		many.Events = append(many.Events, api.ActionEvent{Name: name, Part: "only", Level: 2000 - 100*(i/2)})
		names = append(names, name)
	}
	// Of 20 events, two each are at the same dip.
	var want []string
	for i := 18; i >= 0; i -= 2 {
		want = append(want, names[i], names[i+1])
	}
	if l, e := action.Order(many); !slices.Equal(l, want) || e != api.OK {
		t.Errorf("Order: %v, %v, want %v", l, e, want)
	}
}

func TestP4_6_CheckOrder(t *testing.T) {
	large := winding()
	large.Events = []api.ActionEvent{{Name: "big", Part: "b"}, {Name: "end", Part: "a", Level: 11}, {Name: "start", Part: "a"}, {Name: "none", Part: "a", Level: 12}}
	many := slices.Repeat([]string{"top"}, 21)
	for _, x := range []struct {
		a     api.Action
		order []string
		gap   int
		at    int
		e     api.Errno
	}{
		{upright(), []string{"lift", "let-off"}, 0, 0, api.OK}, {upright(), []string{"lift", "let-off"}, 898, 0, api.OK}, {upright(), []string{"lift", "let-off"}, 899, 1, api.ErrOrder}, {upright(), []string{"let-off", "lift"}, 0, 1, api.ErrOrder},
		{upright(), nil, 0, 0, api.OK}, {upright(), nil, 2000, 0, api.OK}, {upright(), []string{"let-off"}, 2000, 0, api.OK}, {api.Action{Dip: 1}, nil, 5, 0, api.OK},
		{waves(), []string{"begin", "early", "half", "same", "late", "down", "bottom", "top"}, 0, 0, api.OK}, {waves(), []string{"half", "late"}, 1, 1, api.ErrOrder}, {waves(), []string{"late", "half"}, 0, 1, api.ErrOrder}, {waves(), []string{"begin", "half"}, 1, 0, api.OK}, {waves(), []string{"begin", "half"}, 2, 1, api.ErrOrder},
		{waves(), []string{"begin", "late", "bottom", "top"}, 2, 0, api.OK}, {waves(), []string{"begin", "late", "bottom", "top"}, 3, 1, api.ErrOrder}, {waves(), []string{"begin", "bottom", "late", "top"}, 0, 2, api.ErrOrder}, {waves(), []string{"same", "late"}, 0, 0, api.OK}, {waves(), []string{"same", "late"}, 1, 1, api.ErrOrder},
		// The number of the name.
		{waves(), []string{"x"}, 0, 0, api.ErrMissing}, {waves(), []string{"begin", "late", "only"}, 0, 2, api.ErrMissing}, {waves(), []string{"begin", "late", "late"}, 0, 2, api.ErrExists}, {waves(), []string{"late", "begin", "top", "late"}, 0, 3, api.ErrExists},
		{waves(), []string{"never"}, 0, 0, api.ErrNone}, {waves(), []string{"begin", "never"}, 0, 1, api.ErrNone}, {waves(), []string{"begin", "late", "above", "half"}, 0, 2, api.ErrNone}, {waves(), []string{"begin", "late", "half", "above"}, 0, 2, api.ErrOrder},
		// Names of any kind come before the gap, the gap before dips.
		{waves(), []string{"never", "x"}, -1, 1, api.ErrMissing}, {waves(), []string{"top", "begin", "top"}, 2001, 2, api.ErrExists}, {waves(), []string{"x", "x"}, 0, 0, api.ErrMissing}, {waves(), []string{"top", "top", "x"}, 0, 1, api.ErrExists}, {waves(), []string{"top", "x", "top"}, 0, 1, api.ErrMissing}, {waves(), []string{""}, 0, 0, api.ErrMissing},
		{waves(), []string{"never"}, -1, 0, api.ErrRange}, {waves(), []string{"top", "begin"}, 2001, 0, api.ErrRange}, {waves(), nil, -1, 0, api.ErrRange}, {waves(), nil, 2001, 0, api.ErrRange},
		// Too many names come before all of them.
		{waves(), many, 0, 0, api.ErrLarge}, {waves(), many[:20], 0, 1, api.ErrExists}, {waves(), make([]string, 21), -1, 0, api.ErrLarge}, {waves(), make([]string, 20), -1, 0, api.ErrMissing}, {upright(), make([]string, 4), -1, 0, api.ErrMissing},
		{large, []string{"big"}, 0, 0, api.ErrLarge}, {large, []string{"start", "big"}, 0, 1, api.ErrLarge}, {large, []string{"end", "start", "big"}, 0, 1, api.ErrOrder}, {large, []string{"end", "big", "start"}, 0, 1, api.ErrLarge}, {large, []string{"none", "big"}, 0, 0, api.ErrNone}, {large, []string{"big", "none"}, 0, 0, api.ErrLarge}, {large, []string{"start", "end"}, 1, 0, api.OK},
		{large, []string{"big", "none", "x"}, 0, 2, api.ErrMissing}, {large, []string{"big"}, 2001, 0, api.ErrRange},
	} {
		n, e := action.CheckOrder(x.a, x.order, x.gap)
		if n != x.at || e != x.e {
			t.Errorf("CheckOrder of %v by %d: %v, %v, want %v, %v", x.order, x.gap, n, e, x.at, x.e)
		}
	}
	for _, gap := range outside(0, 2000) {
		n, e := action.CheckOrder(waves(), []string{"top", "late"}, gap)
		wanted(t, "CheckOrder", n, e, 0, api.ErrRange)
	}
}

// TestP4_6_ExactGaps has dips with great denominators, whose products with a gap are too great for an int.
func TestP4_6_ExactGaps(t *testing.T) {
	a := fine(1, 2, 10)
	a.Parts = append(a.Parts, api.ActionPart{Name: "c", Curve: curve(0, 0, 2000, 2000)}, api.ActionPart{Name: "d", Driver: "a", Curve: curve(0, 0, 10000, 9949)})
	a.Events = append(a.Events, api.ActionEvent{Name: "last", Part: "c", Level: 2000}, api.ActionEvent{Name: "first", Part: "c", Level: 0}, api.ActionEvent{Name: "d3", Part: "d", Level: 3}, api.ActionEvent{Name: "d10", Part: "d", Level: 10})
	names := []string{"p", "q", "r", "last", "first", "d3", "d10"}
	for _, x := range names {
		for _, y := range names {
			if x == y {
				continue
			}
			before, _ := action.EventAt(a, x)
			dip, _ := action.EventAt(a, y)
			way := new(big.Rat).Sub(ratOf(dip), ratOf(before))
			for gap := range 2001 {
				want := api.OK
				if way.Cmp(rat(gap)) < 0 {
					want = api.ErrOrder
				}
				n, e := action.CheckOrder(a, []string{x, y}, gap)
				if e != want || (n == 1) != (e == api.ErrOrder) {
					t.Fatalf("CheckOrder of %v and %v by %d: %v, %v, want %v", before, dip, gap, n, e, want)
				}
			}
		}
	}
}

// orderBy returns the events that happen and their dips by the definition.
func orderBy(s *steps, a api.Action) ([]string, []*big.Rat) {
	var names []string
	var dips []*big.Rat
	for _, v := range a.Events {
		dip := s.eventBy(a, v)
		if dip == nil {
			continue
		}
		at := len(dips)
		for at > 0 && dips[at-1].Cmp(dip) > 0 {
			at--
		}
		names, dips = slices.Insert(names, at, v.Name), slices.Insert(dips, at, dip)
	}
	return names, dips
}

func TestP4_6_Model(t *testing.T) {
	r := rand.New(rand.NewSource(46))
	count := map[api.Errno]int{}
	for range 6000 {
		a := randomAction(r)
		dip := randomDip(r, a)
		for _, v := range a.Events {
			var s steps
			at := s.eventBy(a, v)
			want, wantError := s.fracBy(at)
			f, e := action.EventAt(a, v.Name)
			wanted(t, "EventAt", f, e, want, wantError)
			count[e]++
			if e == api.OK {
				want, wantError = s.fracBy(s.sub(rat(a.Dip), at))
			}
			f, e = action.Aftertouch(a, v.Name)
			wanted(t, "Aftertouch", f, e, want, wantError)
		}
		var s steps
		names, dips := orderBy(&s, a)
		want := api.OK
		if s.large {
			names, want = nil, api.ErrLarge
		}
		if l, e := action.Order(a); !slices.Equal(l, names) || e != want {
			t.Errorf("Order(%v) = %v, %v, want %v, %v", a, l, e, names, want)
		}
		happened := 0
		for happened < len(names) && dips[happened].Cmp(ratOf(dip)) <= 0 {
			happened++
		}
		if l, e := action.Happened(a, dip); !slices.Equal(l, names[:happened]) || e != want {
			t.Errorf("Happened(%v, %v) = %v, %v, want %v, %v", a, dip, l, e, names[:happened], want)
		}
		if n, e := action.CheckOrder(a, names, 0); n != 0 || e != api.OK {
			t.Errorf("CheckOrder(%v, %v) = %v, %v", a, names, n, e)
		}
	}
	if slices.Min([]int{count[api.OK], count[api.ErrNone], count[api.ErrLarge]}) < 200 {
		t.Errorf("too few cases: %v", count)
	}
}
