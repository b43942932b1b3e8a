package action_test

import (
	"math/rand"
	"slices"
	"testing"

	"agraffe/action"
	"agraffe/api"
)

// steady is an action whose parts have the ratios, weights and frictions of a list everywhere below a dip of 1.
func steady(l ...[3]int) api.Action {
	a := api.Action{Dip: 1}
	for i, x := range l {
		low, high := 0, x[0]
		if x[0] > 10000 {
			low, high = -10000, x[0]-10000
		} else if x[0] < -10000 {
			low, high = 10000, x[0]+10000
		}
		a.Parts = append(a.Parts, api.ActionPart{Name: string(rune('a' + i)), Curve: curve(0, low, 1, high), Weight: x[1], Friction: x[2]})
	}
	return a
}

// withLeads is an action with leads.
func withLeads(a api.Action, l ...api.Lead) api.Action {
	a.Leads = l
	return a
}

// thin is an action whose balance at 0 is a number of 519714013ths, and which has no friction.
func thin(weight int) api.Action {
	a := chain(2000, curve(0, 0, 1999, 1), curve(-10000, 0, 9999, 1), curve(0, 0, 13, 1))
	a.Parts[2].Weight = weight
	return a
}

func TestP4_7_BalanceAndTouch(t *testing.T) {
	for name, x := range map[string]struct {
		a        api.Action
		dip      api.Frac
		balance  api.Frac
		down, up api.Frac
	}{
		"the example":             {upright(), whole(0), whole(200), whole(260), whole(140)},
		"with a lead":             {withLeads(upright(), api.Lead{Weight: 140, Place: 500}), whole(0), whole(130), whole(190), whole(70)},
		"with a lead in front":    {withLeads(upright(), api.Lead{Weight: 3, Place: -500}), whole(0), frac(403, 2), frac(523, 2), frac(283, 2)},
		"with a lead at 0":        {withLeads(upright(), api.Lead{Weight: 5000}), whole(0), whole(200), whole(260), whole(140)},
		"with leads":              {withLeads(upright(), api.Lead{Weight: 1, Place: 1}, api.Lead{Weight: 7, Place: 11}), whole(0), frac(99961, 500), frac(129961, 500), frac(69961, 500)},
		"before let-off":          {upright(), frac(8999, 10), whole(200), whole(260), whole(140)},
		"behind let-off":          {upright(), whole(900), whole(-10), whole(20), whole(-40)},
		"at the full dip":         {upright(), whole(1000), whole(0), whole(0), whole(0)},
		"leads at the full dip":   {withLeads(upright(), api.Lead{Weight: 100, Place: 1000}), whole(1000), whole(-100), whole(-100), whole(-100)},
		"no parts":                {api.Action{Dip: 1}, whole(1), whole(0), whole(0), whole(0)},
		"leads only":              {withLeads(api.Action{Dip: 1}, api.Lead{Weight: 1, Place: 500}), whole(0), frac(-1, 2), frac(-1, 2), frac(-1, 2)},
		"a part that falls":       {steady([3]int{-3, 10, 2}), whole(0), whole(-30), whole(-24), whole(-36)},
		"parts that go both ways": {steady([3]int{-3, 10, 2}, [3]int{5, 7, 3}), whole(0), whole(5), whole(26), whole(-16)},
		"the greatest balance":    {steady([3]int{10000, 100000, 0}), whole(0), whole(1000000000), whole(1000000000), whole(1000000000)},
		"the least balance":       {steady([3]int{-10000, 100000, 0}), whole(0), whole(-1000000000), whole(-1000000000), whole(-1000000000)},
		"up and down again":       {steady([3]int{10000, 100000, 0}, [3]int{-1, 1, 0}, [3]int{1, 1, 0}), whole(0), whole(1000000000), whole(1000000000), whole(1000000000)},
		"a fine balance":          {thin(13), whole(0), frac(1, 39978001), frac(1, 39978001), frac(1, 39978001)},
	} {
		f, e := action.Balance(x.a, x.dip)
		wanted(t, "Balance, "+name, f, e, x.balance, api.OK)
		touch, e := action.Touch(x.a, x.dip)
		wanted(t, "Touch, "+name, touch, e, [2]api.Frac{x.down, x.up}, api.OK)
	}
}

func TestP4_7_LargeNumbers(t *testing.T) {
	still := winding()
	window := api.TouchWindow{Down: 100000, Up: -100000}
	none := api.Frac{}
	front, back := api.Lead{Weight: 1, Place: -1000}, api.Lead{Weight: 1, Place: 1000}
	for name, x := range map[string]struct {
		a       api.Action
		balance api.Frac // none if it is large
	}{
		"a ratio of a part without weight": {still, none},
		"a product":                        {steady([3]int{20000, 100000, 0}), none},
		"a product downwards":              {steady([3]int{-20000, 100000, 0}), none},
		"a sum":                            {steady([3]int{10000, 100000, 0}, [3]int{1, 1, 0}), none},
		"a sum that comes back":            {steady([3]int{10000, 100000, 0}, [3]int{1, 1, 0}, [3]int{-1, 1, 0}), none},
		"a sum that a lead brings back":    {withLeads(steady([3]int{10000, 100000, 0}, [3]int{1, 1, 0}), back), none},
		"leads that come back":             {withLeads(steady([3]int{10000, 100000, 0}), front, back), none},
		"a lead of many parts":             {withLeads(thin(1), api.Lead{Weight: 1, Place: 500}), none},
		"leads of many parts":              {withLeads(thin(1), api.Lead{Weight: 1, Place: 500}, api.Lead{Weight: 1, Place: 500}), none},
		"a product of friction":            {steady([3]int{20000, 0, 10000}, [3]int{20000, 0, 10000}, [3]int{20000, 0, 10000}, [3]int{20000, 0, 10000}, [3]int{20000, 0, 10000}, [3]int{1, 0, 1}), whole(0)},
		"the down weight":                  {steady([3]int{10000, 100000, 0}, [3]int{1, 0, 1}), whole(1000000000)},
		"the up weight":                    {steady([3]int{-10000, 100000, 0}, [3]int{1, 0, 1}), whole(-1000000000)},
	} {
		want := api.OK
		if x.balance == none {
			want = api.ErrLarge
		}
		f, e := action.Balance(x.a, whole(0))
		wanted(t, "Balance, "+name, f, e, x.balance, want)
		touch, e := action.Touch(x.a, whole(0))
		wanted(t, "Touch, "+name, touch, e, [2]api.Frac{}, api.ErrLarge)
		wanted(t, "CheckTouch, "+name, 0, action.CheckTouch(x.a, window, whole(0)), 0, api.ErrLarge)
		l, e := action.ChooseLeads(x.a, nil, window)
		if len(l) != 0 || e != api.ErrLarge {
			t.Errorf("ChooseLeads, %s: %v, %v", name, l, e)
		}
	}
	// Leads that go the other way first keep all sums small.
	f, e := action.Balance(withLeads(steady([3]int{10000, 100000, 0}), back, front), whole(0))
	wanted(t, "Balance", f, e, whole(1000000000), api.OK)
	// Friction counts the size of ratios, whichever way the parts go.
	touch, e := action.Touch(steady([3]int{20000, 0, 10000}, [3]int{-20000, 0, 10000}, [3]int{20000, 0, 10000}, [3]int{-20000, 0, 10000}, [3]int{20000, 0, 10000}), whole(0))
	wanted(t, "Touch", touch, e, [2]api.Frac{whole(1000000000), whole(-1000000000)}, api.OK)
}

func TestP4_7_ErrorsOfDips(t *testing.T) {
	large := winding()
	large.Dip = 1000
	for _, x := range wrongDips {
		for _, a := range []api.Action{upright(), large, {Dip: 1000}} {
			f, e := action.Balance(a, x.f)
			wanted(t, "Balance", f, e, api.Frac{}, x.want)
			touch, e := action.Touch(a, x.f)
			wanted(t, "Touch", touch, e, [2]api.Frac{}, x.want)
			wanted(t, "CheckTouch", 0, action.CheckTouch(a, api.TouchWindow{}, x.f), 0, x.want)
			// The window comes first.
			wanted(t, "CheckTouch", 0, action.CheckTouch(a, api.TouchWindow{Down: 100001}, x.f), 0, api.ErrRange)
		}
	}
}

func TestP4_7_CheckTouch(t *testing.T) {
	half := withLeads(upright(), api.Lead{Weight: 3, Place: -500}) // 523/2, 283/2
	for _, x := range []struct {
		a        api.Action
		down, up int
		want     api.Errno
	}{
		{upright(), 260, 140, api.OK}, {upright(), 259, 140, api.ErrBreak}, {upright(), 260, 141, api.ErrBreak}, {upright(), 100000, -100000, api.OK}, {upright(), 100000, 141, api.ErrBreak}, {upright(), 259, -100000, api.ErrBreak}, {upright(), -100000, 100000, api.ErrBreak}, {upright(), 0, 0, api.ErrBreak},
		{half, 262, 141, api.OK}, {half, 261, 141, api.ErrBreak}, {half, 262, 142, api.ErrBreak},
		{steady([3]int{-1, 100, 0}), -100, -100, api.OK}, {steady([3]int{-1, 100, 0}), -101, -100, api.ErrBreak}, {steady([3]int{-1, 100, 0}), -100, -99, api.ErrBreak},
		{steady([3]int{10000, 100000, 0}), 100000, 0, api.ErrBreak}, {steady([3]int{-10000, 100000, 0}), 0, -100000, api.ErrBreak},
	} {
		wanted(t, "CheckTouch", 0, action.CheckTouch(x.a, api.TouchWindow{Down: x.down, Up: x.up}, whole(0)), 0, x.want)
	}
	for _, n := range outside(-100000, 100000) {
		for _, w := range []api.TouchWindow{{Down: n}, {Up: n}, {Down: n, Up: n}} {
			for _, a := range []api.Action{upright(), winding()} {
				wanted(t, "CheckTouch", 0, action.CheckTouch(a, w, whole(0)), 0, api.ErrRange)
				if l, e := action.ChooseLeads(a, nil, w); len(l) != 0 || e != api.ErrRange {
					t.Errorf("ChooseLeads with %v: %v, %v", w, l, e)
				}
			}
		}
	}
	// The ratios at the dip count.
	wanted(t, "CheckTouch", 0, action.CheckTouch(upright(), api.TouchWindow{Down: 20, Up: -40}, whole(950)), 0, api.OK)
	wanted(t, "CheckTouch", 0, action.CheckTouch(upright(), api.TouchWindow{Down: 19, Up: -40}, whole(950)), 0, api.ErrBreak)
}

func TestP4_8_ChooseLeads(t *testing.T) {
	holes := []api.Lead{{Weight: 20, Place: 500}, {Weight: 140, Place: 500}, {Weight: 100, Place: 900}, {Weight: 140, Place: 500}}
	up := []api.Lead{{Weight: 10, Place: -1000}, {Weight: 30, Place: 1000}}
	eight := slices.Repeat([]api.Lead{{Weight: 10, Place: 1000}}, 8)
	for name, x := range map[string]struct {
		a        api.Action
		holes    []api.Lead
		down, up int
		want     []int
		e        api.Errno
	}{
		"none":                     {upright(), holes, 260, 140, nil, api.OK},
		"none of none":             {upright(), nil, 260, 140, nil, api.OK},
		"none that can be":         {upright(), nil, 259, 139, nil, api.ErrNone},
		"the first of two":         {upright(), holes, 195, 60, []int{1}, api.OK},
		"another one":              {upright(), holes, 170, 50, []int{2}, api.OK},
		"two":                      {upright(), holes, 181, 51, []int{0, 1}, api.OK},
		"two, the first ones":      {upright(), holes, 120, 0, []int{1, 3}, api.OK},
		"a later pair":             {upright(), holes, 100, -20, []int{1, 2}, api.OK},
		"three":                    {upright(), holes, 110, -10, []int{0, 1, 3}, api.OK},
		"all":                      {upright(), holes, 20, -100, []int{0, 1, 2, 3}, api.OK},
		"beyond all":               {upright(), holes, 19, -1000, nil, api.ErrNone},
		"a window too narrow":      {upright(), holes, 200, 81, nil, api.ErrNone},
		"a lead in front":          {upright(), up, 270, 150, []int{0}, api.OK},
		"both":                     {upright(), up, 240, 120, []int{0, 1}, api.OK},
		"all of eight":             {upright(), eight, 180, 60, []int{0, 1, 2, 3, 4, 5, 6, 7}, api.OK},
		"three of eight":           {upright(), eight, 230, 110, []int{0, 1, 2}, api.OK},
		"behind a lead":            {withLeads(upright(), api.Lead{Weight: 10, Place: 1000}), eight, 190, 70, []int{0, 1, 2, 3, 4, 5}, api.OK},
		"as many as there is room": {withLeads(upright(), api.Lead{Weight: 10, Place: 1000}), eight, 180, 60, []int{0, 1, 2, 3, 4, 5, 6}, api.OK},
		"more than there is room":  {withLeads(upright(), api.Lead{Weight: 1}), eight, 180, 60, nil, api.ErrNone},
		"no room":                  {withLeads(upright(), eight...), eight, 179, 60, nil, api.ErrNone},
		"no room, but enough":      {withLeads(upright(), eight...), eight, 180, 60, nil, api.OK},
		"no parts":                 {api.Action{Dip: 1}, eight, -20, -20, []int{0, 1}, api.OK},
		"the least leads":          {api.Action{Dip: 1}, []api.Lead{{Weight: 1, Place: 0}, {Weight: 1, Place: -1000}, {Weight: 5000, Place: 1000}}, 1, 1, []int{1}, api.OK},
	} {
		l, e := action.ChooseLeads(x.a, x.holes, api.TouchWindow{Down: x.down, Up: x.up})
		if !slices.Equal(l, x.want) || e != x.e {
			t.Errorf("ChooseLeads, %s: %v, %v, want %v, %v", name, l, e, x.want, x.e)
		}
	}
}

func TestP4_8_Errors(t *testing.T) {
	wide := api.TouchWindow{Down: 100000, Up: -100000}
	right := api.Lead{Weight: 1, Place: 1}
	for _, a := range []api.Action{upright(), winding()} {
		for _, holes := range [][]api.Lead{make([]api.Lead, 9), slices.Repeat([]api.Lead{right}, 9)} {
			if l, e := action.ChooseLeads(a, holes, api.TouchWindow{Down: 100001}); len(l) != 0 || e != api.ErrLarge {
				t.Errorf("ChooseLeads of 9 holes: %v, %v", l, e)
			}
		}
		for _, n := range append(outside(1, 5000), 5001) {
			if l, e := action.ChooseLeads(a, []api.Lead{right, {Weight: n, Place: 1}}, wide); len(l) != 0 || e != api.ErrRange {
				t.Errorf("ChooseLeads with the weight %d: %v, %v", n, l, e)
			}
		}
		for _, n := range append(outside(-1000, 1000), -1001) {
			if l, e := action.ChooseLeads(a, []api.Lead{{Weight: 1, Place: n}, right}, wide); len(l) != 0 || e != api.ErrRange {
				t.Errorf("ChooseLeads with the place %d: %v, %v", n, l, e)
			}
		}
	}
	if l, e := action.ChooseLeads(winding(), nil, wide); len(l) != 0 || e != api.ErrLarge {
		t.Errorf("ChooseLeads: %v, %v", l, e)
	}
}

// TestP4_8_LargeSets has sets that are left out because a number on the way is not small.
func TestP4_8_LargeSets(t *testing.T) {
	half, whole := api.Lead{Weight: 1, Place: 500}, api.Lead{Weight: 1, Place: 1000}
	below := api.TouchWindow{Down: 0, Up: -1}
	for _, x := range []struct {
		holes []api.Lead
		want  []int
		e     api.Errno
	}{
		{[]api.Lead{half, whole}, []int{1}, api.OK},
		{[]api.Lead{whole, half}, []int{0}, api.OK},
		// Two halves come to a whole one, but on the way there is a half.
		{[]api.Lead{half, half}, nil, api.ErrNone},
		{[]api.Lead{half, half, whole}, []int{2}, api.OK},
	} {
		if l, e := action.ChooseLeads(thin(1), x.holes, below); !slices.Equal(l, x.want) || e != x.e {
			t.Errorf("ChooseLeads of %v: %v, %v, want %v, %v", x.holes, l, e, x.want, x.e)
		}
	}
	// With friction, the up weight of a set may be large where its balance is not.
	a := thin(0)
	a.Parts[2].Friction = 1
	if l, e := action.ChooseLeads(a, []api.Lead{half, whole}, api.TouchWindow{Down: 0, Up: -2}); !slices.Equal(l, []int{1}) || e != api.OK {
		t.Errorf("ChooseLeads: %v, %v", l, e)
	}
}

func TestP4_7_Model(t *testing.T) {
	r := rand.New(rand.NewSource(47))
	count := map[api.Errno]int{}
	for range 5000 {
		a := randomAction(r)
		dip := randomDip(r, a)
		var s steps
		want, wantError := s.fracBy(s.balanceBy(a, ratOf(dip)))
		f, e := action.Balance(a, dip)
		wanted(t, "Balance", f, e, want, wantError)
		l := s.touchBy(a, ratOf(dip))
		down, wantError := s.fracBy(l[0])
		up, _ := s.fracBy(l[1])
		touch, e := action.Touch(a, dip)
		wanted(t, "Touch", touch, e, [2]api.Frac{down, up}, wantError)
		count[e]++
		w := api.TouchWindow{Down: among(r, -2000, 2000), Up: among(r, -2000, 2000)}
		if wantError == api.OK && (l[0].Cmp(rat(w.Down)) > 0 || l[1].Cmp(rat(w.Up)) < 0) {
			wantError = api.ErrBreak
		}
		wanted(t, "CheckTouch", 0, action.CheckTouch(a, w, dip), 0, wantError)
	}
	if count[api.OK] < 1000 || count[api.ErrLarge] < 200 {
		t.Errorf("too few cases: %v", count)
	}
}

func TestP4_8_Model(t *testing.T) {
	r := rand.New(rand.NewSource(48))
	count := map[int]int{}
	for range 6000 {
		a := randomAction(r)
		if r.Intn(4) == 0 {
			a = upright()
			a.Leads = randomLeads(r, 8)
		}
		holes := randomLeads(r, 6)
		touch, e := action.Touch(a, whole(0))
		if e != api.OK {
			continue
		}
		// A window that leads may bring the touch into.
		by := among(r, -150, 500)
		w := api.TouchWindow{Down: touch[0].Num/touch[0].Den - by, Up: touch[1].Num/touch[1].Den - by - among(r, 0, 30)}
		if max(w.Down, -w.Down, w.Up, -w.Up) > 100000 {
			continue
		}
		want, found := leadsBy(a, holes, w)
		wantError := api.OK
		if !found {
			wantError = api.ErrNone
		}
		l, e := action.ChooseLeads(a, holes, w)
		if !slices.Equal(l, want) || e != wantError {
			t.Errorf("ChooseLeads(%v, %v, %v) = %v, %v, want %v, %v", a, holes, w, l, e, want, wantError)
		}
		if e != api.OK {
			count[-1]++
			continue
		}
		count[len(l)]++
	}
	if slices.Min([]int{count[-1], count[0], count[1], count[2], count[3]}) < 20 {
		t.Errorf("too few cases: %v", count)
	}
}
