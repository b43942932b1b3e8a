package plate_test

import (
	"math"
	"math/rand"
	"testing"

	"agraffe/api"
	"agraffe/plate"
)

// wrongBearings are bearings with ErrRange.
func wrongBearings() []api.Bearing {
	var l []api.Bearing
	for _, n := range tooGreat(10000) {
		front, bridge, back := exampleBearing(), exampleBearing(), exampleBearing()
		front.Front, bridge.Bridge, back.Back = n, n, n
		l = append(l, front, bridge, back)
	}
	for _, n := range outside(1, 300000) {
		ahead, behind := exampleBearing(), exampleBearing()
		ahead.Ahead, behind.Behind = n, n
		l = append(l, ahead, behind)
	}
	return l
}

func TestP3_5_CheckBearing(t *testing.T) {
	for _, b := range wrongBearings() {
		if e := plate.CheckBearing(b); e != api.ErrRange {
			t.Errorf("CheckBearing(%v) = %v", b, e)
		}
	}
	for _, b := range []api.Bearing{exampleBearing(), {Ahead: 1, Behind: 1}, {Front: 10000, Bridge: 10000, Back: 10000, Ahead: 300000, Behind: 300000}, {Front: -10000, Bridge: -10000, Back: -10000, Ahead: 1, Behind: 300000}} {
		if e := plate.CheckBearing(b); e != api.OK {
			t.Errorf("CheckBearing(%v) = %v", b, e)
		}
	}
}

func TestP3_5_DownBearing(t *testing.T) {
	for _, c := range []struct {
		b       api.Bearing
		tension int
		want    api.Frac
	}{
		{exampleBearing(), 70000, frac(2100, 1)},
		{exampleBearing(), 0, frac(0, 1)},
		{exampleBearing(), 1, frac(3, 100)},
		{api.Bearing{Bridge: 1, Ahead: 3, Behind: 7}, 5, frac(50, 21)},
		{api.Bearing{Front: 3, Ahead: 7, Behind: 7}, 1, frac(-3, 7)},
		{api.Bearing{Back: 3, Ahead: 7, Behind: 5}, 2, frac(-6, 5)},
		{api.Bearing{Front: 2, Bridge: 1, Back: -1, Ahead: 7, Behind: 7}, 14, frac(2, 1)},
		{api.Bearing{Front: 5, Bridge: 5, Back: 5, Ahead: 7, Behind: 9}, 10000000, frac(0, 1)},
		{api.Bearing{Front: -10000, Bridge: 10000, Back: -10000, Ahead: 1, Behind: 1}, 10000000, frac(400000000000, 1)},
		{api.Bearing{Front: 10000, Bridge: -10000, Back: 10000, Ahead: 1, Behind: 300000}, 10000000, frac(-600002000000, 3)},
		// A denominator that is too great for package number.
		{api.Bearing{Bridge: 1, Ahead: 299993, Behind: 300000}, 1, frac(599993, 89997900000)},
	} {
		if f, e := plate.DownBearing(c.b, c.tension); f != c.want || e != api.OK {
			t.Errorf("DownBearing(%v, %v) = %v, %v, want %v", c.b, c.tension, f, e, c.want)
		}
	}
	for _, b := range wrongBearings() {
		for _, tension := range []int{5, -1, math.MaxInt} {
			if f, e := plate.DownBearing(b, tension); f != (api.Frac{}) || e != api.ErrRange {
				t.Errorf("DownBearing(%v, %v) = %v, %v", b, tension, f, e)
			}
		}
	}
	for _, tension := range outside(0, 10000000) {
		if f, e := plate.DownBearing(exampleBearing(), tension); f != (api.Frac{}) || e != api.ErrRange {
			t.Errorf("DownBearing of %v = %v, %v", tension, f, e)
		}
	}
	r := rand.New(rand.NewSource(5))
	for range 2000 {
		b, tension := randomBearing(r), among(r, 0, 10000000>>r.Intn(24))
		if f, e := plate.DownBearing(b, tension); f != fracOf(bearingBy(b, tension)) || e != api.OK {
			t.Errorf("DownBearing(%v, %v) = %v, %v, want %v", b, tension, f, e, bearingBy(b, tension))
		}
	}
}

func TestP3_5_BridgeLoad(t *testing.T) {
	low, high := api.Bearing{Front: 3, Ahead: 7, Behind: 7}, api.Bearing{Bridge: 1, Ahead: 3, Behind: 3}
	for _, c := range []struct {
		l        []api.Bearing
		tensions []api.Range
		want     api.Range
	}{
		{nil, nil, api.Range{}},
		{[]api.Bearing{}, []api.Range{}, api.Range{}},
		{[]api.Bearing{exampleBearing()}, []api.Range{exact(70000)}, exact(2100)},
		{[]api.Bearing{exampleBearing(), low}, []api.Range{exact(70000), span(1, 2)}, span(2099, 2100)},
		// Each one is rounded alone: 2/3 three times.
		{repeated(3, high), repeated(3, exact(1)), span(0, 3)},
		{repeated(3, high), repeated(3, span(1, 2)), span(0, 6)},
		{repeated(3, low), repeated(3, exact(1)), span(-3, 0)},
		// Pressed up, the greatest tension gives the least down-bearing.
		{[]api.Bearing{low}, []api.Range{span(7, 70)}, span(-30, -3)},
		{[]api.Bearing{low}, []api.Range{span(8, 69)}, span(-30, -3)},
		{[]api.Bearing{low}, []api.Range{span(0, 7)}, span(-3, 0)},
		{[]api.Bearing{high}, []api.Range{span(2, 4)}, span(1, 3)},
		{[]api.Bearing{{Ahead: 1, Behind: 1}}, []api.Range{span(2, 4)}, exact(0)},
		{repeated(300, api.Bearing{Front: -10000, Bridge: 10000, Back: -10000, Ahead: 1, Behind: 1}), repeated(300, span(0, 10000000)), span(0, 120000000000000)},
		{repeated(300, api.Bearing{Front: 10000, Bridge: -10000, Back: 10000, Ahead: 1, Behind: 1}), repeated(300, span(0, 10000000)), span(-120000000000000, 0)},
		{[]api.Bearing{{Front: 10000, Bridge: -10000, Back: 10000, Ahead: 300000, Behind: 300000}}, []api.Range{span(1, 10000000)}, span(-1333334, 0)},
	} {
		if x, e := plate.BridgeLoad(c.l, c.tensions); x != c.want || e != api.OK {
			t.Errorf("BridgeLoad(%v, %v) = %v, %v, want %v", c.l, c.tensions, x, e, c.want)
		}
	}
	r := rand.New(rand.NewSource(6))
	for range 1000 {
		var l []api.Bearing
		var tensions []api.Range
		var want api.Range
		for range r.Intn(6) {
			b, lo := randomBearing(r), among(r, 0, 10000000>>r.Intn(24))
			tension := span(lo, min(10000000, lo+r.Intn(3)*r.Intn(1000)))
			l, tensions = append(l, b), append(tensions, tension)
			x, y := bearingBy(b, tension.Lo), bearingBy(b, tension.Hi)
			if x.Cmp(y) > 0 {
				x, y = y, x
			}
			want = span(want.Lo+down(x), want.Hi+up(y))
		}
		if x, e := plate.BridgeLoad(l, tensions); x != want || e != api.OK {
			t.Errorf("BridgeLoad(%v, %v) = %v, %v, want %v", l, tensions, x, e, want)
		}
	}
}

func TestP3_5_BridgeLoadErrors(t *testing.T) {
	right, wrong := exampleBearing(), api.Bearing{}
	refused := func(l []api.Bearing, tensions []api.Range, want api.Errno) {
		t.Helper()
		if x, e := plate.BridgeLoad(l, tensions); x != (api.Range{}) || e != want {
			t.Errorf("BridgeLoad(%v, %v) = %v, %v, want %v", l, tensions, x, e, want)
		}
	}
	refused(repeated(301, right), repeated(301, exact(1)), api.ErrLarge)
	refused(repeated(301, wrong), repeated(301, exact(-1)), api.ErrLarge)
	refused(repeated(301, right), nil, api.ErrLarge)
	refused(repeated(300, right), repeated(301, exact(1)), api.ErrShape)
	refused([]api.Bearing{right}, nil, api.ErrShape)
	refused(nil, []api.Range{exact(1)}, api.ErrShape)
	refused([]api.Bearing{right, wrong}, []api.Range{exact(-1)}, api.ErrShape)
	refused([]api.Bearing{wrong}, []api.Range{exact(1), exact(1)}, api.ErrShape)
	for _, b := range wrongBearings() {
		refused([]api.Bearing{right, b}, repeated(2, exact(1)), api.ErrRange)
		refused([]api.Bearing{b, right}, repeated(2, exact(1)), api.ErrRange)
	}
	for _, tension := range []api.Range{exact(-1), span(-1, 5), span(2, 1), span(0, 10000001), exact(10000001), span(0, math.MaxInt), span(math.MinInt, 0), span(math.MaxInt, math.MinInt), span(0, -1)} {
		refused([]api.Bearing{right}, []api.Range{tension}, api.ErrRange)
		refused([]api.Bearing{right, right}, []api.Range{exact(1), tension}, api.ErrRange)
	}
}

func TestP3_5_LeastHeight(t *testing.T) {
	b := exampleBearing()
	uneven := api.Bearing{Front: 10000, Back: -10000, Ahead: 7, Behind: 300000}
	flat := api.Bearing{Ahead: 300000, Behind: 300000}
	for _, c := range []struct {
		b             api.Bearing
		tension, want int
		height        int
	}{
		{b, 70000, 1050, 50}, {b, 70000, 1051, 51}, {b, 70000, 1049, 50}, {b, 70000, 0, 0}, {b, 70000, 1, 1}, {b, 70000, -1, 0}, {b, 70000, -21, -1}, {b, 70000, -22, -1}, {b, 70000, -20, 0},
		{b, 0, 0, -10000}, {b, 0, -1, -10000}, {b, 0, -10000000, -10000},
		{b, 10000000, 10000000, 3334}, {b, 10000000, -10000000, -3333},
		// The ends of the heights.
		{flat, 300000, 20000, 10000}, {flat, 300000, 19999, 10000}, {flat, 300000, 19998, 9999}, {flat, 300000, -20000, -10000}, {flat, 300000, -19999, -9999}, {flat, 300000, -20001, -10000}, {flat, 300000, -10000000, -10000},
		{uneven, 21, 0, 10000}, {uneven, 21, 1, 10000}, {uneven, 21, -3, 9999},
	} {
		// The height of the bridge itself does not matter.
		for _, n := range []int{c.b.Bridge, -10000, 0, 10000} {
			c.b.Bridge = n
			if h, e := plate.LeastHeight(c.b, c.tension, c.want); h != c.height || e != api.OK {
				t.Errorf("LeastHeight(%v, %v, %v) = %v, %v, want %v", c.b, c.tension, c.want, h, e, c.height)
			}
		}
	}
	for _, c := range []struct {
		b             api.Bearing
		tension, want int
	}{{b, 0, 1}, {b, 0, 10000000}, {flat, 300000, 20001}, {flat, 1, 1}, {uneven, 1, 10000000}, {api.Bearing{Front: 10000, Back: 10000, Ahead: 1, Behind: 1}, 10000000, 1}} {
		if h, e := plate.LeastHeight(c.b, c.tension, c.want); h != 0 || e != api.ErrNone {
			t.Errorf("LeastHeight(%v, %v, %v) = %v, %v", c.b, c.tension, c.want, h, e)
		}
	}
}

func TestP3_5_LeastHeightErrors(t *testing.T) {
	refused := func(b api.Bearing, tension, want int) {
		t.Helper()
		if h, e := plate.LeastHeight(b, tension, want); h != 0 || e != api.ErrRange {
			t.Errorf("LeastHeight(%v, %v, %v) = %v, %v", b, tension, want, h, e)
		}
	}
	for _, b := range wrongBearings() {
		refused(b, 70000, 1050)
		refused(b, 0, 1)
	}
	for _, n := range outside(0, 10000000) {
		refused(exampleBearing(), n, 0)
		refused(exampleBearing(), n, 10000000)
	}
	for _, n := range tooGreat(10000000) {
		refused(exampleBearing(), 70000, n)
		refused(exampleBearing(), 0, n)
	}
}

func TestP3_5_LeastHeightByDefinition(t *testing.T) {
	r := rand.New(rand.NewSource(7))
	for range 2000 {
		b, tension, want := randomBearing(r), among(r, 0, 10000000>>r.Intn(24)), sized(r, 10000000)
		if r.Intn(3) == 0 { // a height that is reached
			want = max(-10000000, min(10000000, up(bearingBy(b, tension))-r.Intn(2)))
		}
		h, e := plate.LeastHeight(b, tension, want)
		if e == api.ErrNone {
			b.Bridge = 10000
			if h != 0 || bearingBy(b, tension).Cmp(rat(want)) >= 0 {
				t.Errorf("LeastHeight(%v, %v, %v) = %v, %v", b, tension, want, h, e)
			}
			continue
		}
		b.Bridge = h
		if e != api.OK || h < -10000 || h > 10000 || bearingBy(b, tension).Cmp(rat(want)) < 0 {
			t.Errorf("LeastHeight(%v, %v, %v) = %v, %v, too low", b, tension, want, h, e)
		}
		b.Bridge = h - 1
		if h > -10000 && bearingBy(b, tension).Cmp(rat(want)) >= 0 {
			t.Errorf("LeastHeight(%v, %v, %v) = %v, %v, too high", b, tension, want, h, e)
		}
	}
}

func TestP3_6_Margin(t *testing.T) {
	for _, c := range []struct {
		load, limit api.Frac
		want        int
	}{
		{frac(3, 2), frac(4, 1), 2666}, {frac(4, 1), frac(3, 2), 375}, {frac(1, 1), frac(0, 1), 0}, {frac(7, 3), frac(7, 3), 1000}, {frac(3, 1), frac(1, 1), 333}, {frac(3, 1), frac(2, 1), 666}, {frac(1001, 1), frac(1, 1), 0}, {frac(1000, 1), frac(1, 1), 1},
		{frac(1, 1000000), frac(1000000, 1), 1000000000000000}, {frac(1000000, 1), frac(1, 1000000), 0}, {frac(1000000, 999999), frac(999999, 1000000), 999}, {frac(999999, 1000000), frac(1000000, 999999), 1000},
	} {
		if n, e := plate.Margin(c.load, c.limit); n != c.want || e != api.OK {
			t.Errorf("Margin(%v, %v) = %v, %v, want %v", c.load, c.limit, n, e, c.want)
		}
	}
	r := rand.New(rand.NewSource(8))
	part := func(least int) api.Frac {
		return fracOf(rat(among(r, least, 1000000>>r.Intn(20)), among(r, 1, 1000000>>r.Intn(20))))
	}
	for range 2000 {
		load, limit := part(1), part(0)
		want := down(times(rat(1000), ratOf(limit), rat(load.Den, load.Num)))
		if n, e := plate.Margin(load, limit); n != want || e != api.OK {
			t.Errorf("Margin(%v, %v) = %v, %v, want %v", load, limit, n, e, want)
		}
	}
}

func TestP3_6_MarginErrors(t *testing.T) {
	formless := []api.Frac{{}, frac(2, 4), frac(0, 2), frac(0, -1), frac(1, 0), frac(1, -1), frac(-3, -2), frac(1000002, 2), frac(2000002, 2), frac(math.MinInt, math.MinInt), frac(math.MinInt, 2), frac(0, math.MaxInt), frac(math.MaxInt, math.MaxInt), frac(math.MinInt, 0), frac(7, math.MinInt)}
	outer := []api.Frac{frac(-1, 1), frac(-1, 2), frac(1000001, 1), frac(1, 1000001), frac(1000000007, 1), frac(1, 1000000007), frac(math.MaxInt, 1), frac(math.MinInt, 1), frac(1, math.MaxInt), frac(math.MinInt, math.MaxInt), frac(-5, 1000001)}
	refused := func(load, limit api.Frac, want api.Errno) {
		t.Helper()
		if n, e := plate.Margin(load, limit); n != 0 || e != want {
			t.Errorf("Margin(%v, %v) = %v, %v, want %v", load, limit, n, e, want)
		}
	}
	for _, x := range formless {
		refused(x, frac(1, 1), api.ErrForm)
		refused(frac(1, 1), x, api.ErrForm)
		refused(frac(0, 1), x, api.ErrForm)
		for _, y := range outer {
			refused(x, y, api.ErrForm)
			refused(y, x, api.ErrRange)
		}
	}
	for _, x := range outer {
		refused(x, frac(1, 1), api.ErrRange)
		refused(frac(1, 1), x, api.ErrRange)
		refused(frac(0, 1), x, api.ErrRange)
	}
	refused(frac(0, 1), frac(1, 1), api.ErrZero)
	refused(frac(0, 1), frac(0, 1), api.ErrZero)
}
