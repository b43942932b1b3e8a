package action_test

import (
	"math/rand"
	"slices"
	"testing"

	"agraffe/action"
	"agraffe/api"
)

// less says whether a fraction is less than another one.
func less(a, b api.Frac) bool { return ratOf(a).Cmp(ratOf(b)) < 0 }

func TestP4_10_ValuesOfCompositions(t *testing.T) {
	r := rand.New(rand.NewSource(410))
	for range 3000 {
		outer, inner := randomCurve(r, 5, 9, 1, 2), randomCurve(r, 5, 9, 1, 2)
		both, e := action.Compose(outer, inner)
		if e != api.OK {
			t.Fatalf("Compose(%v, %v): %v", outer, inner, e)
		}
		// At places between, and at all corners.
		x := []api.Frac{randomFrac(r, 12, 1, 3), randomFrac(r, 12, 1, 3), whole(-1000), whole(1000)}
		for _, k := range slices.Concat(outer.Corners, inner.Corners, both.Corners) {
			x = append(x, k.X)
		}
		for _, x := range x {
			y, _ := action.Value(inner, x)
			want, _ := action.Value(outer, y)
			f, e := action.Value(both, x)
			wanted(t, "the value of a curve of a curve", f, e, want, api.OK)
		}
	}
}

func TestP4_10_Associative(t *testing.T) {
	r := rand.New(rand.NewSource(411))
	for range 1000 {
		a, b, c := randomCurve(r, 4, 5, 1, 2), randomCurve(r, 4, 5, 1, 2), randomCurve(r, 4, 5, 1, 2)
		ab, e := action.Compose(a, b)
		bc, f := action.Compose(b, c)
		left, g := action.Compose(ab, c)
		right, h := action.Compose(a, bc)
		if e != api.OK || f != api.OK || g != api.OK || h != api.OK {
			t.Fatalf("Compose of %v, %v, %v: %v, %v, %v, %v", a, b, c, e, f, g, h)
		}
		for range 10 {
			x := randomFrac(r, 6, 1, 2, 3)
			y, _ := action.Value(left, x)
			z, e := action.Value(right, x)
			wanted(t, "the value of three curves", z, e, y, api.OK)
		}
	}
}

func TestP4_10_TheDipChangesNothing(t *testing.T) {
	r := rand.New(rand.NewSource(412))
	for range 1000 {
		c := randomCurve(r, 6, 9, 1, 2, 3)
		for i := range c.Corners {
			if y := &c.Corners[i].Y; y.Num < 0 {
				y.Num = -y.Num
			}
		}
		if action.CheckCurve(c) != api.OK {
			continue
		}
		if same, e := action.Compose(curve(0, 0, 9, 9), c); !sameCurve(same, c) || e != api.OK {
			t.Errorf("Compose with (0, 0), (9, 9) of %v = %v, %v", c, same, e)
		}
	}
}

func TestP4_11_Reach(t *testing.T) {
	r := rand.New(rand.NewSource(413))
	reached := 0
	for range 5000 {
		c, level, falling := randomCurve(r, 6, 9, 1, 2, 3), randomFrac(r, 9, 1, 2), r.Intn(2) == 0
		x, e := action.Reach(c, level, falling)
		first := c.Corners[0].X
		there := func(x api.Frac) bool {
			y, e := action.Value(c, x)
			if e != api.OK {
				t.Fatalf("Value(%v, %v): %v", c, x, e)
			}
			return !less(y, level) && !falling || !less(level, y) && falling
		}
		if e == api.OK {
			reached++
			if y, e := action.Value(c, x); e != api.OK || !there(x) || x != first && y != level {
				t.Errorf("the value at %v is %v, %v; %v was to be reached", x, y, e, level)
			}
		} else if e != api.ErrNone {
			t.Fatalf("Reach(%v, %v): %v", c, level, e)
		}
		for range 10 {
			before := randomFrac(r, 9, 1, 2, 5)
			if !less(before, first) && (e == api.ErrNone || less(before, x)) && there(before) {
				t.Errorf("Reach(%v, %v, %v) = %v, %v, but it is so at %v", c, level, falling, x, e, before)
			}
		}
		// A greater level (falling: a lesser one) is not reached earlier.
		farther := api.Frac{Num: level.Num + level.Den, Den: level.Den}
		if falling {
			farther.Num = level.Num - level.Den
		}
		if later, f := action.Reach(c, farther, falling); f == api.OK && (e != api.OK || less(later, x)) {
			t.Errorf("Reach of %v is %v, %v, of %v %v", level, x, e, farther, later)
		}
	}
	if reached < 1000 {
		t.Errorf("too few cases: %d", reached)
	}
}

func TestP4_11_PositionsThatNeverFall(t *testing.T) {
	r := rand.New(rand.NewSource(414))
	for range 500 {
		a := chain(30, randomKnees(r, 30), randomKnees(r, 30), randomKnees(r, 30))
		for _, p := range a.Parts {
			var y []int
			for _, k := range p.Curve.Corners {
				y = append(y, k.Y.Num)
			}
			slices.Sort(y)
			for i := range y {
				p.Curve.Corners[i].Y = whole(y[i])
			}
		}
		for _, p := range a.Parts {
			last := whole(-1000)
			for dip := range 31 {
				position, e := action.Position(a, p.Name, whole(dip))
				if e == api.ErrLarge {
					break
				}
				if e != api.OK || less(position, last) {
					t.Fatalf("the position of %v at %d falls from %v to %v, %v", a, dip, last, position, e)
				}
				last = position
			}
		}
	}
}

func TestP4_12_Orders(t *testing.T) {
	r := rand.New(rand.NewSource(415))
	for range 2000 {
		a := randomAction(r)
		order, e := action.Order(a)
		if e != api.OK {
			continue
		}
		// What has happened is a beginning of the order, which grows with the dip.
		long := 0
		for i := range 5 {
			l, e := action.Happened(a, whole(i*a.Dip/4))
			if e != api.OK || len(l) < long || !slices.Equal(l, order[:len(l)]) {
				t.Errorf("Happened up to %d of %v: %v, %v, behind %d", i*a.Dip/4, order, l, e, long)
			}
			long = len(l)
		}
		if long != len(order) {
			t.Errorf("%v: at the full dip %d events of %d", a, long, len(order))
		}
		// An order is accepted up to a gap, and with no greater one.
		r.Shuffle(len(order), func(i, j int) { order[i], order[j] = order[j], order[i] })
		order = order[:min(len(order), 2)]
		accepted := true
		for gap := range min(a.Dip+2, 2000) {
			_, e := action.CheckOrder(a, order, gap)
			if e != api.OK && e != api.ErrOrder || e == api.OK && !accepted {
				t.Errorf("CheckOrder(%v, %v, %d) = %v", a, order, gap, e)
			}
			accepted = e == api.OK
		}
	}
}

func TestP4_12_Touch(t *testing.T) {
	r := rand.New(rand.NewSource(416))
	compared := 0
	for range 3000 {
		a := randomAction(r)
		dip := randomDip(r, a)
		balance, e := action.Balance(a, dip)
		touch, f := action.Touch(a, dip)
		if e != api.OK || f != api.OK {
			continue
		}
		var s steps
		if s.add(ratOf(touch[0]), ratOf(touch[1])).Cmp(s.mul(rat(2), ratOf(balance))) != 0 || less(touch[0], touch[1]) {
			t.Errorf("the balance %v is not the middle of %v", balance, touch)
		}
		for _, place := range []int{1, 500, 1000, 0, -1, -1000} {
			with := a
			with.Leads = append(slices.Clone(a.Leads), api.Lead{Weight: among(r, 1, 5000), Place: place})
			leaded, e := action.Touch(with, dip)
			if e == api.ErrLarge {
				continue
			}
			compared++
			lesser := less(leaded[0], touch[0]) && less(leaded[1], touch[1])
			greater := less(touch[0], leaded[0]) && less(touch[1], leaded[1])
			if e != api.OK || lesser != (place > 0) || greater != (place < 0) || place == 0 && leaded != touch {
				t.Errorf("a lead at %d brings %v to %v, %v", place, touch, leaded, e)
			}
		}
	}
	if compared < 5000 {
		t.Errorf("too few cases: %d", compared)
	}
}
