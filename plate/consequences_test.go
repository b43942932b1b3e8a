package plate_test

import (
	"math/big"
	"math/rand"
	"testing"

	"agraffe/api"
	"agraffe/plate"
)

func TestP3_8_MovesAndMoments(t *testing.T) {
	r := rand.New(rand.NewSource(10))
	for range 300 {
		l := randomForces(r, 8)
		for i := range l {
			l[i].At = randomPlace(r, 500000)
		}
		p := randomPlace(r, 500000)
		sum, _ := plate.Sum(l)
		moved, e := plate.Move(l, p)
		if e != api.OK || len(moved) != len(l) {
			t.Fatalf("Move(%v, %v) = %v, %v", l, p, moved, e)
		}
		if again, e := plate.Sum(moved); again != sum || e != api.OK {
			t.Errorf("the sum %v changes by a move to %v", sum, again)
		}
		here, _ := plate.Moment(l, [3]int{})
		there, _ := plate.Moment(l, p)
		part := turn(p, [3]int{}, sum)
		if there != [3]int{here[0] - part[0], here[1] - part[1], here[2] - part[2]} {
			t.Errorf("the moment of %v about %v is %v, about 0 %v", l, p, there, here)
		}
		// Moved together with the place, the moment stays.
		if with, e := plate.Moment(moved, p); with != here || e != api.OK {
			t.Errorf("the moment %v changes by a move to %v", here, with)
		}
	}
}

func TestP3_8_Balance(t *testing.T) {
	r := rand.New(rand.NewSource(11))
	for range 300 {
		var l []api.Pulled
		for range r.Intn(5) {
			l = append(l, api.Pulled{At: randomPlace(r, 1000), Force: randomPlace(r, 100000)})
		}
		at := randomPlace(r, 1000)
		x, needed, e := plate.Balance(l, at)
		if e != api.OK || x.At != at {
			t.Fatalf("Balance(%v, %v) = %v, %v, %v", l, at, x, needed, e)
		}
		whole := append(l, x)
		if sum, e := plate.Sum(whole); sum != [3]int{} || e != api.OK {
			t.Errorf("Sum with the balancing force = %v, %v", sum, e)
		}
		// A sum of 0 has the same moment about each place: the one that is still to be balanced.
		for _, p := range [][3]int{{}, at, randomPlace(r, 1000000)} {
			if m, e := plate.Moment(whole, p); m != [3]int{-needed[0], -needed[1], -needed[2]} || e != api.OK {
				t.Errorf("Moment about %v = %v, %v, needed %v", p, m, e, needed)
			}
		}
		is, e := plate.Balanced(whole)
		if is != (needed == [3]int{}) || e != api.OK {
			t.Errorf("Balanced(%v) = %v, %v, needed %v", whole, is, e, needed)
		}
	}
}

// TestP3_8_BalancedForces balances pairs along a line, and adds a pair of forces that turns for the moment that is left.
func TestP3_8_BalancedForces(t *testing.T) {
	r := rand.New(rand.NewSource(12))
	for range 200 {
		var l []api.Pulled
		for range 1 + r.Intn(4) {
			at, f, far := randomPlace(r, 1000), randomPlace(r, 1000), among(r, -500, 500)
			l = append(l, api.Pulled{At: at, Force: f}, api.Pulled{At: [3]int{at[0] + far*f[0], at[1] + far*f[1], at[2] + far*f[2]}, Force: [3]int{-f[0], -f[1], -f[2]}})
		}
		if is, e := plate.Balanced(l); !is || e != api.OK {
			t.Fatalf("Balanced(%v) = %v, %v", l, is, e)
		}
		p := randomPlace(r, 1000000)
		if m, e := plate.Moment(l, p); m != [3]int{} || e != api.OK {
			t.Errorf("Moment(%v, %v) = %v, %v", l, p, m, e)
		}
		for i := range 3 {
			l[0].Force[i]++
			if is, e := plate.Balanced(l); is || e != api.OK {
				t.Errorf("Balanced(%v) = %v, %v", l, is, e)
			}
			l[0].Force[i]--
		}
	}
}

func TestP3_9_LeverRule(t *testing.T) {
	r := rand.New(rand.NewSource(13))
	for range 1000 {
		at := randomBars(r)
		loads := randomLoads(r, at[0], at[len(at)-1], at...)
		bars, e := plate.Distribute(at, loads)
		if e != api.OK || len(bars) != len(at) {
			t.Fatalf("Distribute(%v, %v) = %v, %v", at, loads, bars, e)
		}
		for _, about := range []int{0, at[0], among(r, -100000, 100000)} {
			left, turning := rat(0), rat(0)
			for i, f := range bars {
				left = add(left, ratOf(f))
				turning = add(turning, times(ratOf(f), rat(at[i]-about)))
			}
			for _, load := range loads {
				left = add(left, rat(-load[1]))
				turning = add(turning, times(rat(-load[1]), rat(load[0]-about)))
			}
			if left.Sign() != 0 || turning.Sign() != 0 {
				t.Errorf("Distribute(%v, %v) = %v: sums %v, moments %v", at, loads, bars, left, turning)
			}
		}
		for _, f := range bars {
			if f.Den < 1 || new(big.Int).GCD(nil, nil, new(big.Int).Abs(big.NewInt(int64(f.Num))), big.NewInt(int64(f.Den))).Int64() != 1 {
				t.Errorf("%v is not in lowest terms", f)
			}
		}
	}
}

func TestP3_9_Girders(t *testing.T) {
	r := rand.New(rand.NewSource(14))
	for range 500 {
		g := randomGirder(r)
		l := randomLoads(r, g.A, g.B, g.A, g.B, (g.A+g.B)/2)
		reactions, _ := plate.Reactions(g, l)
		bars, _ := plate.Distribute([]int{g.A, g.B}, l)
		if reactions != [2]api.Frac(bars) {
			t.Errorf("Reactions(%v, %v) = %v, but bars %v", g, l, reactions, bars)
		}
		bendingAt := func(l [][2]int, x int) api.Frac {
			f, e := plate.Bending(g, l, x)
			if e != api.OK {
				t.Errorf("Bending(%v, %v, %v): %v", g, l, x, e)
			}
			return f
		}
		if a, b := bendingAt(l, g.A), bendingAt(l, g.B); a != frac(0, 1) || b != frac(0, 1) {
			t.Errorf("the bending of %v with %v is %v and %v at the supports", g, l, a, b)
		}
		other := make([][2]int, len(l))
		for i, j := range r.Perm(len(l)) {
			other[i] = l[j]
		}
		x := among(r, g.A, g.B)
		if a, b := bendingAt(l, x), bendingAt(other, x); a != b {
			t.Errorf("the bending depends on the order of %v: %v, %v", l, a, b)
		}
		at, most, _ := plate.Worst(g, l)
		if at2, most2, e := plate.Worst(g, other); at != at2 || most != most2 || e != api.OK {
			t.Errorf("Worst depends on the order of %v", l)
		}
		// From a place up to the next load the bending changes by the shear force times the way.
		next := g.B
		for _, load := range l {
			if load[0] > x {
				next = min(next, load[0])
			}
		}
		shear, _ := plate.Shear(g, l, x)
		if want := add(ratOf(bendingAt(l, x)), times(ratOf(shear), rat(next-x))); fracOf(want) != bendingAt(l, next) {
			t.Errorf("the bending of %v with %v changes from %v to %v by another amount than %v", g, l, x, next, shear)
		}
	}
}

func TestP3_9_HigherBridges(t *testing.T) {
	r := rand.New(rand.NewSource(15))
	for range 1000 {
		b, tension := randomBearing(r), among(r, 0, 10000000)
		b.Bridge = min(b.Bridge, 9999)
		higher := b
		higher.Bridge = among(r, b.Bridge+1, 10000)
		x, _ := plate.DownBearing(b, tension)
		y, _ := plate.DownBearing(higher, tension)
		if ratOf(x).Cmp(ratOf(y)) > 0 || tension > 0 && x == y {
			t.Errorf("%v bears %v, %v bears %v", b, x, higher, y)
		}
	}
}

func TestP3_9_PullsEncloseAndReverse(t *testing.T) {
	r := rand.New(rand.NewSource(16))
	for range 2000 {
		from, to := randomPlace(r, 500000), randomPlace(r, 500000)
		if from == to {
			continue
		}
		lo := among(r, 0, 10000000000>>r.Intn(34))
		tension := span(lo, min(10000000000, lo+r.Intn(1000)))
		pull, e := plate.PullOf(tension, from, to)
		back, f := plate.PullOf(tension, to, from)
		if e != api.OK || f != api.OK {
			t.Fatalf("PullOf(%v, %v, %v): %v, %v", tension, from, to, e, f)
		}
		square := rat(0)
		for i := range 3 {
			square = add(square, times(rat(to[i]-from[i]), rat(to[i]-from[i])))
		}
		for i := range 3 {
			if back[i] != span(-pull[i].Hi, -pull[i].Lo) {
				t.Errorf("PullOf(%v, %v, %v) = %v, back %v", tension, from, to, pull, back)
			}
			// Of two numbers without signs the squares are in the same order: bound^2 |d|^2 and (T d)^2.
			d, low, high := to[i]-from[i], pull[i].Lo, pull[i].Hi
			if d < 0 {
				d, low, high = -d, -high, -low
			}
			above := times(rat(high), rat(high), square).Cmp(times(rat(tension.Hi), rat(tension.Hi), rat(d), rat(d)))
			below := times(rat(low), rat(low), square).Cmp(times(rat(tension.Lo), rat(tension.Lo), rat(d), rat(d)))
			if low < 0 || above < 0 || below > 0 {
				t.Errorf("PullOf(%v, %v, %v) = %v encloses too little", tension, from, to, pull)
			}
		}
	}
}
