package plate_test

import (
	"math/rand"
	"slices"
	"strings"
	"testing"

	"agraffe/api"
	"agraffe/plate"
)

// anyOf hands on numbers at and beyond all limits, and values that are built of them.
type anyOf struct{ r *rand.Rand }

func (a anyOf) number() int { return extremes[a.r.Intn(len(extremes))] }

// near returns a right number most of the time.
func (a anyOf) near(right int) int {
	if a.r.Intn(12) == 0 {
		return a.number()
	}
	return right
}

func (a anyOf) place() [3]int {
	return [3]int{a.near(among(a.r, -3, 3)), a.near(a.r.Intn(400000)), a.near(0)}
}

func (a anyOf) span() api.Range { return span(a.near(5000), a.near(440000)) }

func (a anyOf) forces() []api.Pulled {
	l := make([]api.Pulled, a.r.Intn(4))
	for i := range l {
		l[i] = api.Pulled{At: a.place(), Force: a.place()}
	}
	return l
}

func (a anyOf) bars() []int {
	l := make([]int, a.r.Intn(5))
	for i := range l {
		l[i] = a.near(100 * i)
	}
	return l
}

func (a anyOf) loads() [][2]int {
	l := make([][2]int, a.r.Intn(4))
	for i := range l {
		l[i] = [2]int{a.near(a.r.Intn(101)), a.near(50)}
	}
	return l
}

func (a anyOf) girder() api.Girder {
	return api.Girder{A: a.near(0), B: a.near(100), Most: a.near(800)}
}

func (a anyOf) bearing() api.Bearing {
	return api.Bearing{Front: a.near(0), Bridge: a.near(100), Back: a.near(0), Ahead: a.near(10000), Behind: a.near(5000)}
}

// TestP3_NoPanic calls every function with numbers at and beyond all limits (R2).
func TestP3_NoPanic(t *testing.T) {
	a := anyOf{rand.New(rand.NewSource(17))}
	for range 20000 {
		forces, bars, loads, girder, bearing, n := a.forces(), a.bars(), a.loads(), a.girder(), a.bearing(), a.near(50)
		plate.PullOf(a.span(), a.place(), a.place())
		plate.CheckForces(forces)
		plate.Sum(forces)
		plate.Moment(forces, a.place())
		plate.Balanced(forces)
		plate.Balance(forces, a.place())
		plate.Move(forces, [3]int{a.number(), a.near(0), a.near(1)})
		plate.CheckBars(bars)
		plate.Distribute(bars, loads)
		plate.CheckGirder(girder)
		plate.Reactions(girder, loads)
		plate.Shear(girder, loads, n)
		plate.Bending(girder, loads, n)
		plate.Worst(girder, loads)
		plate.Holds(girder, loads)
		plate.CheckBearing(bearing)
		plate.DownBearing(bearing, a.near(70000))
		plate.BridgeLoad([]api.Bearing{bearing, a.bearing()}, []api.Range{a.span(), a.span()}[:a.near(2)&1+1])
		plate.LeastHeight(bearing, a.near(70000), a.near(1050))
		plate.Margin(frac(a.number(), a.near(1)), frac(a.near(3), a.number()))
		text, _ := plate.Print(forces)
		plate.Parse(text)
		plate.Parse(text[a.r.Intn(len(text)+1):])
	}
	for _, text := range []string{"\xff\n", "force \xff 1 1 1 1 1\n", strings.Repeat(" ", 60000), strings.Repeat(" ", 59999) + "\n", strings.Repeat("\n", 60000)} {
		plate.Parse(text)
	}
}

// TestP3_ArgumentsStay checks that no function writes into its arguments (R3).
func TestP3_ArgumentsStay(t *testing.T) {
	forces, bars, loads := turning(), []int{0, 20, 100}, [][2]int{{60, 30}, {20, 10}, {100, 5}}
	bearings, tensions := []api.Bearing{exampleBearing(), {Front: 3, Ahead: 7, Behind: 7}}, []api.Range{exact(70000), span(1, 2)}
	at := [3]int{1, 2, 3}
	plate.CheckForces(forces)
	plate.Sum(forces)
	plate.Moment(forces, at)
	plate.Balanced(forces)
	plate.Balance(forces, at)
	plate.Move(forces, at)
	plate.Print(forces)
	plate.CheckBars(bars)
	plate.Distribute(bars, loads)
	plate.Reactions(exampleGirder(), loads)
	plate.Shear(exampleGirder(), loads, 50)
	plate.Bending(exampleGirder(), loads, 50)
	plate.Worst(exampleGirder(), loads)
	plate.Holds(exampleGirder(), loads)
	plate.BridgeLoad(bearings, tensions)
	if !slices.Equal(forces, turning()) || !slices.Equal(bars, []int{0, 20, 100}) || !slices.Equal(loads, [][2]int{{60, 30}, {20, 10}, {100, 5}}) {
		t.Error(forces, bars, loads)
	}
	if !slices.Equal(bearings, []api.Bearing{exampleBearing(), {Front: 3, Ahead: 7, Behind: 7}}) || !slices.Equal(tensions, []api.Range{exact(70000), span(1, 2)}) {
		t.Error(bearings, tensions)
	}
}

// TestP3_ResultsShareNothing checks that results share no memory with arguments or with later results (R3, R4).
func TestP3_ResultsShareNothing(t *testing.T) {
	forces := turning()
	for _, by := range [][3]int{{}, {1, 2, 3}} {
		moved, e := plate.Move(forces, by)
		if e != api.OK {
			t.Fatal(e)
		}
		moved[0], moved[1] = api.Pulled{}, api.Pulled{}
		_ = append(moved[:1], force(9, 9, 9, 9, 9, 9))
		if !slices.Equal(forces, turning()) {
			t.Errorf("Move shares memory: %v", forces)
		}
	}
	bars, loads := []int{0, 3}, [][2]int{{1, 10}}
	l, _ := plate.Distribute(bars, loads)
	l[0], l[1] = api.Frac{}, api.Frac{}
	if again, e := plate.Distribute(bars, loads); e != api.OK || !slices.Equal(again, []api.Frac{frac(20, 3), frac(10, 3)}) {
		t.Errorf("Distribute = %v, %v", again, e)
	}
	text, _ := plate.Print(forces)
	read, _, _ := plate.Parse(text)
	read[0] = api.Pulled{}
	if again, n, e := plate.Parse(text); n != 0 || e != api.OK || !slices.Equal(again, turning()) {
		t.Errorf("Parse = %v, %v, %v", again, n, e)
	}
}

// TestP3_NilIsEmpty checks that a nil list and an empty one are the same (R5).
func TestP3_NilIsEmpty(t *testing.T) {
	for _, l := range [][]api.Pulled{nil, {}} {
		if e := plate.CheckForces(l); e != api.OK {
			t.Error("CheckForces", e)
		}
		if is, e := plate.Balanced(l); !is || e != api.OK {
			t.Error("Balanced", is, e)
		}
		if x, m, e := plate.Balance(l, [3]int{1, 2, 3}); x != force(1, 2, 3, 0, 0, 0) || m != [3]int{} || e != api.OK {
			t.Error("Balance", x, m, e)
		}
		if moved, e := plate.Move(l, [3]int{1, 2, 3}); len(moved) != 0 || e != api.OK {
			t.Error("Move", moved, e)
		}
	}
	for _, l := range [][][2]int{nil, {}} {
		if at, f, e := plate.Worst(api.Girder{A: 3, B: 4}, l); at != 3 || f != frac(0, 1) || e != api.OK {
			t.Error("Worst", at, f, e)
		}
		if f, e := plate.Reactions(exampleGirder(), l); f != [2]api.Frac{frac(0, 1), frac(0, 1)} || e != api.OK {
			t.Error("Reactions", f, e)
		}
		if e := plate.Holds(api.Girder{A: 3, B: 4}, l); e != api.OK {
			t.Error("Holds", e)
		}
	}
	if x, e := plate.BridgeLoad(nil, []api.Range{}); x != (api.Range{}) || e != api.OK {
		t.Error("BridgeLoad", x, e)
	}
	if x, e := plate.BridgeLoad([]api.Bearing{}, nil); x != (api.Range{}) || e != api.OK {
		t.Error("BridgeLoad", x, e)
	}
}

// TestP3_LimitsAreIncluded checks that lists of the greatest lengths are taken (R7).
func TestP3_LimitsAreIncluded(t *testing.T) {
	if e := plate.CheckForces(repeated(300, force(1, 1, 1, 1, 1, 1))); e != api.OK {
		t.Error("CheckForces", e)
	}
	loads := repeated(100, [2]int{50, 1})
	if l, e := plate.Distribute([]int{0, 100}, loads); e != api.OK || !slices.Equal(l, []api.Frac{frac(50, 1), frac(50, 1)}) {
		t.Error("Distribute", l, e)
	}
	if f, e := plate.Bending(exampleGirder(), loads, 100); f != frac(0, 1) || e != api.OK {
		t.Error("Bending", f, e)
	}
	if l, e := plate.Distribute(ascending(20), [][2]int{{0, -1000000}, {190, 1000000}}); e != api.OK || l[0] != frac(-1000000, 1) || l[19] != frac(1000000, 1) {
		t.Error("Distribute", l, e)
	}
	if x, e := plate.BridgeLoad(repeated(300, exampleBearing()), repeated(300, exact(10000000))); x != exact(90000000) || e != api.OK {
		t.Error("BridgeLoad", x, e)
	}
}
