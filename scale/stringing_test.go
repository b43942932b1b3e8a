package scale_test

import (
	"math"
	"math/rand"
	"slices"
	"testing"

	"agraffe/api"
	"agraffe/number"
	"agraffe/scale"
)

// refusedStringing is a stringing with the results of CheckStringing.
type refusedStringing struct {
	s      api.Stringing
	unison int
	want   api.Errno
}

// changed returns the stringing of the examples with a third unison, of which one is changed.
func changed(unison int, change func(u *api.Unison)) api.Stringing {
	s := octaves(plain(40000, 1000), plain(20000, 1000), plain(10000, 1000))
	change(&s.Unisons[unison])
	return s
}

// invalidStringings returns stringings with their errors, by what is wrong with them.
func invalidStringings() map[string]refusedStringing {
	bad := map[string]refusedStringing{}
	for name, fork := range map[string]int{"low": 999, "high": 10000001, "0": 0, "least": math.MinInt, "greatest": math.MaxInt} {
		s := two()
		s.Fork = fork
		bad["fork "+name] = refusedStringing{s, 0, api.ErrRange}
		s.Wires = many(21)
		bad["fork "+name+", and too many wires"] = refusedStringing{s, 0, api.ErrRange}
	}
	for name, c := range invalidWires() {
		bad[name] = refusedStringing{api.Stringing{Fork: 440000, Wires: c.l, Unisons: make([]api.Unison, 91)}, 0, c.want}
		bad[name+", no unisons"] = refusedStringing{api.Stringing{Fork: 440000, Wires: c.l}, 0, c.want}
	}
	bad["91 unisons"] = refusedStringing{api.Stringing{Fork: 440000, Wires: both(), Unisons: make([]api.Unison, 91)}, 0, api.ErrLarge}
	for _, c := range invalidStrands {
		for i := range 3 {
			s := changed(i, func(u *api.Unison) { u.Strand = c.s })
			bad["strand"+strandName(c.s)+string(rune('0'+i))] = refusedStringing{s, i, c.want}
		}
	}
	add := func(name string, unison int, want api.Errno, change func(u *api.Unison)) {
		bad[name] = refusedStringing{changed(unison, change), unison, want}
	}
	iron := func(u *api.Unison) { u.Strand.Wire = "iron" }
	for name, p := range map[string]api.Pitch{"no denominator": {Two: 1}, "13": pitch(13, 0, 0, 13), "401": pitch(401, 0, 0, 12), "-401 of 3": pitch(0, -401, 0, 12), "401 of 5": pitch(0, 0, 401, 12), "least": pitch(math.MinInt, 0, 0, 1)} {
		add("pitch "+name, 1, api.ErrRange, func(u *api.Unison) { u.Pitch = p; iron(u) })
		add("pitch "+name+" at first", 0, api.ErrRange, func(u *api.Unison) { u.Pitch = p })
	}
	for name, n := range map[string]int{"0": 0, "5": 5, "-1": -1, "least": math.MinInt, "greatest": math.MaxInt} {
		add("count "+name, 2, api.ErrRange, func(u *api.Unison) { u.Count = n; iron(u) })
	}
	add("no wire, and a pitch that is too great", 2, api.ErrMissing, func(u *api.Unison) { u.Pitch = pitch(400, 0, 0, 1); iron(u) })
	add("a pitch that is too great", 2, api.ErrLarge, func(u *api.Unison) { u.Pitch = pitch(400, 0, 0, 1) })
	add("a frequency that is too great", 2, api.ErrRange, func(u *api.Unison) { u.Pitch = pitch(5, 0, 0, 1) })
	add("a frequency that may be 0", 0, api.ErrRange, func(u *api.Unison) { u.Pitch = pitch(-19, 0, 0, 1) })
	// The errors of enclosure and frequency come before that of the order.
	add("a frequency of 0, not above", 1, api.ErrRange, func(u *api.Unison) { u.Pitch = pitch(-400, -400, -400, 1) })
	add("a strand, not above", 1, api.ErrMissing, func(u *api.Unison) { u.Pitch = pitch(0, 0, 0, 1); iron(u) })
	for name, p := range map[string]api.Pitch{"equal": pitch(0, 0, 0, 1), "equal, of another form": pitch(0, 0, 0, 7), "below": pitch(-1, 0, 0, 12), "below by a comma": pitch(19, -12, 0, 1)} {
		add("order "+name, 1, api.ErrOrder, func(u *api.Unison) { u.Pitch = p })
	}
	add("order equal at last", 2, api.ErrOrder, func(u *api.Unison) { u.Pitch = pitch(12, 0, 0, 12) })
	first := changed(1, func(u *api.Unison) { u.Pitch = pitch(0, 0, 0, 1) })
	first.Unisons[2].Count = 0
	bad["two unisons, the first by its order"] = refusedStringing{first, 1, api.ErrOrder}
	return bad
}

// strandName returns a text that differs for any two strands of a table.
func strandName(s api.Strand) string {
	numbers := ""
	for _, n := range []int{s.Length, s.Core, s.Over} {
		numbers += " " + number.FormatFrac(api.Frac{Num: n, Den: 1})
	}
	return numbers + " " + s.Wire + " " + s.Wrap + " "
}

func TestP2_3_CheckStringing(t *testing.T) {
	for name, c := range invalidStringings() {
		if n, e := scale.CheckStringing(c.s); n != c.unison || e != c.want {
			t.Errorf("CheckStringing, %s: %v, %v, want %v, %v", name, n, e, c.unison, c.want)
		}
	}
	ninety := api.Stringing{Fork: 440000, Wires: both()}
	for i := range 90 {
		ninety.Unisons = append(ninety.Unisons, api.Unison{Pitch: pitch(i-48, 0, 0, 12), Count: 1 + i%4, Strand: plain(40000, 1000)})
	}
	high := api.Stringing{Fork: 10000000, Wires: both(), Unisons: []api.Unison{{Pitch: pitch(0, 0, 0, 1), Count: 1, Strand: plain(1000, 1000)}}}
	low := api.Stringing{Fork: 1000, Wires: both(), Unisons: []api.Unison{{Pitch: pitch(-9, 0, 0, 1), Count: 4, Strand: plain(1000, 1000)}}}
	near := two()
	near.Unisons[1].Pitch = pitch(-84, 53, 0, 1)
	for _, s := range []api.Stringing{{Fork: 1000}, {Fork: 10000000}, two(), ninety, high, low, near} {
		if n, e := scale.CheckStringing(s); n != 0 || e != api.OK {
			t.Errorf("CheckStringing(%v) = %v, %v", s, n, e)
		}
	}
	// A little above 10000000, and from 0 to 1.
	high.Unisons[0].Pitch = pitch(-84, 53, 0, 1)
	low.Unisons[0].Pitch = pitch(-10, 0, 0, 1)
	for _, s := range []api.Stringing{high, low} {
		if n, e := scale.CheckStringing(s); n != 0 || e != api.ErrRange {
			t.Errorf("CheckStringing(%v) = %v, %v", s, n, e)
		}
	}
	ninety.Unisons = append(ninety.Unisons, api.Unison{Pitch: pitch(43, 0, 0, 12), Count: 1, Strand: plain(40000, 1000)})
	if n, e := scale.CheckStringing(ninety); n != 0 || e != api.ErrLarge {
		t.Errorf("CheckStringing of 91 unisons: %v, %v", n, e)
	}
}

func TestP2_3_StrengthOfZero(t *testing.T) {
	s := two()
	s.Wires[0].Strength = 1
	s.Unisons[1].Strand.Core = 999
	if n, e := scale.CheckStringing(s); n != 1 || e != api.ErrZero {
		t.Errorf("CheckStringing = %v, %v", n, e)
	}
}

func TestP2_3_ErrorsOfArguments(t *testing.T) {
	for name, c := range invalidStringings() {
		for _, unison := range []int{0, -1, 99} {
			if f, e := scale.Frequency(c.s, unison); f != (api.Range{}) || e != c.want {
				t.Errorf("Frequency, %s: %v, %v, want %v", name, f, e, c.want)
			}
		}
		if l, e := scale.Tensions(c.s); len(l) != 0 || e != c.want {
			t.Errorf("Tensions, %s: %v, %v, want %v", name, l, e, c.want)
		}
		if x, e := scale.Total(c.s); x != (api.Range{}) || e != c.want {
			t.Errorf("Total, %s: %v, %v, want %v", name, x, e, c.want)
		}
	}
}

func TestP2_3_Frequency(t *testing.T) {
	s := two()
	for i, want := range []api.Range{span(440000, 440000), span(880000, 880000)} {
		if f, e := scale.Frequency(s, i); f != want || e != api.OK {
			t.Errorf("Frequency(%d) = %v, %v", i, f, e)
		}
	}
	for _, i := range []int{-1, 2, 3, math.MinInt, math.MaxInt} {
		if f, e := scale.Frequency(s, i); f != (api.Range{}) || e != api.ErrMissing {
			t.Errorf("Frequency(%d) = %v, %v", i, f, e)
		}
	}
	if _, e := scale.Frequency(api.Stringing{Fork: 440000}, 0); e != api.ErrMissing {
		t.Errorf("Frequency without unisons: %v", e)
	}
	s.Unisons[1].Pitch = pitch(3, 0, 0, 12)
	if f, e := scale.Frequency(s, 1); f != span(523251, 523252) || e != api.OK {
		t.Errorf("Frequency = %v, %v", f, e)
	}
	r := rand.New(rand.NewSource(2))
	for range 200 {
		s := randomStringing(r, 5)
		i := r.Intn(5)
		want, _ := number.Enclose(s.Unisons[i].Pitch, s.Fork)
		if f, e := scale.Frequency(s, i); f != want || e != api.OK {
			t.Errorf("Frequency(%v, %d) = %v, %v", s, i, f, e)
		}
	}
}

func TestP2_3_TensionsAndTotal(t *testing.T) {
	if l, e := scale.Tensions(two()); !slices.Equal(l, []api.Range{span(76389, 76390), span(76389, 76390)}) || e != api.OK {
		t.Errorf("Tensions = %v, %v", l, e)
	}
	if x, e := scale.Total(two()); x != span(458334, 458340) || e != api.OK {
		t.Errorf("Total = %v, %v", x, e)
	}
	empty := api.Stringing{Fork: 440000, Wires: both()}
	if l, e := scale.Tensions(empty); len(l) != 0 || e != api.OK {
		t.Errorf("Tensions = %v, %v", l, e)
	}
	if x, e := scale.Total(empty); x != (api.Range{}) || e != api.OK {
		t.Errorf("Total = %v, %v", x, e)
	}
	r := rand.New(rand.NewSource(3))
	for range 200 {
		s := randomStringing(r, among(r, 0, 8))
		var want []api.Range
		var total api.Range
		for _, u := range s.Unisons {
			f, _ := number.Enclose(u.Pitch, s.Fork)
			x := figuresOf(s.Wires, u.Strand, f).tension
			want = append(want, x)
			total.Lo += u.Count * x.Lo
			total.Hi += u.Count * x.Hi
		}
		if l, e := scale.Tensions(s); !slices.Equal(l, want) || e != api.OK {
			t.Errorf("Tensions(%v) = %v, %v, want %v", s, l, e, want)
		}
		if x, e := scale.Total(s); x != total || e != api.OK {
			t.Errorf("Total(%v) = %v, %v, want %v", s, x, e, total)
		}
	}
}
