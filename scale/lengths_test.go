package scale_test

import (
	"math"
	"math/rand"
	"slices"
	"testing"

	"agraffe/api"
	"agraffe/number"
	"agraffe/scale"
)

func exampleLengths() []api.Range { return []api.Range{span(1000, 2000), span(1500, 1800)} }

// sameSpans returns a range so many times.
func sameSpans(n int, r api.Range) []api.Range { return slices.Repeat([]api.Range{r}, n) }

// invalidLengths are ranges and drops with the error of LengthSystem.
var invalidLengths = []struct {
	bounds []api.Range
	drop   api.Range
	want   api.Errno
}{
	{sameSpans(51, span(1000, 2000)), span(0, 0), api.ErrLarge},
	{make([]api.Range, 51), span(1, 0), api.ErrLarge},
	{[]api.Range{span(999, 2000)}, span(0, 0), api.ErrRange},
	{[]api.Range{span(1000, 300001)}, span(0, 0), api.ErrRange},
	{[]api.Range{span(2000, 1999)}, span(0, 0), api.ErrRange},
	{[]api.Range{span(1000, 2000), span(0, 0)}, span(0, 0), api.ErrRange},
	{[]api.Range{span(1000, 2000), span(math.MinInt, 2000)}, span(0, 0), api.ErrRange},
	{[]api.Range{span(1000, math.MaxInt), span(1000, 2000)}, span(0, 0), api.ErrRange},
	{[]api.Range{span(300001, 300001)}, span(0, 0), api.ErrRange},
	{exampleLengths(), span(1, 0), api.ErrRange},
	{exampleLengths(), span(-300001, 0), api.ErrRange},
	{exampleLengths(), span(0, 300001), api.ErrRange},
	{exampleLengths(), span(math.MinInt, math.MaxInt), api.ErrRange},
	{exampleLengths(), span(math.MaxInt, math.MinInt), api.ErrRange},
	{nil, span(1, 0), api.ErrRange},
	{nil, span(300001, 300001), api.ErrRange},
	{exampleLengths()[:1], span(-300001, -300001), api.ErrRange},
}

func TestP2_6_ErrorsOfArguments(t *testing.T) {
	for _, c := range invalidLengths {
		if l, e := scale.LengthSystem(c.bounds, c.drop); len(l) != 0 || e != c.want {
			t.Errorf("LengthSystem(%v, %v) = %v, %v, want %v", c.bounds, c.drop, l, e, c.want)
		}
		if l, circle, e := scale.SmoothLengths(c.bounds, c.drop); len(l) != 0 || len(circle) != 0 || e != c.want {
			t.Errorf("SmoothLengths(%v, %v) = %v, %v, %v, want %v", c.bounds, c.drop, l, circle, e, c.want)
		}
	}
}

func TestP2_6_LengthSystem(t *testing.T) {
	bound := func(from, to, most int) api.Bound { return api.Bound{From: from, To: to, Most: most} }
	for _, c := range []struct {
		bounds []api.Range
		drop   api.Range
		want   []api.Bound
	}{
		{nil, span(0, 0), nil},
		{[]api.Range{span(1000, 300000)}, span(-300000, 300000), []api.Bound{bound(1, 0, 300000), bound(0, 1, -1000)}},
		{exampleLengths(), span(600, 700), []api.Bound{bound(2, 0, 2000), bound(0, 2, -1000), bound(2, 1, 1800), bound(1, 2, -1500), bound(0, 1, -600), bound(1, 0, 700)}},
		{append(exampleLengths(), span(1200, 1300)), span(-5, 7), []api.Bound{bound(3, 0, 2000), bound(0, 3, -1000), bound(3, 1, 1800), bound(1, 3, -1500), bound(3, 2, 1300), bound(2, 3, -1200),
			bound(0, 1, 5), bound(1, 0, 7), bound(1, 2, 5), bound(2, 1, 7)}},
	} {
		if l, e := scale.LengthSystem(c.bounds, c.drop); !slices.Equal(l, c.want) || e != api.OK {
			t.Errorf("LengthSystem(%v, %v) = %v, %v, want %v", c.bounds, c.drop, l, e, c.want)
		}
	}
	if l, e := scale.LengthSystem(sameSpans(50, span(300000, 300000)), span(-300000, -300000)); len(l) != 198 || e != api.OK {
		t.Errorf("LengthSystem of 50 lengths: %d bounds, %v", len(l), e)
	}
}

func TestP2_6_SmoothLengths(t *testing.T) {
	fifty := make([]int, 50)
	for i := range fifty {
		fifty[i] = 300000 - 100*i
	}
	for _, c := range []struct {
		bounds []api.Range
		drop   api.Range
		want   []int
	}{
		{nil, span(0, 0), nil},
		{exampleLengths(), span(0, 100), []int{1900, 1800}},
		{exampleLengths(), span(-100, 0), []int{1800, 1800}},
		{exampleLengths(), span(100, 500), []int{2000, 1800}},
		{exampleLengths(), span(300, 500), []int{2000, 1700}},
		{exampleLengths(), span(500, 500), []int{2000, 1500}},
		{exampleLengths(), span(-300000, 300000), []int{2000, 1800}},
		{exampleLengths(), span(-800, -800), []int{1000, 1800}},
		{[]api.Range{span(1000, 300000)}, span(300000, 300000), []int{300000}},
		{[]api.Range{span(1000, 1000)}, span(-300000, -300000), []int{1000}},
		{[]api.Range{span(1000, 300000), span(1000, 300000), span(1000, 1200)}, span(10, 20), []int{1240, 1220, 1200}},
		{[]api.Range{span(1000, 1200), span(1000, 300000), span(1000, 300000)}, span(10, 20), []int{1200, 1190, 1180}},
		{sameSpans(50, span(1000, 300000)), span(100, 200), fifty},
	} {
		if l, circle, e := scale.SmoothLengths(c.bounds, c.drop); !slices.Equal(l, c.want) || len(circle) != 0 || e != api.OK {
			t.Errorf("SmoothLengths(%v, %v) = %v, %v, %v, want %v", c.bounds, c.drop, l, circle, e, c.want)
		}
	}
}

// proved says whether a circle is accepted for the length system.
func proved(bounds []api.Range, drop api.Range, circle []int) bool {
	system, e := scale.LengthSystem(bounds, drop)
	if e != api.OK {
		return false
	}
	_, e = number.CheckCircle(len(bounds)+1, system, circle)
	return e == api.OK
}

func TestP2_6_Circles(t *testing.T) {
	for _, c := range []struct {
		bounds []api.Range
		drop   api.Range
	}{
		{exampleLengths(), span(600, 700)},
		{exampleLengths(), span(501, 501)},
		{exampleLengths(), span(-900, -801)},
		{exampleLengths(), span(300000, 300000)},
		{exampleLengths(), span(-300000, -300000)},
		{sameSpans(50, span(1000, 300000)), span(6103, 300000)},
		{sameSpans(50, span(1000, 300000)), span(-300000, -6103)},
		{append(sameSpans(49, span(1000, 300000)), span(1000, 1001)), span(0, 0)},
	} {
		l, circle, e := scale.SmoothLengths(c.bounds, c.drop)
		if last := c.bounds[len(c.bounds)-1]; last.Hi == 1001 {
			if want := slices.Repeat([]int{1001}, 50); !slices.Equal(l, want) || e != api.OK {
				t.Errorf("SmoothLengths(%v, %v) = %v, %v", c.bounds, c.drop, l, e)
			}
			continue
		}
		if len(l) != 0 || e != api.ErrCycle || !proved(c.bounds, c.drop, circle) {
			t.Errorf("SmoothLengths(%v, %v) = %v, %v, %v", c.bounds, c.drop, l, circle, e)
		}
	}
}

// greatestOf returns the greatest lengths, each one the greatest of all solutions, or nothing if there is no solution. It tries them all.
func greatestOf(bounds []api.Range, drop api.Range) []int {
	var most []int
	var extend func(l []int)
	extend = func(l []int) {
		i := len(l)
		if i == len(bounds) {
			if most == nil {
				most = slices.Clone(l)
			}
			for j, n := range l {
				most[j] = max(most[j], n)
			}
			return
		}
		for n := bounds[i].Lo; n <= bounds[i].Hi; n++ {
			if i == 0 || l[i-1]-n >= drop.Lo && l[i-1]-n <= drop.Hi {
				extend(append(slices.Clone(l), n))
			}
		}
	}
	extend(nil)
	return most
}

func TestP2_6_SmoothLengthsAgainstAll(t *testing.T) {
	r := rand.New(rand.NewSource(9))
	solved, refused := 0, 0
	for range 2000 {
		bounds := make([]api.Range, among(r, 1, 4))
		for i := range bounds {
			bounds[i].Lo = among(r, 1000, 1010)
			bounds[i].Hi = bounds[i].Lo + among(r, 0, 8)
		}
		drop := span(among(r, -4, 4), 0)
		drop.Hi = drop.Lo + among(r, 0, 3)
		want := greatestOf(bounds, drop)
		l, circle, e := scale.SmoothLengths(bounds, drop)
		if want == nil {
			refused++
			if len(l) != 0 || e != api.ErrCycle || !proved(bounds, drop, circle) {
				t.Errorf("SmoothLengths(%v, %v) = %v, %v, %v, want ErrCycle", bounds, drop, l, circle, e)
			}
			continue
		}
		solved++
		if !slices.Equal(l, want) || len(circle) != 0 || e != api.OK {
			t.Errorf("SmoothLengths(%v, %v) = %v, %v, %v, want %v", bounds, drop, l, circle, e, want)
		}
	}
	if solved < 300 || refused < 300 {
		t.Errorf("%d are solved, %d are refused", solved, refused)
	}
}
