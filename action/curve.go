package action

import (
	"slices"

	"agraffe/api"
)

// graph is a right curve with its slopes, one from each corner to the next one.
type graph struct {
	corners []api.Knee
	slopes  []api.Frac
}

// graphOf returns a curve with its slopes, or the error of CheckCurve.
func graphOf(c api.Curve) (graph, api.Errno) {
	if len(c.Corners) < 1 || len(c.Corners) > api.MaxCorners {
		return graph{}, api.ErrShape
	}
	g := graph{corners: c.Corners}
	for i, corner := range c.Corners {
		if e := checkFrac(corner.X); e != api.OK {
			return graph{}, e
		}
		if e := checkFrac(corner.Y); e != api.OK {
			return graph{}, e
		}
		if i == 0 {
			continue
		}
		slope, e := slopeBetween(c.Corners[i-1], corner)
		if e != api.OK {
			return graph{}, e
		}
		g.slopes = append(g.slopes, slope)
	}
	return g, api.OK
}

// slopeBetween returns the slope from a corner to the next one, or ErrOrder if it is not behind.
func slopeBetween(from, to api.Knee) (api.Frac, api.Errno) {
	if compare(to.X, from.X) <= 0 {
		return api.Frac{}, api.ErrOrder
	}
	var w way
	return w.result(w.over(w.less(to.Y, from.Y), w.less(to.X, from.X)))
}

// cornerAt returns the number of the last corner whose X is at most x, or -1.
func (g graph) cornerAt(x api.Frac) int {
	at := -1
	for at+1 < len(g.corners) && compare(g.corners[at+1].X, x) <= 0 {
		at++
	}
	return at
}

func (g graph) value(w *way, x api.Frac) api.Frac {
	at := g.cornerAt(x)
	if at < 0 {
		return g.corners[0].Y
	}
	corner := g.corners[at]
	if at == len(g.slopes) {
		return corner.Y
	}
	return w.plus(corner.Y, w.times(w.less(x, corner.X), g.slopes[at]))
}

func (g graph) slope(x api.Frac) api.Frac {
	at := g.cornerAt(x)
	if at < 0 || at == len(g.slopes) {
		return whole(0)
	}
	return g.slopes[at]
}

// meets returns the x at which a stretch that rises or falls has a value.
func (g graph) meets(w *way, stretch int, y api.Frac) api.Frac {
	begin := g.corners[stretch]
	return w.plus(begin.X, w.over(w.less(y, begin.Y), g.slopes[stretch]))
}

// reach returns the least x from the first corner on at which the value is at least (falling: at most) a level.
func (g graph) reach(level api.Frac, falling bool) (api.Frac, api.Errno) {
	reached := func(corner api.Knee) bool {
		side := compare(corner.Y, level)
		return side == 0 || (side < 0) == falling
	}
	end := slices.IndexFunc(g.corners, reached)
	if end < 0 {
		return api.Frac{}, api.ErrNone
	}
	if end == 0 {
		return g.corners[0].X, api.OK
	}
	var w way
	return w.result(g.meets(&w, end-1, level))
}

// added returns the corners that outer adds inside a stretch of inner.
func added(w *way, outer, inner graph, stretch int) []api.Knee {
	from, to := inner.corners[stretch].Y, inner.corners[stretch+1].Y
	falls := compare(from, to) > 0
	low, high := from, to
	if falls {
		low, high = to, from
	}
	var corners []api.Knee
	for _, corner := range outer.corners {
		if compare(low, corner.X) < 0 && compare(corner.X, high) < 0 {
			corners = append(corners, api.Knee{X: inner.meets(w, stretch, corner.X), Y: corner.Y})
		}
	}
	if falls {
		slices.Reverse(corners)
	}
	return corners
}

// compose returns the curve of a curve, which keeps no corners of the two.
func compose(outer, inner graph) (graph, api.Errno) {
	var w way
	var corners []api.Knee
	for i, corner := range inner.corners {
		corners = append(corners, api.Knee{X: corner.X, Y: outer.value(&w, corner.Y)})
		if i < len(inner.slopes) {
			corners = append(corners, added(&w, outer, inner, i)...)
		}
		if w.large || len(corners) > api.MaxCorners {
			return graph{}, api.ErrLarge
		}
	}
	return graphOf(api.Curve{Corners: corners})
}

// graphAt returns a curve with its slopes, or its error or that of an x.
func graphAt(c api.Curve, x api.Frac) (graph, api.Errno) {
	g, e := graphOf(c)
	if e != api.OK {
		return graph{}, e
	}
	return g, checkFrac(x)
}

// CheckCurve returns ErrShape for a wrong number of corners, then the error of the first corner that has one.
func CheckCurve(c api.Curve) api.Errno {
	_, e := graphOf(c)
	return e
}

// Value returns the value of a curve.
func Value(c api.Curve, x api.Frac) (api.Frac, api.Errno) {
	g, e := graphAt(c, x)
	if e != api.OK {
		return api.Frac{}, e
	}
	var w way
	return w.result(g.value(&w, x))
}

// Slope returns the slope of a curve.
func Slope(c api.Curve, x api.Frac) (api.Frac, api.Errno) {
	g, e := graphAt(c, x)
	if e != api.OK {
		return api.Frac{}, e
	}
	return g.slope(x), api.OK
}

// Compose returns the curve of a curve.
func Compose(outer, inner api.Curve) (api.Curve, api.Errno) {
	out, e := graphOf(outer)
	if e != api.OK {
		return api.Curve{}, e
	}
	in, e := graphOf(inner)
	if e != api.OK {
		return api.Curve{}, e
	}
	g, e := compose(out, in)
	return api.Curve{Corners: g.corners}, e
}

// Reach returns the least x from the first corner on at which the value is at least (falling: at most) a level.
func Reach(c api.Curve, level api.Frac, falling bool) (api.Frac, api.Errno) {
	g, e := graphAt(c, level)
	if e != api.OK {
		return api.Frac{}, e
	}
	return g.reach(level, falling)
}
