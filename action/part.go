package action

import (
	"slices"

	"agraffe/api"
)

// checkHas returns the error of an action, or ErrMissing if it has no part with a name.
func checkHas(a api.Action, part string) api.Errno {
	if e := CheckAction(a); e != api.OK {
		return e
	}
	if !slices.ContainsFunc(a.Parts, partNamed(part)) {
		return api.ErrMissing
	}
	return api.OK
}

// checkDip returns the error of a dip of a right action.
func checkDip(a api.Action, dip api.Frac) api.Errno {
	if e := checkFrac(dip); e != api.OK {
		return e
	}
	if dip.Num < 0 || compare(dip, whole(a.Dip)) > 0 {
		return api.ErrRange
	}
	return api.OK
}

// checkDipOf returns the error of an action, or of a dip of it.
func checkDipOf(a api.Action, dip api.Frac) api.Errno {
	if e := CheckAction(a); e != api.OK {
		return e
	}
	return checkDip(a, dip)
}

// graphOfDip returns the dip of the key as a curve.
func graphOfDip(dip int) (graph, api.Errno) {
	start, end := whole(0), whole(dip)
	return graphOf(api.Curve{Corners: []api.Knee{{X: start, Y: start}, {X: end, Y: end}}})
}

// graphOfPart returns the curve of a part of a right action, composed from the dip on. "" is the dip itself.
func graphOfPart(a api.Action, name string) (graph, api.Errno) {
	if name == "" {
		return graphOfDip(a.Dip)
	}
	part := a.Parts[slices.IndexFunc(a.Parts, partNamed(name))]
	driver, e := graphOfPart(a, part.Driver)
	if e != api.OK {
		return graph{}, e
	}
	own, e := graphOf(part.Curve)
	if e != api.OK {
		return graph{}, e
	}
	return compose(own, driver)
}

// graphAtDip returns the curve of a part, or the error of the action, the part, the dip, or the curve.
func graphAtDip(a api.Action, part string, dip api.Frac) (graph, api.Errno) {
	if e := checkHas(a, part); e != api.OK {
		return graph{}, e
	}
	if e := checkDip(a, dip); e != api.OK {
		return graph{}, e
	}
	return graphOfPart(a, part)
}

// CurveOf returns the curve of a part as a function of the dip.
func CurveOf(a api.Action, part string) (api.Curve, api.Errno) {
	if e := checkHas(a, part); e != api.OK {
		return api.Curve{}, e
	}
	g, e := graphOfPart(a, part)
	return api.Curve{Corners: g.corners}, e
}

// Position returns the position of a part at a dip.
func Position(a api.Action, part string, dip api.Frac) (api.Frac, api.Errno) {
	g, e := graphAtDip(a, part, dip)
	if e != api.OK {
		return api.Frac{}, e
	}
	var w way
	return w.result(g.value(&w, dip))
}

// Ratio returns the ratio of a part at a dip.
func Ratio(a api.Action, part string, dip api.Frac) (api.Frac, api.Errno) {
	g, e := graphAtDip(a, part, dip)
	if e != api.OK {
		return api.Frac{}, e
	}
	return g.slope(dip), api.OK
}
