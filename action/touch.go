package action

import "agraffe/api"

const (
	mostWindow = 100000 // numbers of a window, in size
	perLever   = 1000   // a lever in the units of places
)

// feel is what a key has at a dip.
type feel struct{ balance, friction api.Frac }

// ratios returns the ratio of each part of a right action.
func ratios(a api.Action, dip api.Frac) ([]api.Frac, api.Errno) {
	l := make([]api.Frac, len(a.Parts))
	for i, p := range a.Parts {
		g, e := graphOfPart(a, p.Name)
		if e != api.OK {
			return nil, e
		}
		l[i] = g.slope(dip)
	}
	return l, api.OK
}

// lighter returns a balance less what a lead takes off it.
func lighter(w *way, balance api.Frac, lead api.Lead) api.Frac {
	return w.less(balance, w.over(whole(lead.Weight*lead.Place), whole(perLever)))
}

// balanceOf returns the balance of a right action whose parts have ratios.
func balanceOf(a api.Action, ratios []api.Frac) (api.Frac, api.Errno) {
	var w way
	sum := whole(0)
	for i, p := range a.Parts {
		sum = w.plus(sum, w.times(whole(p.Weight), ratios[i]))
	}
	for _, lead := range a.Leads {
		sum = lighter(&w, sum, lead)
	}
	return w.result(sum)
}

// frictionOf returns the friction of a right action whose parts have ratios.
func frictionOf(a api.Action, ratios []api.Frac) (api.Frac, api.Errno) {
	var w way
	sum := whole(0)
	for i, p := range a.Parts {
		sum = w.plus(sum, w.times(whole(p.Friction), size(ratios[i])))
	}
	return w.result(sum)
}

// feelAt returns what a right action has at a dip.
func feelAt(a api.Action, dip api.Frac) (feel, api.Errno) {
	l, e := ratios(a, dip)
	if e != api.OK {
		return feel{}, e
	}
	balance, e := balanceOf(a, l)
	if e != api.OK {
		return feel{}, e
	}
	friction, e := frictionOf(a, l)
	if e != api.OK {
		return feel{}, e
	}
	return feel{balance: balance, friction: friction}, api.OK
}

// touch returns the down weight and the up weight.
func (f feel) touch() ([2]api.Frac, api.Errno) {
	var w way
	touch := [2]api.Frac{w.plus(f.balance, f.friction), w.less(f.balance, f.friction)}
	if w.large {
		return [2]api.Frac{}, api.ErrLarge
	}
	return touch, api.OK
}

// check returns ErrLarge of the touch, or ErrBreak if it is not in a window.
func (f feel) check(w api.TouchWindow) api.Errno {
	touch, e := f.touch()
	if e != api.OK {
		return e
	}
	if compare(touch[0], whole(w.Down)) > 0 || compare(touch[1], whole(w.Up)) < 0 {
		return api.ErrBreak
	}
	return api.OK
}

// checkWindow returns ErrRange if a number of a window is too great in size.
func checkWindow(w api.TouchWindow) api.Errno {
	if !within(w.Down, -mostWindow, mostWindow) || !within(w.Up, -mostWindow, mostWindow) {
		return api.ErrRange
	}
	return api.OK
}

// Balance returns the balance of an action at a dip.
func Balance(a api.Action, dip api.Frac) (api.Frac, api.Errno) {
	if e := checkDipOf(a, dip); e != api.OK {
		return api.Frac{}, e
	}
	l, e := ratios(a, dip)
	if e != api.OK {
		return api.Frac{}, e
	}
	return balanceOf(a, l)
}

// Touch returns the down weight and the up weight of an action at a dip.
func Touch(a api.Action, dip api.Frac) ([2]api.Frac, api.Errno) {
	if e := checkDipOf(a, dip); e != api.OK {
		return [2]api.Frac{}, e
	}
	f, e := feelAt(a, dip)
	if e != api.OK {
		return [2]api.Frac{}, e
	}
	return f.touch()
}

// CheckTouch returns ErrBreak if the down weight is greater, or the up weight less, than a window allows.
func CheckTouch(a api.Action, w api.TouchWindow, dip api.Frac) api.Errno {
	if e := CheckAction(a); e != api.OK {
		return e
	}
	if e := checkWindow(w); e != api.OK {
		return e
	}
	if e := checkDip(a, dip); e != api.OK {
		return e
	}
	f, e := feelAt(a, dip)
	if e != api.OK {
		return e
	}
	return f.check(w)
}
