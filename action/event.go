package action

import (
	"slices"

	"agraffe/api"
)

const mostGap = 2000 // of an order

// happening is an event with the dip at which it happens.
type happening struct {
	event string
	dip   api.Frac
}

// dipOf returns the dip at which an event of a right action happens.
func dipOf(a api.Action, v api.ActionEvent) (api.Frac, api.Errno) {
	g, e := graphOfPart(a, v.Part)
	if e != api.OK {
		return api.Frac{}, e
	}
	return g.reach(whole(v.Level), v.Falling)
}

// happenings returns the events of a right action that happen, by their dips.
func happenings(a api.Action) ([]happening, api.Errno) {
	var l []happening
	for _, v := range a.Events {
		dip, e := dipOf(a, v)
		if e == api.ErrNone {
			continue
		}
		if e != api.OK {
			return nil, e
		}
		l = append(l, happening{event: v.Name, dip: dip})
	}
	slices.SortStableFunc(l, func(x, y happening) int { return compare(x.dip, y.dip) })
	return l, api.OK
}

// eventsUpTo returns the events of a right action that happen up to a dip, in their order.
func eventsUpTo(a api.Action, dip api.Frac) ([]string, api.Errno) {
	l, e := happenings(a)
	if e != api.OK {
		return nil, e
	}
	var events []string
	for _, h := range l {
		if compare(h.dip, dip) <= 0 {
			events = append(events, h.event)
		}
	}
	return events, api.OK
}

// EventAt returns the dip at which an event happens.
func EventAt(a api.Action, event string) (api.Frac, api.Errno) {
	if e := CheckAction(a); e != api.OK {
		return api.Frac{}, e
	}
	at := slices.IndexFunc(a.Events, eventNamed(event))
	if at < 0 {
		return api.Frac{}, api.ErrMissing
	}
	return dipOf(a, a.Events[at])
}

// Order returns the events that happen, by their dips.
func Order(a api.Action) ([]string, api.Errno) {
	if e := CheckAction(a); e != api.OK {
		return nil, e
	}
	return eventsUpTo(a, whole(a.Dip))
}

// Happened returns the events that happen up to a dip, by their dips.
func Happened(a api.Action, dip api.Frac) ([]string, api.Errno) {
	if e := checkDipOf(a, dip); e != api.OK {
		return nil, e
	}
	return eventsUpTo(a, dip)
}

// checkNames returns the error of the names of an order, with the number of the name.
func checkNames(a api.Action, order []string) (int, api.Errno) {
	if len(order) > api.MaxActionEvents {
		return 0, api.ErrLarge
	}
	for i, name := range order {
		if !slices.ContainsFunc(a.Events, eventNamed(name)) {
			return i, api.ErrMissing
		}
		if slices.Contains(order[:i], name) {
			return i, api.ErrExists
		}
	}
	return 0, api.OK
}

// follows says whether a dip is at least another one and a gap. The difference rounded down is less than a whole number where the difference is, and the gap multiplied by the denominators could be too great for an int.
func follows(dip, before api.Frac, gap int) bool {
	num, den := dip.Num*before.Den-before.Num*dip.Den, dip.Den*before.Den
	down := num / den
	if num%den < 0 {
		down--
	}
	return down >= gap
}

// checkDips returns the error of the dips of an order with right names, with the number of the name.
func checkDips(a api.Action, order []string, gap int) (int, api.Errno) {
	var before api.Frac
	for i, name := range order {
		dip, e := dipOf(a, a.Events[slices.IndexFunc(a.Events, eventNamed(name))])
		if e != api.OK {
			return i, e
		}
		if i > 0 && !follows(dip, before, gap) {
			return i, api.ErrOrder
		}
		before = dip
	}
	return 0, api.OK
}

// CheckOrder returns the first error of an order in which each event has to come a gap behind the one before, with the number of the name that has it, or 0.
func CheckOrder(a api.Action, order []string, gap int) (int, api.Errno) {
	if e := CheckAction(a); e != api.OK {
		return 0, e
	}
	if at, e := checkNames(a, order); e != api.OK {
		return at, e
	}
	if !within(gap, 0, mostGap) {
		return 0, api.ErrRange
	}
	return checkDips(a, order, gap)
}

// Aftertouch returns the dip that is left behind an event.
func Aftertouch(a api.Action, event string) (api.Frac, api.Errno) {
	dip, e := EventAt(a, event)
	if e != api.OK {
		return api.Frac{}, e
	}
	var w way
	return w.result(w.less(whole(a.Dip), dip))
}
