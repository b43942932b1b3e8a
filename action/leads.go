package action

import "agraffe/api"

// drill is a search for holes whose leads bring a key into a window.
type drill struct {
	holes  []api.Lead
	window api.TouchWindow
}

// choose returns the first count holes, lexicographically, of those behind a number of holes.
func (d drill) choose(f feel, behind, count int) ([]int, bool) {
	if count == 0 {
		return nil, f.check(d.window) == api.OK
	}
	for hole := behind; hole < len(d.holes); hole++ {
		var w way
		with := feel{balance: lighter(&w, f.balance, d.holes[hole]), friction: f.friction}
		if w.large {
			continue
		}
		if rest, found := d.choose(with, hole+1, count-1); found {
			return append([]int{hole}, rest...), true
		}
	}
	return nil, false
}

// ChooseLeads returns the fewest holes, of these the first ones lexicographically, whose leads bring an action at rest into a window.
func ChooseLeads(a api.Action, holes []api.Lead, w api.TouchWindow) ([]int, api.Errno) {
	if e := CheckAction(a); e != api.OK {
		return nil, e
	}
	if e := checkLeads(holes); e != api.OK {
		return nil, e
	}
	if e := checkWindow(w); e != api.OK {
		return nil, e
	}
	f, e := feelAt(a, whole(0))
	if e != api.OK {
		return nil, e
	}
	if _, e := f.touch(); e != api.OK {
		return nil, e
	}
	d := drill{holes: holes, window: w}
	most := min(len(holes), api.MaxLeads-len(a.Leads))
	for count := range most + 1 {
		if chosen, found := d.choose(f, 0, count); found {
			return chosen, api.OK
		}
	}
	return nil, api.ErrNone
}
