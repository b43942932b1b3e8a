package scale

import "agraffe/api"

// materials are wires by their names.
type materials map[string]api.Wire

// materialsOf returns right wires by their names, or the error of CheckWires.
func materialsOf(l []api.Wire) (materials, api.Errno) {
	if len(l) > api.MaxWires {
		return nil, api.ErrLarge
	}
	found := make(materials, len(l))
	for _, w := range l {
		if e := found.checkNext(w); e != api.OK {
			return nil, e
		}
		found[w.Name] = w
	}
	return found, api.OK
}

// checkNext returns the error of a wire behind these.
func (m materials) checkNext(w api.Wire) api.Errno {
	if !isName(w.Name) {
		return api.ErrName
	}
	if _, exists := m[w.Name]; exists {
		return api.ErrExists
	}
	if !within(w.Mass, 1, 200000) || !within(w.Strength, 1, 1000000) || !within(w.Stiff, 0, 100000000) {
		return api.ErrRange
	}
	return api.OK
}

func isLetter(c byte) bool {
	return 'a' <= c && c <= 'z' || 'A' <= c && c <= 'Z'
}

// isName says whether a text is 1 to 12 letters, digits and "-", beginning with a letter.
func isName(s string) bool {
	if len(s) < 1 || len(s) > api.MaxName || !isLetter(s[0]) {
		return false
	}
	for _, c := range []byte(s) {
		if !isLetter(c) && !within(int(c), '0', '9') && c != '-' {
			return false
		}
	}
	return true
}

// CheckWires returns ErrLarge for too many wires, then the error of the first one that has one.
func CheckWires(l []api.Wire) api.Errno {
	_, e := materialsOf(l)
	return e
}
