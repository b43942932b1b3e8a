package plate

import "slices"

// vector is three coordinates of a place, or three components of a force or of a moment.
type vector [3]int

func (v vector) plus(w vector) vector {
	for i, n := range w {
		v[i] += n
	}
	return v
}

func (v vector) opposite() vector {
	for i, n := range v {
		v[i] = -n
	}
	return v
}

// cross returns the vector product.
func (v vector) cross(w vector) vector {
	return vector{v[1]*w[2] - v[2]*w[1], v[2]*w[0] - v[0]*w[2], v[0]*w[1] - v[1]*w[0]}
}

// all says whether each coordinate fulfils a condition.
func (v vector) all(right func(n int) bool) bool {
	wrong := func(n int) bool { return !right(n) }
	return !slices.ContainsFunc(v[:], wrong)
}
