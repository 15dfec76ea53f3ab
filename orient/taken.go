package orient

import (
	"cmp"
	"slices"

	"ninepin/api"
	"ninepin/grid"
	"ninepin/wide"
)

// taken are points whose rank was raised by each of them.
type taken []api.Point

// signs tell which way a point lies from those that were taken, by numbers that are 0 in all places just if it does not raise their rank.
type signs [3]int

// raise is what tells the signs of a point, by how many were taken.
func (t taken) raise() func(p api.Point) signs {
	switch len(t) {
	case 0:
		return t.first
	case 1:
		return t.apart
	case 2:
		return t.beside
	case 3:
		return t.above
	}
	return t.within
}

// first: whatever comes first raises the rank of none.
func (t taken) first(api.Point) signs { return signs{1} }

// apart: from the point that was taken.
func (t taken) apart(p api.Point) signs {
	d := less(p, t[0])
	return signs{cmp.Compare(d.X, 0), cmp.Compare(d.Y, 0), cmp.Compare(d.Z, 0)}
}

// beside: off the line of two, by how they and the point go round.
func (t taken) beside(p api.Point) signs {
	n := grid.Cross(less(t[1], t[0]), less(p, t[0]))
	return signs{wide.Sign(n.X), wide.Sign(n.Y), wide.Sign(n.Z)}
}

// above: off the plane of three.
func (t taken) above(p api.Point) signs { return signs{wide.Sign(volume(t[0], t[1], t[2], p))} }

// within: no point raises the rank of four.
func (t taken) within(api.Point) signs { return signs{} }

// spread is the places of those that raise the rank.
func spread(l []api.Point) []int {
	var places []int
	var all taken
	raise := all.raise()
	for i, p := range l {
		if raise(p) == (signs{}) {
			continue
		}
		places, all = append(places, i), append(all, p)
		raise = all.raise()
	}
	return places
}

// inside: is p inside of the simplex l?
func inside(l []api.Point, p api.Point) bool {
	if taken(l).raise()(p) != (signs{}) {
		return false
	}
	turn := turned(l)
	for k := range l {
		// Once p is in the place of a point, the simplex is that point's weight times as great, and turned over if it is below 0.
		moved := slices.Clone(l)
		moved[k] = p
		if against(turn, turned(moved)) {
			return false
		}
	}
	return true
}

// turned is which way the last of points lies from the ones ahead of it.
func turned(l []api.Point) signs {
	last := len(l) - 1
	return taken(l[:last]).raise()(l[last])
}

// against: are two signs strictly other ones in some place?
func against(a, b signs) bool {
	return a[0]*b[0] < 0 || a[1]*b[1] < 0 || a[2]*b[2] < 0
}

// volume is the determinant of b, c, d less a; it fits, as the points may be.
func volume(a, b, c, d api.Point) api.Wide { return grid.Det(less(b, a), less(c, a), less(d, a)) }

// less is a less b; both may be.
func less(a, b api.Point) api.Point {
	d, _ := grid.Less(a, b)
	return d
}
