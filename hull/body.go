package hull

import (
	"maps"
	"slices"

	"ninepin/api"
	"ninepin/grid"
	"ninepin/wide"
)

// body is points whose rank is 3, and the places of those that differ, by where they stand.
type body struct {
	l  []api.Point
	at []int
}

func bodyOf(l []api.Point) body {
	at := make([]int, len(l))
	for i := range at {
		at[i] = i
	}
	return body{l, ordered(at, func(i, k int) int { return grid.Cmp(l[i], l[k]) })}
}

// faces finds all of them, one across the edge of the other.
func (b body) faces() []api.Face {
	found := map[api.Span]api.Face{}
	met := map[[2]int]struct{}{}
	var open []api.Span
	add := func(f api.Face) {
		found[f.N] = f
		open = append(open, f.N)
		for _, edge := range edges(f.At) {
			met[edge] = struct{}{}
		}
	}
	add(b.first())
	for len(open) > 0 {
		f := found[open[0]]
		open = open[1:]
		for _, edge := range edges(f.At) {
			// What lies across it has the edge the other way round.
			if _, there := met[[2]int{edge[1], edge[0]}]; !there {
				add(b.across(f.N, edge))
			}
		}
	}
	return ordered(slices.Collect(maps.Values(found)), func(f, g api.Face) int { return CmpSpan(f.N, g.N) })
}

// first is one of the faces.
func (b body) first() api.Face {
	k := b.at[0]
	// No point stands ahead of this one, so that the plane through it and across X can be turned about its line along Z.
	n := b.turned(api.Span{X: wide.Of(-1)}, b.l[k], api.Point{Z: 1})
	// What is met there may be no more than a line of points; but then there is a face across the line, as there is across an edge.
	return b.across(n, edges(b.face(n, k).At)[0])
}

// across is the face on the other side of an edge of the one along n.
func (b body) across(n api.Span, edge [2]int) api.Face {
	from, to := b.l[edge[0]], b.l[edge[1]]
	return b.face(b.turned(n, from, less(to, from)), edge[0])
}

// face is that of all points that are as far along n as the one at a place; none is further.
func (b body) face(n api.Span, place int) api.Face {
	d := along(n, b.l[place])
	var on []int
	for _, k := range b.at {
		if along(n, b.l[k]) == d {
			on = append(on, k)
		}
	}
	return api.Face{N: n, D: d, At: fromLeast(b.round(n, on))}
}

// turned is the next primitive span along which none is further than those of a line: n is one such, and its plane is turned about the line, from the point on by the other one.
func (b body) turned(n api.Span, from, by api.Point) api.Span {
	turn := turning(n, from, by)
	for _, k := range b.at {
		n = turn(b.l[k])
	}
	n, _ = grid.Prime(n)
	return n
}

// turning is what turns a plane about a line. It begins where the plane is turned over, so that all points are beyond it, and goes on to each that is beyond it still.
func turning(n api.Span, from, by api.Point) func(p api.Point) api.Span {
	n = over(n)
	return func(p api.Point) api.Span {
		if d := less(p, from); wide.Sign(along(n, d)) > 0 {
			n = grid.Cross(d, by)
		}
		return n
	}
}

// round is the corners of points in one plane, which come by where they stand, as they go round to the left, seen from where n points to; of points on a line its ends.
func (b body) round(n api.Span, on []int) []int {
	var row []int
	for range 2 {
		begin := len(row)
		for _, k := range on {
			for len(row) >= begin+2 && !left(n, b.l[row[len(row)-2]], b.l[row[len(row)-1]], b.l[k]) {
				row = row[:len(row)-1]
			}
			row = append(row, k)
		}
		// The last one begins the way back.
		row = row[:len(row)-1]
		slices.Reverse(on)
	}
	return row
}
