package shape

import (
	"slices"

	"ninepin/api"
	"ninepin/fix"
	"ninepin/grid"
	"ninepin/orient"
)

// size is a number's absolute value.
func size(n api.Fix) api.Fix { return max(n, fix.Sub(0, n)) }

// isWithin: is no number of a vector above the greatest size?
func isWithin(v api.Vec) bool {
	return max(size(v.X), size(v.Y), size(v.Z)) <= api.MaxSize
}

// numbersHold: is no number of a shape above the greatest size?
func numbersHold(s api.Shape) bool {
	beyond := func(v api.Vec) bool { return !isWithin(v) }
	return size(s.R) <= api.MaxSize && isWithin(s.H) && !slices.ContainsFunc(s.L, beyond)
}

// isFlat: do points span no body, where they stand on the grid?
func isFlat(l []api.Vec) bool {
	var points []api.Point
	for _, v := range l {
		// It may be: MaxSize is far within what the grid holds.
		p, _ := grid.Round(v)
		points = append(points, p)
	}
	rank, _ := orient.Rank(points)
	return rank < 3
}
