package hull

import (
	"ninepin/api"
	"ninepin/grid"
	"ninepin/wide"
)

// All of these fit, as the points may be: no number of a vector product of two differences is above 2^59.

// less is a less b.
func less(a, b api.Point) api.Point {
	d, _ := grid.Less(a, b)
	return d
}

// along is how far p is along n.
func along(n api.Span, p api.Point) api.Wide {
	d, _ := grid.Along(n, p)
	return d
}

// over is a span turned over.
func over(n api.Span) api.Span {
	x, _ := wide.Neg(n.X)
	y, _ := wide.Neg(n.Y)
	z, _ := wide.Neg(n.Z)
	return api.Span{X: x, Y: y, Z: z}
}

// left: do a, b, c go round to the left, seen from where n points to? Their plane is across n.
func left(n api.Span, a, b, c api.Point) bool {
	m := grid.Cross(less(b, a), less(c, a))
	// As m is some times n, each number that is not 0 tells whether that is above 0.
	return wide.Sign(m.X)*wide.Sign(n.X) > 0 || wide.Sign(m.Y)*wide.Sign(n.Y) > 0 || wide.Sign(m.Z)*wide.Sign(n.Z) > 0
}
