package grid

import (
	"iter"

	"ninepin/api"
	"ninepin/wide"
)

const (
	places = 16 // bits of a point's number behind the point
	lost   = 16 // bits that a vector's number has behind the point beyond these
)

// each goes over the three numbers of a vector, a point or a span, and answers what do makes of each of them.
func each[A, B any](x, y, z A, do func(n A) B) (B, B, B) { return do(x), do(y), do(z) }

// beside tells the numbers of two spans side by side.
func beside(a, b api.Span) iter.Seq2[api.Wide, api.Wide] {
	return func(yield func(x, y api.Wide) bool) {
		if yield(a.X, b.X) && yield(a.Y, b.Y) {
			yield(a.Z, b.Z)
		}
	}
}

// nearest is the nearest number of a point.
func nearest(n api.Fix) int64 {
	// The highest bit that is lost tells the middle and above; half of the last one, added ahead, could wrap round.
	return int64(n>>lost) + int64(n>>(lost-1)&1)
}

// span is a point, exactly.
func span(p api.Point) api.Span {
	x, y, z := each(p.X, p.Y, p.Z, wide.Of)
	return api.Span{X: x, Y: y, Z: z}
}

// minor is the determinant of the rows (a b), (c d), which are a point's numbers: so it fits.
func minor(a, b, c, d api.Wide) api.Wide {
	falling, _ := wide.Mul(a, d)
	rising, _ := wide.Mul(b, c)
	all, _ := wide.Sub(falling, rising)
	return all
}

// divisor is the greatest number that divides all of a span's; there is none of a zero one, nor of one that has the least number, whose absolute value does not fit.
func divisor(n api.Span) (api.Wide, bool) {
	var whole api.Wide
	for _, part := range [3]api.Wide{n.X, n.Y, n.Z} {
		length, fits := size(part)
		if !fits {
			return api.Wide{}, false
		}
		whole = common(whole, length)
	}
	return whole, whole != (api.Wide{})
}

func size(n api.Wide) (api.Wide, bool) {
	if wide.Sign(n) < 0 {
		return wide.Neg(n)
	}
	return n, true
}

// common is the greatest number that divides both, which are not below 0; of 0 and another it is that.
func common(a, b api.Wide) api.Wide {
	for b != (api.Wide{}) {
		_, rest, _ := wide.Div(a, b)
		a, b = b, rest
	}
	return a
}
