package fix

import (
	"ninepin/api"
	"ninepin/wide"
)

// way is which way a number goes that lies between two multiples of 2^-32.
type way interface {
	down | up
	from(floor api.Wide, exact bool) api.Wide
}

type (
	down struct{}
	up   struct{}
)

func (down) from(floor api.Wide, exact bool) api.Wide { return floor }

func (up) from(floor api.Wide, exact bool) api.Wide {
	if exact {
		return floor
	}
	// It fits: what is brought in here has less than 128 bits.
	next, _ := wide.Add(floor, wide.Of(1))
	return next
}

// brought brings in a number by its raw one: that is floor, if it is exact, else something between floor and the next.
func brought[W way](floor api.Wide, exact bool) api.Fix {
	var goes W
	return within(goes.from(floor, exact))
}

func product[W way](a, b api.Fix) api.Fix {
	raw, _ := wide.Mul(wide.Of(int64(a)), wide.Of(int64(b)))
	// Wrapping round leaves the lowest bits as they are, and those tell whether something is lost.
	lost := uint32(a * b)
	return brought[W](wide.Shr(raw, places), lost == 0)
}

func quotient[W way](a, b api.Fix) api.Fix {
	if a == 0 {
		return 0
	}
	if b == 0 {
		return limit(a < 0)
	}
	floor, left, _ := wide.Div(raised(a), wide.Of(int64(b)))
	return brought[W](floor, left == api.Wide{})
}

func root[W way](a api.Fix) api.Fix {
	if a < 0 {
		return 0
	}
	square := raised(a)
	floor, _ := wide.Sqrt(square)
	back, _ := wide.Mul(floor, floor)
	return brought[W](floor, back == square)
}

// raised is the raw number of a times 2^32: what a quotient, or a root, must begin from to keep the point where it is.
func raised(a api.Fix) api.Wide {
	raw, _ := wide.Shl(wide.Of(int64(a)), places)
	return raw
}

// within is the number of a raw one, or that limit beyond which it lies.
func within(raw api.Wide) api.Fix {
	n, fits := wide.Int(raw)
	if !fits {
		return limit(wide.Sign(raw) < 0)
	}
	return api.Fix(n)
}

func limit(below bool) api.Fix {
	if below {
		return api.MinFix
	}
	return api.MaxFix
}
