package vec

import (
	"ninepin/api"
	"ninepin/fix"
	"ninepin/wide"
)

// places is how many bits a number has behind the point.
const places = 32

// product is two factors, raw numbers of at most 64 bits: a sum of a few always fits.
type product struct{ x, y api.Wide }

func times(x, y api.Fix) product { return product{raw(x), raw(y)} }

// less is what a sum takes to be less by x times y. It is wide, as 0 less MinFix is no number.
func less(x, y api.Fix) product {
	below, _ := wide.Neg(raw(x))
	return product{below, raw(y)}
}

// sum is exact, and so has twice as many bits behind the point as a number.
func sum(products ...product) api.Wide {
	var all api.Wide
	for _, p := range products {
		one, _ := wide.Mul(p.x, p.y)
		all, _ = wide.Add(all, one)
	}
	return all
}

func brought(products ...product) api.Fix { return fix.In(sum(products...), 2*places) }

func raw(a api.Fix) api.Wide { return wide.Of(int64(a)) }

func square(a api.Vec) api.Wide {
	return sum(times(a.X, a.X), times(a.Y, a.Y), times(a.Z, a.Z))
}

// root is a raw number that is floor, if that is exact, else lies between floor and the next.
type root struct {
	floor api.Wide
	exact bool
}

// rootOf is that of n by d; n is not below 0, d is above.
func rootOf(n, d api.Wide) root {
	by, _, _ := wide.Div(n, d)
	floor, _ := wide.Sqrt(by)
	back, _ := wide.Mul(floor, floor)
	back, _ = wide.Mul(back, d)
	return root{floor, back == n}
}

func (r root) down() api.Fix { return fix.In(r.floor, places) }

func (r root) up() api.Fix {
	if r.exact {
		return r.down()
	}
	next, _ := wide.Add(r.floor, wide.Of(1))
	return fix.In(next, places)
}

func length(a api.Vec) root { return rootOf(square(a), wide.Of(1)) }

// share is x by the root of whole, rounded down. It goes by the squares, so that no rounded length is divided by.
func share(x api.Fix, whole api.Wide) api.Fix {
	part, _ := wide.Shl(sum(times(x, x)), 2*places)
	size := rootOf(part, whole)
	// Below 0, down is away from 0.
	if x < 0 {
		return -size.up()
	}
	return size.down()
}
