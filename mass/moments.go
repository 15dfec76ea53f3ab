package mass

import (
	"ninepin/api"
	"ninepin/fix"
	"ninepin/wide"
)

// places is how many bits a number has behind the point; a product of three numbers has three times as many.
const places = 32

// each finds a vector: do is handed a number of v, and the two beside it.
func each(v api.Vec, do func(n, b, c api.Fix) api.Fix) api.Vec {
	return api.Vec{X: do(v.X, v.Y, v.Z), Y: do(v.Y, v.Z, v.X), Z: do(v.Z, v.X, v.Y)}
}

// moment is that of a box about an axis, by its halves along the two others: exact till it is brought in. All of it stays below 2^132, so it fits.
func moment(m, b, c api.Fix) api.Fix {
	squares, _ := wide.Add(product(raw(b), raw(b)), product(raw(c), raw(c)))
	// Both divisions go down, so it is as if there were one.
	third, _, _ := wide.Div(product(raw(m), squares), wide.Of(3))
	return fix.In(third, 3*places)
}

func raw(n api.Fix) api.Wide { return wide.Of(int64(n)) }

func product(a, b api.Wide) api.Wide {
	p, _ := wide.Mul(a, b)
	return p
}

// back is 1 by a number above 0. Any other one is of what nothing moves: 0 says so.
func back(n api.Fix) api.Fix {
	if n <= 0 {
		return 0
	}
	return fix.Div(api.One, n)
}
