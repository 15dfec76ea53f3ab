package pose

import (
	"ninepin/api"
	"ninepin/fix"
	"ninepin/wide"
)

// places is how many bits a number has behind the point; a product of two has twice as many.
const places = 32

// numbers are the raw ones of a vector, or exact products. What is reckoned with them here stays below 2^100, so all of it fits.
type numbers [3]api.Wide

func raw(v api.Vec) numbers {
	return numbers{wide.Of(int64(v.X)), wide.Of(int64(v.Y)), wide.Of(int64(v.Z))}
}

// less is a less b.
func less(a, b numbers) numbers {
	var l numbers
	for i := range l {
		l[i], _ = wide.Sub(a[i], b[i])
	}
	return l
}

func sum(l ...api.Wide) api.Wide {
	var all api.Wide
	for _, n := range l {
		all, _ = wide.Add(all, n)
	}
	return all
}

func times(a, b api.Wide) api.Wide {
	n, _ := wide.Mul(a, b)
	return n
}

// along is the exact sum of the products of the numbers in the same places.
func along(row api.Vec, v numbers) api.Wide {
	r := raw(row)
	return sum(times(r[0], v[0]), times(r[1], v[1]), times(r[2], v[2]))
}

// lifted has as many bits behind the point as a product.
func lifted(n api.Wide) api.Wide {
	up, _ := wide.Shl(n, places)
	return up
}

// brought brings exact products in, each once.
func brought(l numbers) api.Vec {
	in := func(n api.Wide) api.Fix { return fix.In(n, 2*places) }
	return api.Vec{X: in(l[0]), Y: in(l[1]), Z: in(l[2])}
}
