package vec

import "ninepin/api"

// axis is that number of a vector that stands along it.
type axis func(v api.Vec) api.Fix

func alongX(v api.Vec) api.Fix { return v.X }
func alongY(v api.Vec) api.Fix { return v.Y }
func alongZ(v api.Vec) api.Fix { return v.Z }

// each goes over the three axes, and answers the vector of what do answers for each of them.
func each(do func(at axis) api.Fix) api.Vec {
	return api.Vec{X: do(alongX), Y: do(alongY), Z: do(alongZ)}
}

// turned has along each axis what a has along the next one, and along the last one what it has along the first.
func turned(a api.Vec) api.Vec { return api.Vec{X: a.Y, Y: a.Z, Z: a.X} }
