package pose

import (
	"ninepin/api"
	"ninepin/fix"
	"ninepin/grid"
	"ninepin/mat"
	"ninepin/quat"
)

// frame is a pose that may be, and its matrix, which is found once however many points are turned.
type frame struct {
	api.Pose
	matrix api.Mat
}

func frameOf(p api.Pose) (frame, api.Errno) {
	if e := Check(p); e != api.OK {
		return frame{}, e
	}
	m, e := quat.Matrix(p.Q)
	return frame{p, m}, e
}

// out is a point in the pose.
func (f frame) out(v api.Vec) api.Vec {
	point, place := raw(v), raw(f.P)
	var l numbers
	for i, row := range f.matrix.R {
		l[i] = sum(along(row, point), lifted(place[i]))
	}
	return brought(l)
}

// in is the point that is there in the pose.
func (f frame) in(v api.Vec) api.Vec {
	// Wide, as a difference of two numbers need not be one.
	off := less(raw(v), raw(f.P))
	var l numbers
	for i, row := range mat.Turned(f.matrix).R {
		l[i] = along(row, off)
	}
	return brought(l)
}

// rounded are the points that turn makes of those of a core. No point of a pose that may be lies too far off to be rounded.
func rounded(core []api.Vec, turn func(v api.Vec) api.Vec) []api.Point {
	l := make([]api.Point, len(core))
	for i, v := range core {
		l[i], _ = grid.Round(turn(v))
	}
	return l
}

// held is a place, clamped.
func held(p api.Vec) api.Vec {
	clamp := func(n api.Fix) api.Fix { return fix.Clamp(n, -api.MaxPlace, api.MaxPlace) }
	return api.Vec{X: clamp(p.X), Y: clamp(p.Y), Z: clamp(p.Z)}
}
