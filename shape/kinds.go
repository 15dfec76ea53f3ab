package shape

import (
	"slices"

	"ninepin/api"
	"ninepin/fix"
)

// thinnest is the least that a box may be off its middle: a step of the grid, so that its corners stay apart there.
const thinnest api.Fix = api.One >> 16

// kind is what must hold of a shape of it, but for what holds of all, and the points of its core.
type kind struct {
	holds func(s api.Shape) bool
	core  func(s api.Shape) []api.Vec
}

// kindOf is the kind of that number, if there is one.
func kindOf(number int) (kind, bool) {
	kinds := [...]kind{
		api.Sphere:  {sphereHolds, sphereCore},
		api.Capsule: {capsuleHolds, capsuleCore},
		api.Box:     {boxHolds, boxCore},
		api.Solid:   {solidHolds, solidCore},
	}
	if number < api.Sphere || number >= len(kinds) {
		return kind{}, false
	}
	return kinds[number], true
}

func sphereHolds(s api.Shape) bool {
	return s.R > 0 && s.H == (api.Vec{}) && len(s.L) == 0
}

func capsuleHolds(s api.Shape) bool {
	return s.R > 0 && s.H.X == 0 && s.H.Y == 0 && s.H.Z > 0 && len(s.L) == 0
}

func boxHolds(s api.Shape) bool {
	return s.R >= 0 && min(s.H.X, s.H.Y, s.H.Z) >= thinnest && len(s.L) == 0
}

func solidHolds(s api.Shape) bool {
	return s.R >= 0 && s.H == (api.Vec{}) && len(s.L) >= 4 && len(s.L) <= api.MaxCorners
}

func sphereCore(s api.Shape) []api.Vec { return []api.Vec{{}} }

func capsuleCore(s api.Shape) []api.Vec {
	return []api.Vec{{Z: fix.Sub(0, s.H.Z)}, s.H}
}

func boxCore(s api.Shape) []api.Vec {
	// Each place's bits tell the signs: the lowest one that of X, which turns fastest.
	signed := func(n api.Fix, bit int) api.Fix {
		if bit == 0 {
			return fix.Sub(0, n)
		}
		return n
	}
	var core []api.Vec
	for i := range 8 {
		core = append(core, api.Vec{X: signed(s.H.X, i&1), Y: signed(s.H.Y, i&2), Z: signed(s.H.Z, i&4)})
	}
	return core
}

func solidCore(s api.Shape) []api.Vec { return slices.Clone(s.L) }
