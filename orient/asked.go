package orient

import (
	"ninepin/api"
	"ninepin/grid"
)

// most is how many points a simplex has at most.
const most = 4

// refusal tells why points that are asked are refused, or OK: for one that may not be, and behind that by e, unless they are as a call needs them.
func refusal(e api.Errno, fit func(l []api.Point) bool, points ...api.Point) api.Errno {
	for _, p := range points {
		if grid.Check(p) != api.OK {
			e = api.ErrBound
			goto refuse
		}
	}
	if fit(points) {
		return api.OK
	}
refuse:
	return e
}

func anyhow([]api.Point) bool { return true }

func areFew(l []api.Point) bool { return len(l) <= api.MaxPoints }

func areFour(l []api.Point) bool { return len(l) == most }

// areSimplex asks for the number first: what is too long need not be gone through.
func areSimplex(l []api.Point) bool {
	return 0 < len(l) && len(l) <= most && len(spread(l)) == len(l)
}
