package mat

import (
	"iter"

	"ninepin/api"
)

// size is how many rows a matrix has, and how many numbers a row.
const size = 3

// list is a vector's numbers by their places.
type list [size]api.Fix

func listed(v api.Vec) list { return list{v.X, v.Y, v.Z} }

func vector(l list) api.Vec { return api.Vec{X: l[0], Y: l[1], Z: l[2]} }

// rows tells the rows of a matrix, each with its place.
func rows(m api.Mat) iter.Seq2[int, api.Vec] {
	return func(yield func(int, api.Vec) bool) {
		for k, row := range m.R {
			if !yield(k, row) {
				return
			}
		}
	}
}

// columns tells the columns of a matrix, each with its place.
func columns(m api.Mat) iter.Seq2[int, api.Vec] {
	first, second, third := listed(m.R[0]), listed(m.R[1]), listed(m.R[2])
	return func(yield func(int, api.Vec) bool) {
		for k := range size {
			if !yield(k, api.Vec{X: first[k], Y: second[k], Z: third[k]}) {
				return
			}
		}
	}
}
