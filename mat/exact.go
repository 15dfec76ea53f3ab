package mat

import (
	"ninepin/api"
	"ninepin/fix"
	"ninepin/wide"
)

// places is how many bits a number has behind the point; a product of k numbers has k times as many.
const places = 32

// numbers are the raw ones of a vector, or exact products. What is reckoned with them here stays below 2^224, so all of it fits.
type numbers [size]api.Wide

func raw(v api.Vec) numbers {
	return numbers{wide.Of(int64(v.X)), wide.Of(int64(v.Y)), wide.Of(int64(v.Z))}
}

func times(a, b api.Wide) api.Wide {
	c, _ := wide.Mul(a, b)
	return c
}

// products are those of the numbers in the same places.
func products(a, b numbers) numbers {
	return numbers{times(a[0], b[0]), times(a[1], b[1]), times(a[2], b[2])}
}

// sum is that of the products of the numbers in the same places.
func sum(a, b numbers) api.Wide {
	var all api.Wide
	for _, p := range products(a, b) {
		all, _ = wide.Add(all, p)
	}
	return all
}

// minors answers what tells, of a place in the matrix, the signed determinant of what is left without its row and its column.
func minors(m api.Mat) func(i, j int) api.Wide {
	var all [size]numbers
	for k, row := range rows(m) {
		all[k] = raw(row)
	}
	return func(i, j int) api.Wide {
		// The places behind, going round, stand in an order that brings the sign along.
		nextI, lastI := (i+1)%size, (i+2)%size
		nextJ, lastJ := (j+1)%size, (j+2)%size
		n, _ := wide.Sub(times(all[nextI][nextJ], all[lastI][lastJ]), times(all[nextI][lastJ], all[lastI][nextJ]))
		return n
	}
}

func minorsOfColumn(minor func(i, j int) api.Wide, j int) numbers {
	return numbers{minor(0, j), minor(1, j), minor(2, j)}
}

func determinant(m api.Mat, minor func(i, j int) api.Wide) api.Wide {
	return sum(raw(m.R[0]), numbers{minor(0, 0), minor(0, 1), minor(0, 2)})
}

// quotient is n times 2^lift by d, brought in as a raw number.
func quotient(n, d api.Wide, lift int) api.Fix {
	lifted, _ := wide.Shl(n, lift)
	floor, _, _ := wide.Div(lifted, d)
	return fix.In(floor, places)
}
