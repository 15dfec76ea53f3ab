package quat

import (
	"ninepin/api"
	"ninepin/wide"
)

// The places of a quaternion's numbers, and how many there are.
const (
	atW = iota
	atX
	atY
	atZ
	size
)

// side is how many rows a matrix has, and how many numbers a row.
const side = 3

// part is what a product of two numbers, in places a and b, adds to an answer's number: sign times as much.
type part struct {
	at   int
	sign int64
	a, b int
}

// productParts are those of a product: i j is k, and so on; a is a place in the first factor, b one in the second.
var productParts = [size * size]part{
	{atW, 1, atW, atW}, {atW, -1, atX, atX}, {atW, -1, atY, atY}, {atW, -1, atZ, atZ},
	{atX, 1, atW, atX}, {atX, 1, atX, atW}, {atX, 1, atY, atZ}, {atX, -1, atZ, atY},
	{atY, 1, atW, atY}, {atY, 1, atY, atW}, {atY, 1, atZ, atX}, {atY, -1, atX, atZ},
	{atZ, 1, atW, atZ}, {atZ, 1, atZ, atW}, {atZ, 1, atX, atY}, {atZ, -1, atY, atX},
}

// turnParts are those of a rotation's matrix, whose places are counted row by row.
var turnParts = [24]part{
	{0, 1, atW, atW}, {0, 1, atX, atX}, {0, -1, atY, atY}, {0, -1, atZ, atZ},
	{1, 2, atX, atY}, {1, -2, atW, atZ},
	{2, 2, atX, atZ}, {2, 2, atW, atY},

	{3, 2, atX, atY}, {3, 2, atW, atZ},
	{4, 1, atW, atW}, {4, -1, atX, atX}, {4, 1, atY, atY}, {4, -1, atZ, atZ},
	{5, 2, atY, atZ}, {5, -2, atW, atX},

	{6, 2, atX, atZ}, {6, -2, atW, atY},
	{7, 2, atY, atZ}, {7, 2, atW, atX},
	{8, 1, atW, atW}, {8, -1, atX, atX}, {8, -1, atY, atY}, {8, 1, atZ, atZ},
}

// added is sum with the part added to it, of numbers p and q.
func (s part) added(sum api.Wide, p, q numbers) api.Wide {
	n, _ := wide.Mul(p[s.a], q[s.b])
	n, _ = wide.Mul(n, wide.Of(s.sign))
	sum, _ = wide.Add(sum, n)
	return sum
}

// product is exact, with twice as many bits behind the point as a number.
func product(p, q numbers) numbers {
	var all numbers
	for _, s := range productParts {
		all[s.at] = s.added(all[s.at], p, q)
	}
	return all
}

// turn is the matrix times the square, exact like a product.
func turn(q numbers) [side * side]api.Wide {
	var all [side * side]api.Wide
	for _, s := range turnParts {
		all[s.at] = s.added(all[s.at], q, q)
	}
	return all
}
