// Package wide is layer 1: see shared/doc/01-wide.md.
package wide

import "ninepin/api"

// Of: a number.
func Of(n int64) api.Wide {
	var a api.Wide
	for i := range a.L {
		a.L[i] = uint64(n >> 63)
	}
	a.L[0] = uint64(n)
	return a
}

// Int: a number, if it is an int64.
func Int(a api.Wide) (int64, bool) {
	n := int64(a.L[0])
	if a != Of(n) {
		return 0, false
	}
	return n, true
}

// Sign: -1, 0 or 1.
func Sign(a api.Wide) int {
	if below(a) {
		return -1
	}
	if a == (api.Wide{}) {
		return 0
	}
	return 1
}

// Cmp holds two against each other.
func Cmp(a, b api.Wide) int {
	// Two's complement stands in the order of natural numbers once its top bit is turned over.
	a.L[count-1] ^= topBit
	b.L[count-1] ^= topBit
	return compare(a.L, b.L)
}

// Neg: less than 0 by as much.
func Neg(a api.Wide) (api.Wide, bool) {
	return face(func() api.Wide { return difference(api.Wide{}, a) })
}

// Add: the sum.
func Add(a, b api.Wide) (api.Wide, bool) {
	return face(func() api.Wide { return sum(a, b) })
}

// Sub: the difference.
func Sub(a, b api.Wide) (api.Wide, bool) {
	return face(func() api.Wide { return difference(a, b) })
}

// Mul: the product.
func Mul(a, b api.Wide) (api.Wide, bool) {
	return face(func() api.Wide { return signed(times(size(a), size(b)), below(a) != below(b)) })
}

// Shl: times a power of two.
func Shl(a api.Wide, n int) (api.Wide, bool) {
	return face(func() api.Wide { return raised(a, n) })
}

// Shr: by a power of two, rounded down.
func Shr(a api.Wide, n int) api.Wide {
	return api.Wide{L: window(a.L, max(n, 0), fill(a))}
}

// Div: by a number, rounded down, and what is left.
func Div(a, b api.Wide) (q, r api.Wide, ok bool) {
	var left api.Wide
	q, ok = face(func() api.Wide {
		by, rest := quotient(a, b)
		left = rest
		return by
	})
	return q, left, ok
}

// Sqrt: the root, rounded down.
func Sqrt(a api.Wide) (api.Wide, bool) {
	return face(func() api.Wide {
		if below(a) {
			panic(noAnswer)
		}
		return signed(root(a.L), false)
	})
}

// Bits: how many bits the absolute value has.
func Bits(a api.Wide) int { return length(size(a)) }
