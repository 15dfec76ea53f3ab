package wide

import "math/bits"

// divide is x by y, rounded down, and what is left; y is not 0.
func divide(x, y limbs) (q, r limbs) {
	n := used(y)
	// With the divisor's top bit set, a guess by its top limb alone is at most 2 too great.
	shift := bits.LeadingZeros64(y[n-1])
	y = window(y, -shift, 0)
	var rest [count + 1]uint64
	low := window(x, -shift, 0)
	copy(rest[:], low[:])
	rest[count] = x[count-1] >> (64 - shift)
	for i := used(x) - n; i >= 0; i-- {
		q[i] = takeAll(rest[i:i+n+1], y[:n])
	}
	copy(r[:], rest[:count])
	return q, window(r, shift, 0)
}

// takeAll takes y away from rest as often as it can, and answers how often. The top bit of y is set, and rest, which has one limb more, is less than 2^64 times y.
func takeAll(rest, y []uint64) uint64 {
	n := len(y)
	q := guess(rest[n], rest[n-1], y[n-1])
	short := take(rest, y, q)
	for short {
		q--
		short = !giveBack(rest, y)
	}
	return q
}

// guess is how often top goes into the two limbs, or the greatest limb if it is more.
func guess(high, low, top uint64) uint64 {
	if high >= top {
		return ^uint64(0)
	}
	q, _ := bits.Div64(high, low, top)
	return q
}

// take takes q times y away from rest, and tells whether it fell below 0 by that.
func take(rest, y []uint64, q uint64) bool {
	multiply, add := multiplier(q), adder(1)
	for i := range y {
		rest[i] = add(rest[i], ^multiply(y[i], 0))
	}
	rest[len(y)] = add(rest[len(y)], ^multiply(0, 0))
	return add(0, 0) == 0
}

// giveBack adds y to rest, and tells whether it came back to 0 or above by that.
func giveBack(rest, y []uint64) bool {
	add := adder(0)
	for i := range y {
		rest[i] = add(rest[i], y[i])
	}
	rest[len(y)] = add(rest[len(y)], 0)
	return add(0, 0) == 1
}

// root is the greatest number whose square is not above x; x is below 2^511.
func root(x limbs) limbs {
	if x == (limbs{}) {
		return x
	}
	// Newton's way falls from above until it is there: it begins with a power of two that is not below the root.
	r := window(limbs{1}, -((length(x) + 1) / 2), 0)
	for {
		q, _ := divide(x, r)
		next := window(plus(r, q), 1, 0)
		if compare(next, r) >= 0 {
			return r
		}
		r = next
	}
}
