package wide

import "math/bits"

const (
	count  = 8       // limbs of a number
	topBit = 1 << 63 // of a limb
)

// limbs is a natural number below 2^512, the lowest limb first.
type limbs [count]uint64

// adder adds limb to limb, from the lowest on, and keeps what is carried between calls.
func adder(carry uint64) func(x, y uint64) uint64 {
	return func(x, y uint64) (low uint64) {
		low, carry = bits.Add64(x, y, carry)
		return low
	}
}

// multiplier takes each limb, from the lowest on, m times, adds one to it, and keeps what is carried between calls.
func multiplier(m uint64) func(x, y uint64) uint64 {
	var carry uint64
	return func(x, y uint64) uint64 {
		high, low := bits.Mul64(x, m)
		low, more := bits.Add64(low, y, 0)
		high += more
		low, more = bits.Add64(low, carry, 0)
		carry = high + more
		return low
	}
}

// plus is the sum, less 2^512 if it is above.
func plus(x, y limbs) limbs {
	add := adder(0)
	for i := range x {
		x[i] = add(x[i], y[i])
	}
	return x
}

// minus is the difference, and 2^512 more if it is below 0.
func minus(x, y limbs) limbs {
	add := adder(1)
	for i := range x {
		x[i] = add(x[i], ^y[i])
	}
	return x
}

// times is the product; it leaves by panic if that is 2^512 or above.
func times(x, y limbs) limbs {
	var all [2 * count]uint64
	m, n := used(x), used(y)
	for i := range m {
		add := multiplier(x[i])
		for j := range n {
			all[i+j] = add(y[j], all[i+j])
		}
		all[i+n] = add(0, 0)
	}
	var low, high limbs
	copy(low[:], all[:count])
	copy(high[:], all[count:])
	if high != (limbs{}) {
		panic(noAnswer)
	}
	return low
}

// window is the 512 bits from the one at first on: limbs below the lowest are 0, limbs above the top one are fill.
func window(x limbs, first int, fill uint64) limbs {
	at := func(i int) uint64 {
		if i < 0 {
			return 0
		}
		if i >= count {
			return fill
		}
		return x[i]
	}
	whole, part := first>>6, first&63
	var y limbs
	for i := range y {
		y[i] = at(i+whole)>>part | at(i+whole+1)<<(64-part)
	}
	return y
}

func compare(x, y limbs) int {
	for i := count - 1; i >= 0; i-- {
		if x[i] < y[i] {
			return -1
		}
		if x[i] > y[i] {
			return 1
		}
	}
	return 0
}

// used is how many limbs there are up to the highest one that is not 0.
func used(x limbs) int {
	n := count
	for n > 0 && x[n-1] == 0 {
		n--
	}
	return n
}

// length is how many bits there are up to the highest one that is set.
func length(x limbs) int {
	n := used(x)
	if n == 0 {
		return 0
	}
	return (n-1)*64 + bits.Len64(x[n-1])
}
