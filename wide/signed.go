package wide

import "ninepin/api"

// noAnswer is what leaves by panic where an answer does not fit, or there is none.
const noAnswer = "wide: no answer"

// face answers what find finds, or 0 and false if that leaves by panic.
func face(find func() api.Wide) (a api.Wide, ok bool) {
	defer func() { ok = recover() == nil }()
	return find(), true
}

func below(a api.Wide) bool { return a.L[count-1]&topBit != 0 }

// fill is the limb that stands, without end, above the top one.
func fill(a api.Wide) uint64 {
	if below(a) {
		return ^uint64(0)
	}
	return 0
}

// size is the absolute value; that of the least number fits as well, as limbs have no sign.
func size(a api.Wide) limbs {
	if below(a) {
		return minus(limbs{}, a.L)
	}
	return a.L
}

// signed is the number with that absolute value, negative or not.
func signed(absolute limbs, negative bool) api.Wide {
	a := api.Wide{L: absolute}
	if negative {
		a.L = minus(limbs{}, absolute)
	}
	if absolute != (limbs{}) && below(a) != negative {
		panic(noAnswer)
	}
	return a
}

func sum(a, b api.Wide) api.Wide {
	c := api.Wide{L: plus(a.L, b.L)}
	// Only numbers of one sign can go out of range, and then the sign turns.
	if below(a) == below(b) && below(c) != below(a) {
		panic(noAnswer)
	}
	return c
}

func difference(a, b api.Wide) api.Wide {
	c := api.Wide{L: minus(a.L, b.L)}
	if below(a) != below(b) && below(c) != below(a) {
		panic(noAnswer)
	}
	return c
}

// raised is a times 2^n.
func raised(a api.Wide, n int) api.Wide {
	if n < 0 {
		panic(noAnswer)
	}
	b := api.Wide{L: window(a.L, -n, 0)}
	// It fits if no bit that differs from the sign was lost, so if the way back leads to a.
	if window(b.L, n, fill(b)) != a.L {
		panic(noAnswer)
	}
	return b
}

// quotient is a by b, rounded down, and what is left.
func quotient(a, b api.Wide) (q, r api.Wide) {
	if b == (api.Wide{}) {
		panic(noAnswer)
	}
	by, rest := divide(size(a), size(b))
	unlike := below(a) != below(b)
	// Below 0, down is away from 0: one more, and what is left is on the side of b.
	if unlike && rest != (limbs{}) {
		by = plus(by, limbs{1})
		rest = minus(size(b), rest)
	}
	return signed(by, unlike), signed(rest, below(b))
}
