package quat

import (
	"ninepin/api"
	"ninepin/fix"
	"ninepin/wide"
)

// places is how many bits a number has behind the point; a product of k numbers has k times as many.
const places = 32

// numbers are the raw ones of a quaternion, or exact products. What is reckoned with them here stays below 2^196, so all of it fits.
type numbers [size]api.Wide

func raw(q api.Quat) numbers {
	return numbers{wide.Of(int64(q.W)), wide.Of(int64(q.X)), wide.Of(int64(q.Y)), wide.Of(int64(q.Z))}
}

// each goes over the four places, and answers the quaternion of what do answers for each of them.
func each(do func(at int) api.Fix) api.Quat {
	return api.Quat{W: do(atW), X: do(atX), Y: do(atY), Z: do(atZ)}
}

func square(l numbers) api.Wide {
	var all api.Wide
	for _, n := range l {
		one, _ := wide.Mul(n, n)
		all, _ = wide.Add(all, one)
	}
	return all
}

// check holds a square against 1/4 and 4.
func check(square api.Wide) api.Errno {
	least, _ := wide.Shl(wide.Of(1), 2*places-2)
	most, _ := wide.Shl(wide.Of(1), 2*places+2)
	if wide.Cmp(square, least) < 0 || wide.Cmp(square, most) > 0 {
		return api.ErrTurn
	}
	return api.OK
}

// quotient is n by d, which have as many bits behind the point, brought in.
func quotient(n, d api.Wide) api.Fix {
	lifted, _ := wide.Shl(n, places)
	floor, _, _ := wide.Div(lifted, d)
	return fix.In(floor, places)
}

// share is n by the root of whole, rounded down. It goes by the squares, so that no rounded root is divided by.
func share(n, whole api.Wide) api.Fix {
	part, _ := wide.Mul(n, n)
	part, _ = wide.Shl(part, 2*places)
	by, _, _ := wide.Div(part, whole)
	floor, _ := wide.Sqrt(by)
	length := fix.In(floor, places)
	if wide.Sign(n) >= 0 {
		return length
	}
	back, _ := wide.Mul(floor, floor)
	back, _ = wide.Mul(back, whole)
	// Below 0, down is away from 0.
	if back != part {
		length++
	}
	return -length
}
