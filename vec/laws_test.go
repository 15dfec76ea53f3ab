package vec_test

import (
	"testing"

	"ninepin/api"
	"ninepin/vec"
)

// inside: has it not been brought in from beyond the limits, as far as it tells?
func inside(n api.Fix) bool { return api.MinFix < n && n < api.MaxFix }

// P3.6

func TestTurnedOver(t *testing.T) {
	same, lower := 0, 0
	l := vectors()
	for _, a := range l {
		if vec.Cross(a, a) != (api.Vec{}) {
			t.Error("Cross of a vector with itself", a)
		}
		for _, b := range l {
			if vec.Dot(a, b) != vec.Dot(b, a) {
				t.Fatal("Dot hangs on the order", a, b)
			}
			one, other := list(vec.Cross(a, b)), list(vec.Cross(b, a))
			each(func(i int) {
				if !inside(one[i]) || !inside(other[i]) {
					return
				}
				switch other[i] {
				case -one[i]:
					same++
				case -one[i] - 1:
					lower++
				default:
					t.Fatal("Cross turned over", a, b, one, other)
				}
			})
		}
	}
	if same < 1000 || lower < 1000 {
		t.Error("too few are within to tell", same, lower)
	}
}

// P3.7

func TestSquareOfLen(t *testing.T) {
	told := 0
	for _, a := range vectors() {
		down, up, whole := vec.Len(a), vec.LenUp(a), square(a)
		if squared(raw(down)).Cmp(whole) > 0 {
			t.Error("Len's square is above", a, down)
		}
		if !inside(down) {
			continue
		}
		told++
		if squared(raw(down+1)).Cmp(whole) <= 0 {
			t.Error("the next number's square is not above", a, down)
		}
		if squared(raw(up)).Cmp(whole) < 0 || up > 0 && squared(raw(up-1)).Cmp(whole) >= 0 {
			t.Error("LenUp's square is below, or that of the one before is not", a, up)
		}
	}
	if told < 100 {
		t.Error("too few lengths fit to tell", told)
	}
}

func TestSquareOfUnit(t *testing.T) {
	low, high := minus(power(64), power(34)), plus(power(64), power(34))
	for _, a := range vectors() {
		if a == (api.Vec{}) {
			continue
		}
		u, ok := vec.Unit(a)
		if !ok {
			t.Fatal("Unit", a)
		}
		for _, n := range list(u) {
			if n < -api.One || n > api.One {
				t.Error("a unit's number", a, u)
			}
		}
		if s := square(u); s.Cmp(low) < 0 || s.Cmp(high) > 0 {
			t.Error("a unit's square", a, u, s)
		}
	}
}

// P3.8

func TestAddOfSub(t *testing.T) {
	told := 0
	l := vectors()
	for _, a := range l {
		for _, b := range l {
			if difference := vec.Sub(a, b); fits(a, b) {
				told++
				if vec.Add(difference, b) != a || vec.Add(b, difference) != a {
					t.Fatal("Add of Sub", a, b)
				}
			}
		}
	}
	if told < 1000 {
		t.Error("too few fit to tell", told)
	}
}

// fits: is the exact difference a vector?
func fits(a, b api.Vec) bool {
	x, y, all := list(a), list(b), true
	each(func(i int) { all = all && minus(raw(x[i]), raw(y[i])).IsInt64() })
	return all
}

func TestNearBothWays(t *testing.T) {
	told := 0
	l := vectors()
	for _, a := range l {
		for _, b := range l {
			for _, r := range []api.Fix{-1, 0, 1, api.One, 1 << 47, api.MaxFix, a.X, b.Z} {
				if vec.Near(a, b, r) != vec.Near(b, a, r) {
					t.Fatal("Near hangs on the order", a, b, r)
				}
			}
			if !fits(a, b) || apart(a, b).Cmp(squared(raw(api.MaxFix))) > 0 {
				continue
			}
			told++
			if !vec.Near(a, b, vec.LenUp(vec.Sub(a, b))) {
				t.Fatal("not near by the length", a, b)
			}
		}
	}
	if told < 1000 {
		t.Error("too few fit to tell", told)
	}
}

func TestNearByTheLengthRoundedDown(t *testing.T) {
	l := vectors()
	for _, a := range l {
		for _, b := range l {
			length := vec.Len(vec.Sub(a, b))
			if !fits(a, b) || !inside(length) {
				continue
			}
			exact := squared(raw(length)).Cmp(apart(a, b)) == 0
			if vec.Near(a, b, length) != exact {
				t.Fatal("near by what is less than the length", a, b, length)
			}
		}
	}
}
