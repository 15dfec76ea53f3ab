package fix_test

import (
	"math"
	"math/big"
	"testing"

	"ninepin/api"
	"ninepin/fix"
	"ninepin/wide"
)

// P2.1

func TestOf(t *testing.T) {
	for _, c := range []struct {
		n    int64
		want api.Fix
	}{
		{0, 0}, {1, api.One}, {-1, -api.One}, {5, 5 * api.One},
		{1<<31 - 1, (1<<31 - 1) * api.One}, {1 << 31, api.MaxFix}, {1<<31 + 1, api.MaxFix}, {math.MaxInt64, api.MaxFix},
		{-1<<31 + 1, (-1<<31 + 1) * api.One}, {-1 << 31, api.MinFix}, {-1<<31 - 1, api.MinFix}, {math.MinInt64, api.MinFix},
	} {
		if got := fix.Of(c.n); got != c.want {
			t.Error("Of", c.n, got, c.want)
		}
	}
	for _, a := range numbers() {
		if got, want := fix.Of(int64(a)), within(times(raw(a), power(32))); got != want {
			t.Error("Of", int64(a), got, want)
		}
	}
}

func TestAddSub(t *testing.T) {
	l := numbers()
	for _, a := range l {
		for _, b := range l {
			if got, want := fix.Add(a, b), within(new(big.Int).Add(raw(a), raw(b))); got != want {
				t.Fatal("Add", a, b, got, want)
			}
			if got, want := fix.Sub(a, b), within(new(big.Int).Sub(raw(a), raw(b))); got != want {
				t.Fatal("Sub", a, b, got, want)
			}
		}
	}
	if fix.Add(api.MaxFix, 1) != api.MaxFix || fix.Add(api.MaxFix, 0) != api.MaxFix || fix.Add(api.MaxFix-1, 1) != api.MaxFix || fix.Add(api.MinFix, -1) != api.MinFix {
		t.Error("Add about the limits")
	}
	if fix.Sub(0, api.MinFix) != api.MaxFix || fix.Sub(-1, api.MinFix) != api.MaxFix || fix.Sub(-2, api.MinFix) != api.MaxFix-1 || fix.Sub(-1, api.MaxFix) != api.MinFix || fix.Sub(-2, api.MaxFix) != api.MinFix {
		t.Error("Sub about the limits")
	}
}

// P2.2

func TestMul(t *testing.T) {
	l := numbers()
	for _, a := range l {
		for _, b := range l {
			exact := times(raw(a), raw(b))
			if got, want := fix.Mul(a, b), within(below(exact, power(32))); got != want {
				t.Fatal("Mul", a, b, got, want)
			}
			if got, want := fix.MulUp(a, b), within(above(exact, power(32))); got != want {
				t.Fatal("MulUp", a, b, got, want)
			}
		}
	}
}

func TestMulExamples(t *testing.T) {
	if fix.Mul(1, 1) != 0 || fix.MulUp(1, 1) != 1 || fix.Mul(-1, 1) != -1 || fix.MulUp(-1, 1) != 0 {
		t.Error("Mul, MulUp of the least numbers")
	}
	if fix.Mul(api.MaxFix, api.MaxFix) != api.MaxFix || fix.MulUp(api.MinFix, api.MinFix) != api.MaxFix || fix.MulUp(api.MinFix, api.MaxFix) != api.MinFix {
		t.Error("Mul, MulUp beyond the limits")
	}
	if fix.Mul(api.MinFix, api.One) != api.MinFix || fix.Mul(api.MinFix, -api.One) != api.MaxFix || fix.MulUp(api.MaxFix, api.One) != api.MaxFix {
		t.Error("Mul, MulUp by 1 and -1")
	}
	// What is lost goes down below the least number, and then it is brought in; or up above the greatest one.
	if fix.Mul(api.MinFix, api.One+1) != api.MinFix || fix.MulUp(api.MinFix, api.One+1) != api.MinFix || fix.Mul(api.MaxFix, api.One+1) != api.MaxFix || fix.MulUp(api.MaxFix, api.One+1) != api.MaxFix {
		t.Error("Mul, MulUp just beyond the limits")
	}
	// (2^32 + 1)(2^63 - 2^31) is 2^31 (2^64 - 1): less than 2^95 by too little to be seen when it is rounded up.
	if fix.Mul(api.One+1, api.MaxFix-1<<31+1) != api.MaxFix || fix.MulUp(api.One+1, api.MaxFix-1<<31+1) != api.MaxFix || fix.Mul(-api.One-1, api.MaxFix-1<<31+1) != api.MinFix || fix.MulUp(-api.One-1, api.MaxFix-1<<31+1) != api.MinFix+1 {
		t.Error("Mul, MulUp of what just fits")
	}
}

func TestDiv(t *testing.T) {
	l := numbers()
	for _, a := range l {
		for _, b := range l {
			if b == 0 {
				continue
			}
			exact := times(raw(a), power(32))
			if got, want := fix.Div(a, b), within(below(exact, raw(b))); got != want {
				t.Fatal("Div", a, b, got, want)
			}
			if got, want := fix.DivUp(a, b), within(above(exact, raw(b))); got != want {
				t.Fatal("DivUp", a, b, got, want)
			}
		}
	}
}

func TestDivByZero(t *testing.T) {
	for _, a := range numbers() {
		want := api.Fix(0)
		if a > 0 {
			want = api.MaxFix
		}
		if a < 0 {
			want = api.MinFix
		}
		if fix.Div(a, 0) != want || fix.DivUp(a, 0) != want {
			t.Error("by 0", a, fix.Div(a, 0), fix.DivUp(a, 0))
		}
	}
}

func TestDivExamples(t *testing.T) {
	three := fix.Of(3)
	if fix.Div(api.One, three) != 1431655765 || fix.DivUp(api.One, three) != 1431655766 || fix.Div(-api.One, three) != -1431655766 || fix.DivUp(-api.One, three) != -1431655765 {
		t.Error("1 by 3, -1 by 3")
	}
	if fix.Div(api.One, -three) != -1431655766 || fix.DivUp(-api.One, -three) != 1431655766 {
		t.Error("by -3")
	}
	if fix.Div(api.MinFix, -1) != api.MaxFix || fix.Div(api.MinFix, 1) != api.MinFix || fix.Div(api.MinFix, -api.One) != api.MaxFix || fix.Div(api.MaxFix, -api.One) != -api.MaxFix || fix.DivUp(api.MaxFix, api.One-1) != api.MaxFix {
		t.Error("Div, DivUp beyond the limits")
	}
	if fix.Div(1, api.MaxFix) != 0 || fix.DivUp(1, api.MaxFix) != 1 || fix.Div(-1, api.MaxFix) != -1 || fix.DivUp(-1, api.MaxFix) != 0 {
		t.Error("by the greatest number")
	}
}

// P2.3

func TestSqrt(t *testing.T) {
	for _, a := range numbers() {
		if a < 0 {
			if fix.Sqrt(a) != 0 || fix.SqrtUp(a) != 0 {
				t.Error("of one below 0", a, fix.Sqrt(a), fix.SqrtUp(a))
			}
			continue
		}
		square := times(raw(a), power(32))
		floor := new(big.Int).Sqrt(square)
		ceiling := new(big.Int).Set(floor)
		if times(floor, floor).Cmp(square) != 0 {
			ceiling.Add(ceiling, big.NewInt(1))
		}
		if fix.Sqrt(a) != within(floor) || fix.SqrtUp(a) != within(ceiling) {
			t.Error("Sqrt, SqrtUp", a, fix.Sqrt(a), fix.SqrtUp(a), floor, ceiling)
		}
	}
}

func TestSqrtExamples(t *testing.T) {
	if fix.Sqrt(fix.Of(4)) != fix.Of(2) || fix.SqrtUp(fix.Of(4)) != fix.Of(2) || fix.SqrtUp(fix.Of(2))-fix.Sqrt(fix.Of(2)) != 1 {
		t.Error("of 4, of 2")
	}
	if fix.Sqrt(0) != 0 || fix.SqrtUp(0) != 0 || fix.Sqrt(1) != 1<<16 || fix.SqrtUp(1) != 1<<16 || fix.Sqrt(-1) != 0 || fix.SqrtUp(-1) != 0 || fix.SqrtUp(api.MinFix) != 0 {
		t.Error("of 0, of the next above and below, of the least")
	}
	// The root of 2^95 - 2^32 is just below that of 2^95, 199032864766430.4.
	if fix.Sqrt(api.MaxFix) != 199032864766430 || fix.SqrtUp(api.MaxFix) != 199032864766431 {
		t.Error("of the greatest number", fix.Sqrt(api.MaxFix), fix.SqrtUp(api.MaxFix))
	}
}

// P2.4

func TestIn(t *testing.T) {
	shifts := []int{math.MinInt, -64, -1, 0, 1, 2, 31, 32, 33, 62, 63, 64, 65, 95, 96, 97, 128, 300, 448, 510, 511, 512, 542, 543, 544, 545}
	for _, n := range wides() {
		for _, shift := range shifts {
			by := power(uint(max(shift, 0)))
			if got, want := fix.In(n, shift), within(below(times(exact(n), power(32)), by)); got != want {
				t.Fatal("In", exact(n), shift, got, want)
			}
		}
		last := api.Fix(0)
		if wide.Sign(n) < 0 {
			last = -1
		}
		for _, shift := range []int{600, 1 << 20, math.MaxInt - 1, math.MaxInt} {
			if got := fix.In(n, shift); got != last {
				t.Error("In by a great shift", exact(n), shift, got)
			}
		}
	}
}

func TestInAboutTheLimits(t *testing.T) {
	for _, c := range []struct {
		n     int64
		shift int
		want  api.Fix
	}{
		{7, 0, 7 * api.One}, {7, -3, 7 * api.One}, {7, math.MinInt, 7 * api.One}, {7, 1, 3*api.One + api.One/2}, {7, 32, 7}, {7, 33, 3}, {-7, 33, -4},
		{1<<31 - 1, 0, (1<<31 - 1) * api.One}, {1 << 31, 0, api.MaxFix}, {-1 << 31, 0, api.MinFix}, {-1<<31 - 1, 0, api.MinFix}, {-1<<31 - 1, -1, api.MinFix},
		{math.MaxInt64, 32, api.MaxFix}, {math.MinInt64, 32, api.MinFix}, {math.MaxInt64, 31, api.MaxFix}, {math.MinInt64, 31, api.MinFix}, {math.MaxInt64, 33, api.MaxFix >> 1},
	} {
		if got := fix.In(wide.Of(c.n), c.shift); got != c.want {
			t.Error("In", c.n, c.shift, got, c.want)
		}
	}
}

func TestClamp(t *testing.T) {
	for _, c := range []struct{ a, low, high, want api.Fix }{
		{5, 1, 9, 5}, {1, 1, 9, 1}, {9, 1, 9, 9}, {0, 1, 9, 1}, {10, 1, 9, 9}, {-5, -9, -1, -5}, {-10, -9, -1, -9},
		{api.MinFix, api.MinFix, api.MaxFix, api.MinFix}, {api.MaxFix, api.MinFix, api.MaxFix, api.MaxFix}, {api.MinFix, 0, 0, 0}, {api.MaxFix, 0, 0, 0},
		// Where low is above high.
		{0, 9, 1, 9}, {5, 9, 1, 9}, {8, 9, 1, 9}, {9, 9, 1, 1}, {10, 9, 1, 1},
	} {
		if got := fix.Clamp(c.a, c.low, c.high); got != c.want {
			t.Error("Clamp", c, got)
		}
	}
}

func TestFloor(t *testing.T) {
	for _, a := range numbers() {
		if got, want := fix.Floor(a), below(raw(a), power(32)); !want.IsInt64() || got != want.Int64() {
			t.Error("Floor", a, got, want)
		}
	}
	if fix.Floor(-1) != -1 || fix.Floor(0) != 0 || fix.Floor(api.One-1) != 0 || fix.Floor(api.One) != 1 || fix.Floor(-api.One) != -1 || fix.Floor(-api.One-1) != -2 || fix.Floor(api.MaxFix) != 1<<31-1 || fix.Floor(api.MinFix) != -1<<31 {
		t.Error("Floor about whole numbers and the limits")
	}
}
