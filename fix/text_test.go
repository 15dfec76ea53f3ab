package fix_test

import (
	"fmt"
	"math/big"
	"regexp"
	"strings"
	"testing"

	"ninepin/api"
	"ninepin/fix"
)

var form = regexp.MustCompile(`^-?(0|[1-9][0-9]*)\.[0-9a-f]{8}$`)

// number is that whose text s is, and whether there is one, without the package that is tested.
func number(s string) (api.Fix, bool) {
	if !form.MatchString(s) || s == "-0.00000000" {
		return 0, false
	}
	point := strings.IndexByte(s, '.')
	whole, _ := new(big.Int).SetString(strings.TrimPrefix(s[:point], "-"), 10)
	behind, _ := new(big.Int).SetString(s[point+1:], 16)
	n := whole.Add(whole.Lsh(whole, 32), behind)
	if s[0] == '-' {
		n.Neg(n)
	}
	if !n.IsInt64() {
		return 0, false
	}
	return api.Fix(n.Int64()), true
}

func checkParse(t *testing.T, s string) {
	want, ok := number(s)
	wrong := api.ErrForm
	if ok {
		wrong = api.OK
	}
	if got, e := fix.Parse(s); got != want || e != wrong {
		t.Errorf("Parse %.40q: %d, %v, not %d, %v", s, got, e, want, wrong)
	}
}

// P2.5

func TestText(t *testing.T) {
	for _, c := range []struct {
		a    api.Fix
		want string
	}{
		{0, "0.00000000"}, {1, "0.00000001"}, {-1, "-0.00000001"}, {api.One, "1.00000000"}, {-api.One, "-1.00000000"}, {api.One + api.One/2, "1.80000000"},
		{api.One - 1, "0.ffffffff"}, {-api.One + 1, "-0.ffffffff"}, {0x9abcdef0, "0.9abcdef0"}, {10*api.One + 0x12345678, "10.12345678"}, {-100 * api.One, "-100.00000000"},
		{api.MaxFix, "2147483647.ffffffff"}, {api.MinFix, "-2147483648.00000000"}, {api.MinFix + 1, "-2147483647.ffffffff"},
	} {
		if got := fix.Text(c.a); got != c.want {
			t.Error("Text", int64(c.a), got, c.want)
		}
	}
	for _, a := range numbers() {
		sign, size := "", raw(a)
		if a < 0 {
			sign = "-"
		}
		size.Abs(size)
		behind := new(big.Int).Mod(size, power(32))
		if got, want := fix.Text(a), fmt.Sprintf("%s%d.%08x", sign, size.Rsh(size, 32), behind); got != want {
			t.Error("Text", int64(a), got, want)
		}
	}
}

func TestParse(t *testing.T) {
	for _, c := range []struct {
		s    string
		want api.Fix
	}{
		{"0.00000000", 0}, {"1.80000000", api.One + api.One/2}, {"-0.00000001", -1}, {"-3.40000000", -3*api.One - api.One/4}, {"10.0000000a", 10*api.One + 10},
		{"2147483647.ffffffff", api.MaxFix}, {"-2147483648.00000000", api.MinFix},
	} {
		if got, e := fix.Parse(c.s); got != c.want || e != api.OK {
			t.Error("Parse", c.s, got, e)
		}
	}
}

func TestParseOfNoNumber(t *testing.T) {
	for _, s := range []string{
		"", "-", ".", "-.", "0", "1", "-1", "1.", ".00000000", "-.00000000", "1.8", "1.0000000", "1.000000000", "1.00000000.00000000", "1..00000000", "1.0000.0000",
		"-0.00000000", "01.00000000", "00.00000000", "-00.00000001", "--1.00000000", "+1.00000000", "1.+0000000", "1.-0000000", "-+1.00000000", "1-.00000000",
		"1.0000000A", "1.0000000G", "1.0000000g", "a.00000000", "1,00000000", "1_0.00000000", "1.0000_0000", "0x1.00000000", "1.0x000000", "0b1.00000000", "1e1.00000000",
		" 1.00000000", "1.00000000 ", "1 .00000000", "1.00000000\n", "\x001.00000000", "1.00000000\x00", "１.00000000", "1.0000000\xff", "\xff\xfe",
		"2147483648.00000000", "2147483648.00000001", "-2147483648.00000001", "-2147483649.00000000", "4294967295.ffffffff", "-4294967295.ffffffff", "4294967296.00000000", "4294967297.00000000", "18446744073709551617.00000000", "-18446744073709551616.00000001",
		"inf", "NaN", "-2147483648", "true", strings.Repeat("9", 100000) + ".00000000", strings.Repeat("0", 100000) + "1.00000000", "1." + strings.Repeat("0", 100000), strings.Repeat("-", 100000) + "1.00000000",
	} {
		if got, e := fix.Parse(s); got != 0 || e != api.ErrForm {
			t.Errorf("Parse %.40q: %d, %v", s, got, e)
		}
		checkParse(t, s)
	}
}

// Each text that differs from a number's at one place is another number's, or none's.
func TestParseOfTextsNearby(t *testing.T) {
	for _, a := range edges() {
		s := fix.Text(a)
		for i := range len(s) + 1 {
			for _, sign := range []string{"0", "1", "9", "a", "f", "A", "-", "+", ".", "_", " ", "é"} {
				checkParse(t, s[:i]+sign+s[i:])
				if i < len(s) {
					checkParse(t, s[:i]+sign+s[i+1:])
				}
			}
			checkParse(t, s[:i])
			checkParse(t, s[i:])
			if i < len(s) {
				checkParse(t, s[:i]+s[i+1:])
			}
		}
	}
}

// P2.8

func TestParseOfText(t *testing.T) {
	for _, a := range numbers() {
		if got, e := fix.Parse(fix.Text(a)); got != a || e != api.OK {
			t.Error("Parse of Text", int64(a), fix.Text(a), got, e)
		}
	}
}

func TestTextOfParse(t *testing.T) {
	taken := 0
	for _, sign := range []string{"", "-"} {
		for _, whole := range []string{"0", "1", "9", "10", "12", "999", "65536", "2147483647", "2147483648", "00", "x"} {
			for _, behind := range []string{"00000000", "00000001", "0000000f", "80000000", "fedcba98", "ffffffff", "FFFFFFFF", "0"} {
				s := sign + whole + "." + behind
				a, e := fix.Parse(s)
				if e != api.OK {
					continue
				}
				taken++
				if fix.Text(a) != s {
					t.Error("Text of Parse", s, fix.Text(a))
				}
			}
		}
	}
	// Eight whole parts with six behind, above and below 0, but for -0; and -2147483648.
	if taken != 2*8*6-1+1 {
		t.Error("so many texts are taken:", taken)
	}
}
