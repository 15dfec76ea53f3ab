package fix

import (
	"strconv"
	"strings"

	"ninepin/api"
)

// signs are those of what is behind the point, by what they count.
const signs = "0123456789abcdef"

// signBits is how many bits one of the signs tells.
const signBits = 4

// Text: a number as a text.
func Text(a api.Fix) string {
	var text []byte
	put := func(part string) { text = append(text, part...) }
	// Without a sign, as the absolute value of MinFix is no int64.
	size := uint64(a)
	if a < 0 {
		put("-")
		size = -size
	}
	put(strconv.FormatUint(size>>places, 10))
	put(".")
	for i := range places / signBits {
		at := size << (places + signBits*i) >> (64 - signBits)
		put(signs[at : at+1])
	}
	return string(text)
}

// Parse: a text as a number.
func Parse(s string) (api.Fix, api.Errno) {
	a, ok := read(s)
	// Many texts read like a number, but only one is its own: that which Text tells.
	if !ok || Text(a) != s {
		return 0, api.ErrForm
	}
	return a, api.OK
}

// read takes each number's text, and others that look like one; a number that does not fit wraps round.
func read(s string) (api.Fix, bool) {
	size, below := strings.CutPrefix(s, "-")
	ahead, behind, _ := strings.Cut(size, ".")
	whole, wrong := strconv.ParseUint(ahead, 10, places)
	if wrong != nil {
		return 0, false
	}
	part, wrong := strconv.ParseUint(behind, 16, places)
	if wrong != nil {
		return 0, false
	}
	raw := api.Fix(whole<<places | part)
	if below {
		raw = -raw
	}
	return raw, true
}
