package hex

import (
	"strconv"
	"strings"

	"numeral/api"
	"numeral/forms"
)

// Dump is the bits themselves in sixteens.
func Dump(f api.Form, bits uint64) (string, api.Errno) {
	if e := forms.Fits(f, bits); e != api.OK {
		return "", e
	}
	digits := strconv.FormatUint(bits, 16)
	return "0x" + strings.Repeat("0", sixteensOf(f)-len(digits)) + digits, api.OK
}

// Load is the bits that a text of Dump's kind says; beside ErrSyntax and ErrBits, the place of what is wrong.
func Load(f api.Form, s string) (uint64, int, api.Errno) {
	if e := forms.Check(f); e != api.OK {
		return 0, 0, e
	}
	if len(s) > api.MaxText {
		return 0, 0, api.ErrText
	}
	at := 0
	// take passes over the byte that stands there and tells which of the bytes it is; -1, and nothing is passed over, if it is none of them.
	take := func(among string) int {
		if at == len(s) {
			return -1
		}
		which := strings.IndexByte(among, s[at])
		if which >= 0 {
			at++
		}
		return which
	}
	if take("0") < 0 || take("xX") < 0 {
		return 0, at, api.ErrSyntax
	}
	bits, left := uint64(0), sixteensOf(f)
digit:
	which := take("0123456789abcdefABCDEF")
	if which < 0 {
		return 0, at, api.ErrSyntax
	}
	bits = bits<<4 | worth(which)
	left--
	if left > 0 {
		goto digit
	}
	if at < len(s) {
		return 0, at, api.ErrSyntax
	}
	if e := forms.Fits(f, bits); e != api.OK {
		return 0, len("0x"), e
	}
	return bits, 0, api.OK
}

// worth is what a sixteen is worth: the great letters stand behind the small ones.
func worth(which int) uint64 {
	if which >= 16 {
		which -= 6
	}
	return uint64(which)
}

// sixteensOf is how many sixteens the bits of a form have.
func sixteensOf(f api.Form) int { return (1 + f.Exp + f.Frac + 3) / 4 }
