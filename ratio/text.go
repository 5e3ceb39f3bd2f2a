package ratio

import (
	"strings"

	"numeral/api"
	"numeral/nat"
)

// Text is "n/d", or "n".
func Text(a api.Ratio) (string, api.Errno) {
	if e := Check(a); e != api.OK {
		return "", e
	}
	text, e := nat.Text(a.Num)
	if e != api.OK {
		return "", e
	}
	if a.Neg {
		text = "-" + text
	}
	if isOne(a.Den) {
		return text, api.OK
	}
	den, e := nat.Text(a.Den)
	if e != api.OK {
		return "", e
	}
	return text + "/" + den, api.OK
}

// Parse reads what Text writes, and fractions that are not in lowest terms; its int is the place of a fault. (MaxText digits are far from MaxLimbs limbs: no number is too long here.)
func Parse(s string) (api.Ratio, int, api.Errno) {
	if len(s) > api.MaxText {
		return api.Ratio{}, 0, api.ErrText
	}
	digits, neg := strings.CutPrefix(s, "-")
	numText, denText, over := strings.Cut(digits, "/")
	at := len(s) - len(digits)
	num, fault, e := nat.Parse(numText)
	if e != api.OK {
		return api.Ratio{}, at + fault, e
	}
	den := nat.Of(1)
	if over {
		at += len(numText) + len("/")
		den, fault, e = nat.Parse(denText)
		if e != api.OK {
			return api.Ratio{}, at + fault, e
		}
	}
	r, e := Make(neg, num, den)
	if e != api.OK {
		return api.Ratio{}, at, e
	}
	return r, 0, api.OK
}
