package lex

import (
	"math"
	"math/big"
	"strconv"
	"strings"
	"testing"

	"numeral/api"
)

// wholes is odd numbers of every length of bits up to some limbs, and of all lengths near MaxLimbs.
func wholes() []*big.Int {
	var all []*big.Int
	one := big.NewInt(1)
	for bits := 1; bits <= 140; bits++ {
		high := new(big.Int).Lsh(one, uint(bits-1))
		all = append(all, new(big.Int).Or(high, one), new(big.Int).Sub(new(big.Int).Lsh(high, 1), one))
	}
	for bits := 32*api.MaxLimbs - 5; bits <= 32*api.MaxLimbs; bits++ {
		high := new(big.Int).Lsh(one, uint(bits-1))
		all = append(all, new(big.Int).Or(high, one), new(big.Int).Sub(new(big.Int).Lsh(high, 1), one))
	}
	r := source(3)
	for range 300 {
		n := new(big.Int).SetUint64(r.Uint64())
		for range r.IntN(4) {
			n.Or(n.Lsh(n, 64), new(big.Int).SetUint64(r.Uint64()))
		}
		all = append(all, n.Or(n.Rsh(n, uint(r.IntN(64))), one))
	}
	return all
}

// hexOf is sixteens of a whole number that is odd.
func hexOf(neg bool, mant *big.Int, exp int) api.Number {
	return api.Number{Kind: api.NumHex, Neg: neg, Hex: api.Dyadic{Neg: neg, Mant: natOf(mant), Exp: exp}}
}

// sixesText is the text of sixteens by Go's own: the bits behind the highest one, filled up to whole sixteens.
func sixesText(n api.Number, mant *big.Int) string {
	sign := ""
	if n.Neg {
		sign = "-"
	}
	high := mant.BitLen() - 1
	rest := new(big.Int).SetBit(mant, high, 0)
	sixes := (high + 3) / 4
	rest.Lsh(rest, uint(4*sixes-high))
	text := rest.Text(16)
	if sixes == 0 {
		text = ""
	} else {
		text = "." + again("0", sixes-len(text)) + text
	}
	return sign + "0x1" + text + "p" + strconv.Itoa(n.Hex.Exp+high)
}

func TestP114TextOfSixteens(t *testing.T) {
	for i, mant := range wholes() {
		for _, exp := range []int{0, 1, -1, -1074, far, -far, i, -i} {
			n := hexOf(i%2 == 0, mant, exp)
			if got, want := mustText(t, n), sixesText(n, mant); got != want {
				t.Errorf("Text(%s): %s; want %s", show(n), shortened(got), shortened(want))
			}
		}
	}
	for _, c := range []struct {
		n    api.Number
		want string
	}{
		{hexNum(false, 0, 0), "0x0p0"}, {hexNum(true, 0, 0), "-0x0p0"}, {hexNum(false, 1, 0), "0x1p0"}, {hexNum(true, 1, -5), "-0x1p-5"}, {hexNum(false, 3, 0), "0x1.8p1"}, {hexNum(false, 17, 0), "0x1.1p4"}, {hexNum(false, 31, 0), "0x1.fp4"}, {hexNum(false, 33, 0), "0x1.08p5"}, {hexNum(false, 0x155, 3), "0x1.55p11"}, {hexNum(false, 1, far), "0x1p1073741824"}, {hexNum(false, 3, far), "0x1.8p1073741825"}, {hexNum(false, 1, -far), "0x1p-1073741824"}, {hexNum(false, 0x1f_0000_0001, 0), "0x1.f00000001p36"},
	} {
		if got := mustText(t, c.n); got != c.want {
			t.Errorf("Text(%s): %s; want %s", show(c.n), got, c.want)
		}
	}
}

func TestP114TextOfOthers(t *testing.T) {
	for _, c := range []struct {
		n    api.Number
		want string
	}{
		{decNum(false, "", 0), "0"}, {decNum(true, "", 0), "-0"}, {decNum(false, "1", 0), "1"}, {decNum(true, "125", 2), "-125e2"}, {decNum(false, "125", -2), "125e-2"}, {decNum(false, "1", far), "1e1073741824"}, {decNum(true, "1", -far), "-1e-1073741824"},
		{decNum(true, again("9", most), -far), "-" + again("9", most) + "e-1073741824"}, {decNum(false, again("9", most), 0), again("9", most)},
		{inf(false), "inf"}, {inf(true), "-inf"}, {nan(false, 0), "nan"}, {nan(true, 0), "-nan"}, {nan(false, 1), "nan(1)"}, {nan(true, 1<<51-1), "-nan(2251799813685247)"},
	} {
		if got := mustText(t, c.n); got != c.want {
			t.Errorf("Text(%s): %s; want %s", show(c.n), shortened(got), shortened(c.want))
		}
	}
}

// mayNotBe is numbers of each kind that no text says.
func mayNotBe() map[string]api.Number {
	all := map[string]api.Number{
		"the zero one": {}, "kind 5": {Kind: 5}, "kind 255": {Kind: 255}, "kind 0 with a decimal": {Dec: api.Dec{Digits: "1"}},
		"a payload of 2^51": nan(false, 1<<51), "a payload of 2^52": nan(true, 1<<52), "the greatest payload": nan(false, math.MaxUint64), "a payload of 2^63": nan(false, 1<<63),
		"an even number":      {Kind: api.NumHex, Hex: api.Dyadic{Mant: api.Nat{Limbs: []uint32{2}}}},
		"a limb 0 at the end": {Kind: api.NumHex, Hex: api.Dyadic{Mant: api.Nat{Limbs: []uint32{1, 0}}}},
		"a limb 0 alone":      {Kind: api.NumHex, Hex: api.Dyadic{Mant: api.Nat{Limbs: []uint32{0}}}},
		"too many limbs":      hexOf(false, new(big.Int).Or(new(big.Int).Lsh(big.NewInt(1), 32*api.MaxLimbs), big.NewInt(1)), 0),
		"nought with Neg":     {Kind: api.NumHex, Neg: true, Hex: api.Dyadic{Neg: true}}, "nought with Hex's Neg alone": {Kind: api.NumHex, Hex: api.Dyadic{Neg: true}}, "nought with an exponent": {Kind: api.NumHex, Hex: api.Dyadic{Exp: 1}},
		"sixteens beyond": hexNum(false, 1, far+1), "sixteens below": hexNum(true, 1, -far-1), "sixteens far below": hexNum(true, 1, math.MinInt),
		"Neg without Hex's": {Kind: api.NumHex, Neg: true, Hex: hexNum(false, 3, 0).Hex}, "Hex's Neg without Neg": {Kind: api.NumHex, Hex: hexNum(true, 3, 0).Hex},
		"Neg without Dec's": {Kind: api.NumDec, Neg: true, Dec: api.Dec{Digits: "1"}}, "Dec's Neg without Neg": {Kind: api.NumDec, Dec: api.Dec{Neg: true, Digits: "1"}}, "nought with Neg without Dec's": {Kind: api.NumDec, Neg: true}, "nought with Dec's Neg without Neg": {Kind: api.NumDec, Dec: api.Dec{Neg: true}},
		"a nought behind": decNum(false, "10", 0), "a nought ahead": decNum(false, "01", 0), "a nought alone": decNum(false, "0", 0), "no digit": decNum(false, "1x1", 0), "a decimal beyond": decNum(false, "1", far+1), "a decimal below": decNum(false, "1", -far-1), "a nought with an exponent": decNum(true, "", 1), "too many digits": decNum(false, again("1", most+1), 0), "another script's digit": decNum(false, "٣", 0),
	}
	other := map[string]func(n *api.Number){
		"Dec.Neg":    func(n *api.Number) { n.Dec.Neg = true },
		"Dec.Digits": func(n *api.Number) { n.Dec.Digits = "1" },
		"Dec.Exp":    func(n *api.Number) { n.Dec.Exp = 1 },
		"Hex.Neg":    func(n *api.Number) { n.Hex.Neg = true },
		"Hex.Mant":   func(n *api.Number) { n.Hex.Mant.Limbs = []uint32{1} },
		"Hex.Exp":    func(n *api.Number) { n.Hex.Exp = -1 },
		"Payload":    func(n *api.Number) { n.Payload = 1 },
	}
	for what, n := range map[string]api.Number{"Dec of ": decNum(false, "7", 0), "Hex of ": hexNum(false, 7, 0), "inf, ": inf(false), "nan, ": nan(false, 0), "-Dec of ": decNum(true, "7", 0), "-Hex of ": hexNum(true, 0, 0), "-inf, ": inf(true), "-nan, ": nan(true, 7)} {
		for field, set := range other {
			own := strings.HasPrefix(strings.TrimPrefix(what, "-"), field[:3]) || field == "Payload" && n.Kind == api.NumNaN
			if !own {
				changed := n
				set(&changed)
				all[what+"7 with "+field] = changed
			}
		}
	}
	return all
}

func TestP114CheckAndTextOfNumbersThatMayNotBe(t *testing.T) {
	for what, n := range mayNotBe() {
		if e := Check(n); e != api.ErrNumber {
			t.Errorf("Check of %s: %d", what, int(e))
		}
		if s, e := Text(n); e != api.ErrNumber || s != "" {
			t.Errorf("Text of %s: %q, %d", what, s, int(e))
		}
	}
}

func TestP114CheckOfNumbersThatMayBe(t *testing.T) {
	for _, n := range []api.Number{
		decNum(false, "", 0), decNum(true, "", 0), decNum(false, "1", far), decNum(true, "1", -far), decNum(false, again("7", most), 0), hexNum(false, 0, 0), hexNum(true, 0, 0), hexNum(false, 1, far), hexNum(true, 7, -far),
		hexOf(true, new(big.Int).Sub(new(big.Int).Lsh(big.NewInt(1), 32*api.MaxLimbs), big.NewInt(1)), 0), inf(false), inf(true), nan(false, 0), nan(true, 1<<51-1),
		// a list without elements, nil or not, is the same
		{Kind: api.NumDec, Dec: api.Dec{Digits: "1"}, Hex: api.Dyadic{Mant: api.Nat{Limbs: []uint32{}}}}, {Kind: api.NumHex, Neg: true, Hex: api.Dyadic{Mant: api.Nat{Limbs: []uint32{}}}}, {Kind: api.NumInf, Hex: api.Dyadic{Mant: api.Nat{Limbs: make([]uint32, 0, 5)}}},
	} {
		if e := Check(n); e != api.OK {
			t.Errorf("Check(%s): %d", show(n), int(e))
		}
		mustText(t, n)
	}
}
