package read

import (
	"math"
	"math/big"
	"slices"
	"testing"

	"numeral/api"
	"numeral/nat"
)

// answers are by every mode, in the order of their numbers.
type answers [5]told

func flagged(flags uint8, bits ...uint64) (a answers) {
	for i, b := range bits {
		a[i] = told{b, flags}
	}
	return a
}

func alike(bits uint64) answers { return flagged(0, bits, bits, bits, bits, bits) }

// numberAnswers wants these answers of Number, of n and of n with the other sign; that rounds by the mirrored mode.
func numberAnswers(t *testing.T, f api.Form, n api.Number, want answers) {
	t.Helper()
	for _, mode := range everyMode {
		numberIs(t, f, n, mode, want[mode], api.OK)
		other := want[mirror[mode]]
		other.bits ^= signBit(f)
		numberIs(t, f, turnedNumber(n), mode, other, api.OK)
	}
}

func turnedNumber(n api.Number) api.Number {
	n.Neg = !n.Neg
	switch {
	case n.Kind == api.NumDec:
		n.Dec.Neg = n.Neg
	case n.Kind == api.NumHex && len(n.Hex.Mant.Limbs) > 0:
		n.Hex.Neg = n.Neg
	}
	return n
}

func TestP161DecimalsWrittenOut(t *testing.T) {
	for _, c := range []struct {
		f    api.Form
		n    api.Number
		want answers
	}{
		{half, decimal("1", 0), alike(0x3c00)},
		{half, decimal("15", -1), alike(0x3e00)},
		{half, decimal("1", -1), flagged(inexact, 0x2e66, 0x2e66, 0x2e66, 0x2e67, 0x2e66)},
		{half, decimal("-314159", -5), flagged(inexact, 0xc248, 0xc248, 0xc248, 0xc248, 0xc249)},
		{half, decimal("2049", 0), flagged(inexact, 0x6800, 0x6801, 0x6800, 0x6801, 0x6800)},
		{half, decimal("2051", 0), flagged(inexact, 0x6802, 0x6802, 0x6801, 0x6802, 0x6801)},
		{half, decimal("65504", 0), alike(0x7bff)},
		{single, decimal("1", -1), flagged(inexact, 0x3dcccccd, 0x3dcccccd, 0x3dcccccc, 0x3dcccccd, 0x3dcccccc)},
		{single, decimal("16777217", 0), flagged(inexact, 0x4b800000, 0x4b800001, 0x4b800000, 0x4b800001, 0x4b800000)},
		{single, decimal("-16777216", 0), alike(0xcb800000)},
		{single, decimal("1", 10), alike(0x501502f9)},
		{single, decimal("1", 11), flagged(inexact, 0x51ba43b7, 0x51ba43b7, 0x51ba43b7, 0x51ba43b8, 0x51ba43b7)},
		{double, decimal("1", -1), flagged(inexact, 0x3fb999999999999a, 0x3fb999999999999a, 0x3fb9999999999999, 0x3fb999999999999a, 0x3fb9999999999999)},
		{double, decimal("3", -1), flagged(inexact, 0x3fd3333333333333, 0x3fd3333333333333, 0x3fd3333333333333, 0x3fd3333333333334, 0x3fd3333333333333)},
		{double, decimal("5", -1), alike(0x3fe0000000000000)},
		{double, decimal("1", 22), alike(0x4480f0cf064dd592)},
		{double, decimal("-1", 23), flagged(inexact, 0xc4b52d02c7e14af6, 0xc4b52d02c7e14af7, 0xc4b52d02c7e14af6, 0xc4b52d02c7e14af6, 0xc4b52d02c7e14af7)},
		{double, decimal("9007199254740993", 0), flagged(inexact, 0x4340000000000000, 0x4340000000000001, 0x4340000000000000, 0x4340000000000001, 0x4340000000000000)},
		{double, decimal("90071992547409930000000000000000001", -19), flagged(inexact, 0x4340000000000001, 0x4340000000000001, 0x4340000000000000, 0x4340000000000001, 0x4340000000000000)},
		{double, decimal("90071992547409929999999999999999999", -19), flagged(inexact, 0x4340000000000000, 0x4340000000000000, 0x4340000000000000, 0x4340000000000001, 0x4340000000000000)},
		{brain, decimal("314159", -5), flagged(inexact, 0x4049, 0x4049, 0x4049, 0x404a, 0x4049)},
		{least, decimal("1", 0), alike(2)},
		{least, decimal("125", -2), flagged(inexact, 2, 3, 2, 3, 2)},
		{least, decimal("25", -1), flagged(inexact, 4, 5, 4, 5, 4)},
		{form(2, 52), decimal("1", -1), flagged(underflow, 0x199999999999a, 0x199999999999a, 0x1999999999999, 0x199999999999a, 0x1999999999999)},
	} {
		numberAnswers(t, c.f, c.n, c.want)
	}
}

// Nought has its number's sign, by every mode and without a flag.
func TestP161Noughts(t *testing.T) {
	for _, f := range someForms() {
		for _, n := range []api.Number{decimal("", 0), {Kind: api.NumHex}} {
			numberAnswers(t, f, n, alike(0))
		}
	}
}

func TestP161SixteensWrittenOut(t *testing.T) {
	hex := func(neg bool, n uint64, exp int) api.Number {
		return api.Number{Kind: api.NumHex, Neg: neg, Hex: dyadic(neg, new(big.Int).SetUint64(n), exp)}
	}
	for _, c := range []struct {
		f    api.Form
		n    api.Number
		want answers
	}{
		{half, hex(false, 3, 2), alike(0x4a00)},
		{half, hex(true, 1, -24), alike(0x8001)},
		{half, hex(false, 1, -25), flagged(underflow, 0, 1, 0, 1, 0)},
		{half, hex(false, 2049, 0), flagged(inexact, 0x6800, 0x6801, 0x6800, 0x6801, 0x6800)},
		{half, hex(true, 0x1ffe, 3), answers{{0xfc00, overflow}, {0xfc00, overflow}, {0xfbff, inexact}, {0xfbff, inexact}, {0xfc00, overflow}}},
		{half, hex(false, 1, 16), flagged(overflow, 0x7c00, 0x7c00, 0x7bff, 0x7c00, 0x7bff)},
		{double, hex(false, 1<<53+1, 0), flagged(inexact, 0x4340000000000000, 0x4340000000000001, 0x4340000000000000, 0x4340000000000001, 0x4340000000000000)},
		{double, hex(false, 1, -1075), flagged(underflow, 0, 1, 0, 1, 0)},
		{double, hex(false, 1, api.MaxExp), flagged(overflow, 0x7ff0000000000000, 0x7ff0000000000000, 0x7fefffffffffffff, 0x7ff0000000000000, 0x7fefffffffffffff)},
		{double, hex(false, 1, -api.MaxExp), flagged(underflow, 0, 0, 0, 1, 0)},
		{least, hex(false, 1, -1), alike(1)},
		{least, hex(false, 7, -1), answers{{6, overflow}, {6, overflow}, {5, inexact}, {6, overflow}, {5, inexact}}},
	} {
		numberAnswers(t, c.f, c.n, c.want)
	}
}

func TestP161SomeSixteens(t *testing.T) {
	r := source(40)
	for _, f := range someForms() {
		for range 300 {
			n := new(big.Int).SetUint64(r.Uint64()>>r.IntN(64) | 1)
			if r.IntN(4) == 0 {
				n.Lsh(n, 700).Add(n, big.NewInt(1))
			}
			exp := leastExp(f) - 4 + r.IntN(bias(f)-leastExp(f)+8) - n.BitLen() + 1
			for _, neg := range []bool{false, true} {
				for _, mode := range everyMode {
					want := rounded(f, times2(new(big.Rat).SetInt(n), exp), neg, mode)
					numberIs(t, f, api.Number{Kind: api.NumHex, Neg: neg, Hex: dyadic(neg, n, exp)}, mode, want, api.OK)
				}
			}
		}
	}
}

// The longest numbers that may be, in sixteens and in tens.
func TestP161LongNumbers(t *testing.T) {
	longest := api.Nat{Limbs: slices.Repeat([]uint32{math.MaxUint32}, api.MaxLimbs)}
	bits := 32 * api.MaxLimbs
	for _, c := range []struct {
		exp  int
		want answers
	}{
		{-bits, flagged(inexact, 0x3c00, 0x3c00, 0x3bff, 0x3c00, 0x3bff)},
		{0, flagged(overflow, 0x7c00, 0x7c00, 0x7bff, 0x7c00, 0x7bff)},
		{api.MaxExp, flagged(overflow, 0x7c00, 0x7c00, 0x7bff, 0x7c00, 0x7bff)},
		{-api.MaxExp, flagged(underflow, 0, 0, 0, 1, 0)},
	} {
		numberAnswers(t, half, api.Number{Kind: api.NumHex, Hex: api.Dyadic{Mant: longest, Exp: c.exp}}, c.want)
	}
	nines := again("9", most)
	for _, c := range []struct {
		exp  int
		want answers
	}{
		{-most, flagged(inexact, 0x3c00, 0x3c00, 0x3bff, 0x3c00, 0x3bff)},
		{-most - 7, flagged(underflow, 2, 2, 1, 2, 1)},
		{0, flagged(overflow, 0x7c00, 0x7c00, 0x7bff, 0x7c00, 0x7bff)},
		{api.MaxExp, flagged(overflow, 0x7c00, 0x7c00, 0x7bff, 0x7c00, 0x7bff)},
		{-api.MaxExp, flagged(underflow, 0, 0, 0, 1, 0)},
	} {
		numberAnswers(t, half, decimal(nines, c.exp), c.want)
	}
}

func TestP161Infinity(t *testing.T) {
	for _, f := range someForms() {
		numberAnswers(t, f, api.Number{Kind: api.NumInf}, alike(infinite(f)))
	}
}

// A payload is just small enough below 2^(Frac - 1), and too great from there on; no mode and no sign changes that.
func TestP161Payloads(t *testing.T) {
	for exp := 2; exp <= 11; exp++ {
		for frac := 1; frac <= 52; frac++ {
			f, room := form(exp, frac), uint64(1)<<(frac-1)
			for _, payload := range []uint64{0, 1, 7, room / 2, room - 1, room, room + 1, 2*room - 1, 2 * room, 1<<51 - 1} {
				n := api.Number{Kind: api.NumNaN, Payload: payload}
				switch {
				case payload < room:
					numberAnswers(t, f, n, alike(infinite(f)+room+payload))
				case payload < 1<<51:
					for _, mode := range everyMode {
						numberIs(t, f, n, mode, told{}, api.ErrPayload)
						numberIs(t, f, turnedNumber(n), mode, told{}, api.ErrPayload)
					}
				}
			}
		}
	}
}

func wrongForms() []api.Form {
	return []api.Form{{}, form(1, 5), form(12, 5), form(5, 0), form(5, 53), form(-5, 10), form(5, -10), form(1, 1), form(math.MaxInt, 10), form(5, math.MinInt), form(math.MaxInt, math.MaxInt), form(64, 64), form(11, 53), form(12, 52), form(5+1<<32, 10)}
}

func wrongModes() []uint8 { return []uint8{api.Down + 1, 9, 100, 255} }

// wrongNumbers are such as no text says.
func wrongNumbers() []api.Number {
	three := api.Dyadic{Mant: nat.Of(3)}
	dec := api.Dec{Digits: "1"}
	return []api.Number{
		{}, {Neg: true}, {Kind: 5}, {Kind: 255}, {Payload: 1}, {Dec: dec}, {Hex: three},
		decimal("10", 0), decimal("01", 0), decimal("0", 0), decimal("", 1), decimal("1x", 0), decimal("1", api.MaxExp+1), decimal("1", math.MinInt), decimal("+1", 0), decimal("1.5", 0), decimal(again("1", most+1), 0),
		{Kind: api.NumDec, Neg: true, Dec: dec}, {Kind: api.NumDec, Dec: api.Dec{Neg: true, Digits: "1"}}, {Kind: api.NumDec, Neg: true}, {Kind: api.NumDec, Dec: dec, Payload: 1}, {Kind: api.NumDec, Dec: dec, Hex: three},
		{Kind: api.NumHex, Hex: api.Dyadic{Mant: nat.Of(2)}}, {Kind: api.NumHex, Hex: api.Dyadic{Exp: 1}}, {Kind: api.NumHex, Neg: true, Hex: api.Dyadic{Neg: true}}, {Kind: api.NumHex, Neg: true, Hex: three}, {Kind: api.NumHex, Hex: api.Dyadic{Neg: true, Mant: nat.Of(3)}}, {Kind: api.NumHex, Hex: api.Dyadic{Mant: nat.Of(3), Exp: api.MaxExp + 1}}, {Kind: api.NumHex, Hex: api.Dyadic{Mant: api.Nat{Limbs: []uint32{1, 0}}}}, {Kind: api.NumHex, Hex: api.Dyadic{Mant: api.Nat{Limbs: slices.Repeat([]uint32{1}, api.MaxLimbs+1)}}}, {Kind: api.NumHex, Hex: three, Dec: dec}, {Kind: api.NumHex, Hex: three, Payload: 1},
		{Kind: api.NumInf, Payload: 1}, {Kind: api.NumInf, Dec: dec}, {Kind: api.NumInf, Hex: three}, {Kind: api.NumInf, Dec: api.Dec{Neg: true}, Neg: true}, {Kind: api.NumInf, Hex: api.Dyadic{Exp: 1}},
		{Kind: api.NumNaN, Payload: 1 << 51}, {Kind: api.NumNaN, Payload: math.MaxUint64}, {Kind: api.NumNaN, Dec: dec}, {Kind: api.NumNaN, Hex: three},
	}
}

// mayBe is a number of each kind, and no number whose payload most forms have no room for.
func mayBe() []api.Number {
	return []api.Number{decimal("", 0), decimal("-1", 0), decimal("1", -1), {Kind: api.NumHex, Hex: api.Dyadic{Mant: nat.Of(3)}}, {Kind: api.NumInf}, {Kind: api.NumNaN}, {Kind: api.NumNaN, Payload: 1<<51 - 1}}
}

// The form comes ahead of the number, that ahead of the mode, and that ahead of the payload.
func TestP161Refusals(t *testing.T) {
	modes := append(wrongModes(), everyMode...)
	for _, mode := range modes {
		for _, f := range wrongForms() {
			for _, n := range append(wrongNumbers(), mayBe()...) {
				numberIs(t, f, n, mode, told{}, api.ErrForm)
			}
		}
		for _, f := range someForms() {
			for _, n := range wrongNumbers() {
				numberIs(t, f, n, mode, told{}, api.ErrNumber)
			}
		}
	}
	for _, mode := range wrongModes() {
		for _, f := range someForms() {
			for _, n := range mayBe() {
				numberIs(t, f, n, mode, told{}, api.ErrMode)
			}
		}
	}
}
