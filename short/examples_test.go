package short

import (
	"math"
	"testing"

	"numeral/api"
)

// Every row of the chapter's Examples.

func TestExamplesOfDigits(t *testing.T) {
	for _, c := range []struct {
		f     api.Form
		float uint64
		mode  uint8
		want  api.Dec
	}{
		{double, math.Float64bits(0.1), api.Even, dc("1", -1)},
		{double, math.Float64bits(5e-324), api.Even, dc("5", -324)},
		{double, math.Float64bits(1e23), api.Even, dc("1", 23)},
		{double, math.Float64bits(-1.5), api.Up, dc("-15", -1)},
		{double, math.Float64bits(1 << 53), api.Even, dc("9007199254740992", 0)},
		{double, math.Float64bits(1 << 53), api.Zero, dc("9007199254740992", 0)},
		{double, math.Float64bits(1 << 53), api.Up, dc("9007199254740992", 0)},
		{half, 0x3c01, api.Even, dc("1001", -3)},
		{half, 0x3c01, api.Zero, dc("1001", -3)},
		{half, 0x3c01, api.Up, dc("10009", -4)},
		{half, 0x3c01, api.Away, dc("1001", -3)},
		{half, 0x7bff, api.Even, dc("655", 2)},
		{half, 0x7bff, api.Zero, dc("6551", 1)},
		{half, 0x7bff, api.Up, dc("655", 2)},
		{half, 1, api.Even, dc("6", -8)},
		{half, 1, api.Up, dc("5", -8)},
		{half, 1, api.Down, dc("6", -8)},
		{half, 0x8000, api.Even, dc("-", 0)},
	} {
		digitsAre(t, c.f, c.float, c.mode, c.want)
	}
}

func TestExamplesOfBack(t *testing.T) {
	backIs(t, half, dc("6552", 1), 0x7c00, api.Even, false)
	backIs(t, half, dc("66", 3), 0x7bff, api.Zero, false)
	backIs(t, half, dc("65535", 0), 0x7bff, api.Zero, true)
}

func TestExamplesOfWithin(t *testing.T) {
	for _, c := range []struct {
		low, high string
		in        bool
		at        string
		want      told
	}{
		{"1/3", "1/2", true, "2/5", told{dc("4", -1), true, api.OK}},
		{"0", "1", true, "1/2", told{dc("", 0), true, api.OK}},
		{"1/3", "1/3", true, "1/3", told{}},
		{"9/10", "1", true, "19/20", told{dc("9", -1), true, api.OK}},
		{"0", "1", false, "0", told{e: api.ErrArg}},
		{"1", "0", true, "1/2", told{e: api.ErrArg}},
		{"0", "1/1000", false, "1/3000", told{dc("3", -4), true, api.OK}},
	} {
		withinIs(t, span{rat(c.low), rat(c.high), c.in, c.in}, rat(c.at), c.want)
	}
}
