package power

import (
	"math"
	"testing"

	"numeral/api"
)

// Every row of the chapter's Examples.

func TestExamplesOfTenAndWhole(t *testing.T) {
	tenIs(t, 0, 0x8000000000000000, 0, -127)
	tenIs(t, 1, 0xa000000000000000, 0, -124)
	tenIs(t, -1, 0xcccccccccccccccc, 0xcccccccccccccccc, -131)
	tenIs(t, 55, 0xd0cf4b50cfe20765, 0xfff4b4e3f741cf6d, 55)
	wholeIs(t, 55, true)
	wholeIs(t, 56, false)
	wholeIs(t, -1, false)
	if hi, lo, exp, e := Ten(401); hi != 0 || lo != 0 || exp != 0 || e != api.ErrPower {
		t.Errorf("Ten(401): %x %x, %d, error %d", hi, lo, exp, int(e))
	}
}

func TestExamplesOfTimes(t *testing.T) {
	timesIs(t, 3, 1, 1, 0xe000000000000000, false)
	timesIs(t, 0, 5, 0, 0, false)
	timesIs(t, 0xffffffffffffffff, -1, 0xcccccccccccccccb, 0xffffffffffffffff, true)
}

func TestExamplesOfDigitsAndTwo(t *testing.T) {
	for _, c := range []struct {
		n    uint64
		want int
	}{{0, 1}, {9, 1}, {10, 2}, {math.MaxUint64, 20}} {
		if d := Digits(c.n); d != c.want {
			t.Errorf("Digits(%d): %d", c.n, d)
		}
	}
	twoIs(t, 0, 1)
	twoIs(t, 3, 1)
	twoIs(t, 4, 2)
	twoIs(t, 1024, 309)
	if d, e := Two(-1); d != 0 || e != api.ErrArg {
		t.Errorf("Two(-1): %d, error %d", d, int(e))
	}
}

func TestExamplesOfKeepers(t *testing.T) {
	if k, e := New(2, 1); k != nil || e != api.ErrArg {
		t.Errorf("New(2, 1): error %d", int(e))
	}
	if k, e := New(-401, 0); k != nil || e != api.ErrPower {
		t.Errorf("New(-401, 0): error %d", int(e))
	}
	k := keeperOf(t, -3, 3)
	madeIs(t, k, 0)
	notKept(t, k, 4, api.ErrPower)
	madeIs(t, k, 0)
	if hi, lo, exp, e := k.Ten(1); hi != 0xa000000000000000 || lo != 0 || exp != -124 || e != api.OK {
		t.Errorf("Ten(1): %x %x, %d, error %d", hi, lo, exp, int(e))
	}
	madeIs(t, k, 1)
	told, e := k.Crowd(0, 3)
	if len(told) != 3 || told[0] != 1<<63 || told[1] != 1<<63 || told[2] != 1<<63 || e != api.OK {
		t.Errorf("Crowd(0, 3): %x, error %d", told, int(e))
	}
	madeIs(t, k, 1)
	noCrowd(t, k, 0, 0, api.ErrWorkers)
	noCrowd(t, k, 9, 0, api.ErrPower)
	noCrowd(t, nil, 9, 0, api.ErrNil)
}
