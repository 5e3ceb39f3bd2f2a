package sure

import (
	"testing"

	"numeral/api"
)

// Each float of Half, by Digits and by Some of each count of digits, the mark and the decimal; both marks are among them.
func TestP191P192EveryFloatOfHalf(t *testing.T) {
	t.Parallel()
	unsureDigits, unsureSome := 0, 0
	for float := range infinite(half) {
		digits, some := holds(t, half, float)
		unsureDigits, unsureSome = unsureDigits+digits, unsureSome+some
	}
	if unsureDigits == 0 || unsureSome == 0 {
		t.Errorf("of Half's floats %d times Digits is not sure, %d times Some", unsureDigits, unsureSome)
	}
}

func TestP191P192EveryFloatOfSmallForms(t *testing.T) {
	t.Parallel()
	for _, f := range smallForms() {
		t.Run("", func(t *testing.T) {
			t.Parallel()
			for float := range infinite(f) {
				holds(t, f, float)
			}
		})
	}
}

// Edges, powers of two and of ten with their neighbours, whole numbers, halves, and some of all floats.
func TestP191P192SomeFloats(t *testing.T) {
	t.Parallel()
	for i, f := range someForms() {
		t.Run("", func(t *testing.T) {
			t.Parallel()
			for _, float := range someOf(source(uint64(i)), f, 40, 100) {
				holds(t, f, float)
			}
		})
	}
}

func TestP191P192Brain(t *testing.T) {
	t.Parallel()
	for float := uint64(1); float < infinite(brain); float += 13 {
		holds(t, brain, float)
	}
}

func TestP191P192EveryForm(t *testing.T) {
	t.Parallel()
	r := source(20)
	for _, f := range allForms() {
		for _, float := range []uint64{0, 1, normal(f) - 1, normal(f), uint64(bias(f)) << f.Frac, infinite(f) - 1, someFloat(r, f) % minus(f)} {
			holds(t, f, float)
		}
	}
}

// The powers of ten that stand farthest from 1 are those of the greatest form's ends.
func TestP191P192FarthestPowers(t *testing.T) {
	for _, f := range []api.Form{double, form(11, 51), form(11, 1), form(11, 30)} {
		for float := uint64(1); float < 40; float++ {
			holds(t, f, float)
			holds(t, f, infinite(f)-float)
		}
	}
}
