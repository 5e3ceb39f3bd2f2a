package forms

import (
	"math"
	"testing"

	"numeral/api"
)

func TestP32Split(t *testing.T) {
	for _, f := range allForms() {
		for _, bits := range append(everyBits(f), mixed(f, 50)...) {
			if p, e := Split(f, bits); p != fieldsOf(t, f, bits) || e != api.OK {
				t.Errorf("Split(%v, %#x) = %v, error %d", f, bits, p, int(e))
			}
		}
	}
}

func TestP32Join(t *testing.T) {
	for _, f := range allForms() {
		for _, bits := range append(everyBits(f), mixed(f, 50)...) {
			p := fieldsOf(t, f, bits)
			if got, e := Join(f, p); got != bits || e != api.OK {
				t.Errorf("Join(%v, %v) = %#x, error %d", f, p, got, int(e))
			}
		}
	}
}

// Each field too great or below nought by itself, beside others that may be or that are wrong too.
func TestP32JoinOfFieldsThatTheFormHasNot(t *testing.T) {
	for _, f := range allForms() {
		lastExp, lastFrac := 1<<f.Exp-1, uint64(1)<<f.Frac-1
		wrongExps := []int{-1, -2, -lastExp - 1, lastExp + 1, lastExp + 2, 2*lastExp + 1, 1 << 32, math.MaxInt, math.MinInt, math.MinInt + 1}
		wrongFracs := []uint64{lastFrac + 1, lastFrac + 2, 2*lastFrac + 1, 1 << 53, 1 << 63, math.MaxUint64}
		var wrong []api.Parts
		for _, neg := range []bool{false, true} {
			for _, exp := range wrongExps {
				wrong = append(wrong, api.Parts{Neg: neg, Exp: exp}, api.Parts{Neg: neg, Exp: exp, Frac: lastFrac}, api.Parts{Neg: neg, Exp: exp, Frac: lastFrac + 1})
			}
			for _, frac := range wrongFracs {
				wrong = append(wrong, api.Parts{Neg: neg, Frac: frac}, api.Parts{Neg: neg, Exp: lastExp, Frac: frac}, api.Parts{Neg: neg, Exp: -1, Frac: frac})
			}
		}
		for _, p := range wrong {
			if got, e := Join(f, p); got != 0 || e != api.ErrParts {
				t.Errorf("Join(%v, %v) = %#x, error %d", f, p, got, int(e))
			}
		}
	}
}
