package soft

import (
	"testing"

	"numeral/api"
)

// P7.1: a NaN in each place, beside each edge: The NaN comes out, whatever came in; FlagInvalid, if one of them is not quiet.
func TestP71NaNsInEveryPlace(t *testing.T) {
	t.Parallel()
	eachForm(t, append(edgeForms(), smallForms()...), func(t *testing.T, f api.Form) {
		for _, nan := range nans(f) {
			for _, mode := range everyMode {
				want := told{bits: theNaN(f)}
				if !isQuiet(f, nan) {
					want.flags = isInvalid
				}
				wants(t, tell(Sqrt(f, nan, mode)), want, "Sqrt", f, mode, nan)
				wants(t, tell(Whole(f, nan, mode)), want, "Whole", f, mode, nan)
				for _, x := range []uint64{0, minus(f), 1, one(f), greatest(f) + minus(f), infinity(f), infinity(f) + minus(f)} {
					for what, call := range map[string]twoCall{"Add": Add, "Sub": Sub, "Mul": Mul, "Div": Div} {
						wants(t, tell(call(f, nan, x, mode)), want, what, f, mode, nan, x)
						wants(t, tell(call(f, x, nan, mode)), want, what, f, mode, x, nan)
					}
					for _, y := range []uint64{0, minus(f), one(f), infinity(f), infinity(f) + minus(f)} {
						wants(t, tell(Fma(f, nan, x, y, mode)), want, "Fma", f, mode, nan, x, y)
						wants(t, tell(Fma(f, x, nan, y, mode)), want, "Fma", f, mode, x, nan, y)
						wants(t, tell(Fma(f, x, y, nan, mode)), want, "Fma", f, mode, x, y, nan)
					}
				}
			}
		}
	})
}

// One that is not quiet beside quiet ones, in either order.
func TestP71NaNsBesideOneAnother(t *testing.T) {
	for _, f := range []api.Form{half, brain, single, double, form(2, 2), form(11, 2)} {
		quiet, other := theNaN(f)+minus(f), infinity(f)+1
		loud, silent := noAnswer(f), told{bits: theNaN(f)}
		for _, mode := range everyMode {
			for what, call := range map[string]twoCall{"Add": Add, "Sub": Sub, "Mul": Mul, "Div": Div} {
				wants(t, tell(call(f, quiet, quiet, mode)), silent, what, f, mode, quiet, quiet)
				wants(t, tell(call(f, quiet, other, mode)), loud, what, f, mode, quiet, other)
				wants(t, tell(call(f, other, quiet, mode)), loud, what, f, mode, other, quiet)
				wants(t, tell(call(f, other, other, mode)), loud, what, f, mode, other, other)
			}
			for i := range 8 {
				pick := func(place int) uint64 { return []uint64{quiet, other}[i>>place&1] }
				want := loud
				if i == 0 {
					want = silent
				}
				wants(t, tell(Fma(f, pick(0), pick(1), pick(2), mode)), want, "Fma", f, mode, pick(0), pick(1), pick(2))
			}
			// Where a and b alone have no answer, a quiet c keeps that untold.
			wants(t, tell(Fma(f, 0, infinity(f), quiet, mode)), silent, "Fma", f, mode, 0, infinity(f), quiet)
			wants(t, tell(Fma(f, infinity(f), minus(f), other, mode)), loud, "Fma", f, mode, infinity(f), minus(f), other)
		}
	}
}

// An answer that is infinite because an operand was has no flags, an operation on numbers that has no answer just FlagInvalid.
func TestP71FlagsOfInfinities(t *testing.T) {
	for _, f := range edgeForms() {
		inf := infinity(f)
		for _, mode := range everyMode {
			for _, x := range edges(f) {
				for what, answer := range map[string]told{
					"Add": tell(Add(f, inf, x, mode)), "Sub": tell(Sub(f, inf, x, mode)), "Div": tell(Div(f, inf, x&^minus(f), mode)),
					"Fma": tell(Fma(f, one(f), inf, x, mode)), "Sqrt": tell(Sqrt(f, inf, mode)), "Whole": tell(Whole(f, inf, mode)),
				} {
					wants(t, answer, told{bits: inf}, what, f, mode, inf, x)
				}
			}
		}
	}
}
