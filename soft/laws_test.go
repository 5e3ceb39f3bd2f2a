package soft

import (
	"math/big"
	"math/rand/v2"
	"testing"

	"numeral/api"
)

// worthOfHalves is a number of halves.
func worthOfHalves(r *rand.Rand) *big.Rat { return big.NewRat(1+r.Int64N(1<<r.IntN(30)+1), 2) }

// lawForms are those in which the laws are asked of floats of all kinds.
func lawForms() []api.Form {
	return append(edgeForms(), form(3, 3), form(4, 2), form(6, 9), form(2, 4))
}

// eachThree hands on three floats of all kinds, again and again.
func eachThree(t *testing.T, do func(t *testing.T, f api.Form, a, b, c uint64)) {
	t.Helper()
	eachForm(t, lawForms(), func(t *testing.T, f api.Form) {
		r := source(uint64(79*f.Exp + f.Frac))
		for range 800 {
			do(t, f, anyBits(r, f), anyBits(r, f), anyBits(r, f))
		}
	})
}

func TestP79EitherOrder(t *testing.T) {
	t.Parallel()
	eachThree(t, func(t *testing.T, f api.Form, a, b, c uint64) {
		for _, mode := range everyMode {
			wants(t, tell(Add(f, b, a, mode)), tell(Add(f, a, b, mode)), "Add", f, mode, b, a)
			wants(t, tell(Mul(f, b, a, mode)), tell(Mul(f, a, b, mode)), "Mul", f, mode, b, a)
			wants(t, tell(Fma(f, b, a, c, mode)), tell(Fma(f, a, b, c, mode)), "Fma", f, mode, b, a, c)
		}
	})
}

// notAbove is whether the float x is not above y, both numbers; the noughts are alike.
func notAbove(f api.Form, x, y uint64) bool { return worth(f, x).Cmp(worth(f, y)) <= 0 }

// checkDirections holds an operation's answers by Up, Down and Zero against one another.
func checkDirections(t *testing.T, what string, f api.Form, call func(mode uint8) told) {
	t.Helper()
	up, down, zero := call(api.Up), call(api.Down), call(api.Zero)
	if isNaN(f, up.bits) {
		if up != down || up != zero {
			t.Errorf("%s in %v: what is no number by one way is %v, %v, %v", what, f, up, down, zero)
		}
		return
	}
	if !notAbove(f, down.bits, up.bits) {
		t.Errorf("%s in %v: %#x by Up, %#x by Down", what, f, up.bits, down.bits)
	}
	if zero.bits != up.bits && zero.bits != down.bits {
		t.Errorf("%s in %v: %#x by Up, %#x by Down, %#x by Zero", what, f, up.bits, down.bits, zero.bits)
	}
	if isZero(f, up.bits) && isZero(f, down.bits) {
		return
	}
	exact := up.flags&inexact == 0
	if (up.bits == down.bits) != exact || exact != (down.flags&inexact == 0) {
		t.Errorf("%s in %v: %#x by Up, flags %d, %#x by Down, flags %d", what, f, up.bits, up.flags, down.bits, down.flags)
	}
}

func TestP79UpAndDown(t *testing.T) {
	t.Parallel()
	eachThree(t, func(t *testing.T, f api.Form, a, b, c uint64) {
		for what, call := range map[string]func(mode uint8) told{
			"Add":   func(mode uint8) told { return tell(Add(f, a, b, mode)) },
			"Sub":   func(mode uint8) told { return tell(Sub(f, a, b, mode)) },
			"Mul":   func(mode uint8) told { return tell(Mul(f, a, b, mode)) },
			"Div":   func(mode uint8) told { return tell(Div(f, a, b, mode)) },
			"Sqrt":  func(mode uint8) told { return tell(Sqrt(f, a, mode)) },
			"Fma":   func(mode uint8) told { return tell(Fma(f, a, b, c, mode)) },
			"Whole": func(mode uint8) told { return tell(Whole(f, a, mode)) },
		} {
			checkDirections(t, what, f, call)
		}
	})
}

func TestP79FmaWithMinusNoughtIsMul(t *testing.T) {
	t.Parallel()
	eachThree(t, func(t *testing.T, f api.Form, a, b, _ uint64) {
		for _, mode := range []uint8{api.Even, api.Away, api.Zero, api.Up} {
			wants(t, tell(Fma(f, a, b, minus(f), mode)), tell(Mul(f, a, b, mode)), "Fma with minus nought", f, mode, a, b)
		}
		// By Down it is Mul, too, but for products that are nought.
		if product := tell(Mul(f, a, b, api.Down)); !isZero(f, a) && !isZero(f, b) {
			wants(t, tell(Fma(f, a, b, minus(f), api.Down)), product, "Fma with minus nought", f, api.Down, a, b)
		}
	})
}

func TestP79FmaWithOneIsAdd(t *testing.T) {
	t.Parallel()
	eachThree(t, func(t *testing.T, f api.Form, a, _, c uint64) {
		for _, mode := range everyMode {
			want := tell(Add(f, a, c, mode))
			wants(t, tell(Fma(f, a, one(f), c, mode)), want, "Fma with one", f, mode, a, c)
			wants(t, tell(Fma(f, one(f), a, c, mode)), want, "Fma with one", f, mode, a, c)
		}
	})
}

// The same arguments have the same answers, whatever was asked between.
func TestNothingIsKept(t *testing.T) {
	r := source(99)
	type asked struct{ a, b, c uint64 }
	var all []asked
	var answers []told
	for range 300 {
		q := asked{anyBits(r, double), anyBits(r, double), anyBits(r, double)}
		all, answers = append(all, q), append(answers, tell(Fma(double, q.a, q.b, q.c, api.Up)))
	}
	for i := len(all) - 1; i >= 0; i-- {
		q := all[i]
		wants(t, tell(Fma(double, q.a, q.b, q.c, api.Up)), answers[i], "Fma", double, api.Up, q.a, q.b, q.c)
	}
}
