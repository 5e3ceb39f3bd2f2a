package steps

import (
	"testing"

	"numeral/api"
	"numeral/nat"
)

func TestTheFirstErrorIsKept(t *testing.T) {
	var r Run
	one, two := r.Nats(nat.Of(1), nat.Of(2), api.OK)
	sum := r.Nat(nat.Add(one, two))
	rest := r.Less(nat.Sub(sum, one))
	if order := r.Int(nat.Cmp(rest, two)); order != 0 || r.Err != api.OK {
		t.Error("1 + 2 - 1:", order, int(r.Err))
	}
	r.Keep(api.ErrZero)
	r.Keep(api.OK)
	r.Keep(api.ErrMany)
	if r.Err != api.ErrZero {
		t.Error("of the errors ErrZero, OK, ErrMany is kept", int(r.Err))
	}
}

func TestFractionsDyadicsAndDecimalsGoThrough(t *testing.T) {
	var r Run
	if x := r.Ratio(api.Ratio{Neg: true, Num: nat.Of(1), Den: nat.Of(2)}, api.OK); !x.Neg || x.Num.Limbs[0] != 1 || x.Den.Limbs[0] != 2 {
		t.Error("-1/2 came out as", x)
	}
	if d := r.Dyadic(api.Dyadic{Neg: true, Mant: nat.Of(3), Exp: 5}, api.OK); !d.Neg || d.Mant.Limbs[0] != 3 || d.Exp != 5 {
		t.Error("-3 times 2^5 came out as", d)
	}
	if want := (api.Dec{Neg: true, Digits: "12", Exp: -1}); r.Dec(want, api.OK) != want {
		t.Error("-1.2 came out as another decimal")
	}
	if r.Err != api.OK {
		t.Error("an error was kept where there was none:", int(r.Err))
	}
}

func TestEveryKindOfAnswerKeepsItsError(t *testing.T) {
	for what, take := range map[string]func(r *Run){
		"Keep":   func(r *Run) { r.Keep(api.ErrNat) },
		"Nat":    func(r *Run) { r.Nat(api.Nat{}, api.ErrNat) },
		"Nats":   func(r *Run) { r.Nats(api.Nat{}, api.Nat{}, api.ErrNat) },
		"Less":   func(r *Run) { r.Less(api.Nat{}, false, api.ErrNat) },
		"Int":    func(r *Run) { r.Int(0, api.ErrNat) },
		"Ratio":  func(r *Run) { r.Ratio(api.Ratio{}, api.ErrNat) },
		"Dyadic": func(r *Run) { r.Dyadic(api.Dyadic{}, api.ErrNat) },
		"Dec":    func(r *Run) { r.Dec(api.Dec{}, api.ErrNat) },
	} {
		var r Run
		if take(&r); r.Err != api.ErrNat {
			t.Errorf("%s kept %d", what, int(r.Err))
		}
	}
}
