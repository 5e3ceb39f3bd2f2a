package dec

import (
	"math/big"
	"strconv"
	"testing"

	"numeral/api"
)

// sumWant is what Add owes of decimals that are not nought, whose exponents lie near each other.
func sumWant(a, b api.Dec) (api.Dec, api.Errno) {
	exp := min(a.Exp, b.Exp)
	if len(a.Digits)+a.Exp-exp > most || len(b.Digits)+b.Exp-exp > most {
		return api.Dec{}, api.ErrMany
	}
	x := new(big.Int).Mul(asInt(a), tenTo(a.Exp-exp))
	y := new(big.Int).Mul(asInt(b), tenTo(b.Exp-exp))
	sum := x.Add(x, y)
	if len(new(big.Int).Abs(sum).String()) > most {
		return api.Dec{}, api.ErrMany
	}
	return limited(only(sum, exp, false))
}

func checkAdd(t *testing.T, a, b api.Dec) {
	t.Helper()
	want, wantErr := sumWant(a, b)
	got, e := Add(a, b)
	wants(t, "Add("+show(a)+", "+show(b)+")", got, e, want, wantErr)
	got, e = Add(b, a)
	wants(t, "Add("+show(b)+", "+show(a)+")", got, e, want, wantErr)
}

// checkAdds is for all signs.
func checkAdds(t *testing.T, a, b api.Dec) {
	t.Helper()
	checkAdd(t, a, b)
	checkAdd(t, turned(a), b)
	checkAdd(t, a, turned(b))
	checkAdd(t, turned(a), turned(b))
}

func TestP105AddOfSmallDecimals(t *testing.T) {
	t.Parallel()
	for i := 1; i < 120; i++ {
		for j := 1; j < 120; j++ {
			for exp := -2; exp <= 2; exp++ {
				checkAdds(t, only(big.NewInt(int64(i)), 0, false), only(big.NewInt(int64(j)), exp, false))
			}
		}
	}
}

func TestP105AddOfSome(t *testing.T) {
	t.Parallel()
	all := near()
	for i, a := range all {
		for _, b := range all[:i+1] {
			if a.Digits != "" && b.Digits != "" {
				checkAdd(t, a, b)
			}
		}
	}
	r := source(6)
	for range 5000 {
		a, b := some(r, 60), some(r, 60)
		if a.Digits != "" && b.Digits != "" {
			checkAdd(t, a, b)
		}
	}
}

// Sums of which much or all is cancelled, and sums that carry through.
func TestP105AddThatCancels(t *testing.T) {
	r := source(7)
	for _, d := range edges() {
		if d.Digits != "" {
			got, e := Add(d, turned(d))
			wants(t, "Add of "+show(d)+" and itself, turned", got, e, api.Dec{}, api.OK)
			checkAdd(t, d, d)
		}
	}
	for range 2000 {
		digits := someDigits(r, 2+r.IntN(50))
		cut := 1 + r.IntN(len(digits)-1)
		part, e := Make(true, digits[:cut], len(digits)-cut-9)
		if e != api.OK {
			t.Fatal("error", int(e))
		}
		checkAdds(t, dc(digits, -9), part)
		checkAdds(t, dc(digits, -9), dc(digits[len(digits)-1:], -9))
		checkAdds(t, dc(again("9", 1+r.IntN(40)), r.IntN(5)), dc("1", -r.IntN(3)))
		checkAdds(t, dc("1", 1+r.IntN(40)), dc("1", -r.IntN(3)))
	}
}

func TestP105AddOfNoughts(t *testing.T) {
	none, minus := api.Dec{}, api.Dec{Neg: true}
	for _, c := range []struct{ a, b, want api.Dec }{{none, none, none}, {none, minus, none}, {minus, none, none}, {minus, minus, minus}} {
		got, e := Add(c.a, c.b)
		wants(t, "Add of noughts", got, e, c.want, api.OK)
	}
	for _, d := range append(edges(), dc(again("9", most), far), dc("-"+again("9", most), -far)) {
		if d.Digits == "" {
			continue
		}
		for _, nought := range []api.Dec{none, minus} {
			got, e := Add(d, nought)
			wants(t, "Add("+show(d)+", nought)", got, e, d, api.OK)
			got, e = Add(nought, d)
			wants(t, "Add(nought, "+show(d)+")", got, e, d, api.OK)
		}
	}
}

// Each of both, told with the lesser exponent, counts, and so does the sum, be it short or cancelled.
func TestP105AddAtMaxText(t *testing.T) {
	t.Parallel()
	nines := again("9", most)
	for _, c := range []struct{ a, b api.Dec }{
		{dc("1", most-1), dc("1", 0)},
		{dc("1", most), dc("1", 0)},
		{dc("9", most-1), dc("1", most-1)},
		{dc("9", most-1), dc("1", 0)},
		{dc("9", most-1), dc("9", most-2)},
		{dc(nines, 0), dc("1", 0)},
		{dc(nines[1:], 0), dc("1", 0)},
		{dc(nines[1:], 1), dc("9", 0)},
		{dc(nines[1:], 1), dc("11", 0)},
		{dc(nines, 0), dc(nines, 0)},
		{dc(nines, 0), dc(nines, 1)},
		{dc(nines, -5), dc("1", -6)},
		{dc(nines, -5), dc("1", -4)},
		{dc("4"+nines[1:], -5), dc("5", most-6)},
		{dc("5", most-1), dc("5"+again("0", most-2)+"1", 0)},
		{dc("4", most-1), dc("5"+again("0", most-2)+"1", 0)},
		{dc(again("1", most/2), most/2), dc(again("1", most/2), 0)},
		{dc(again("1", most/2), most/2+1), dc(again("1", most/2), 0)},
	} {
		checkAdds(t, c.a, c.b)
		// The same, far off.
		c.a.Exp, c.b.Exp = c.a.Exp-far+6, c.b.Exp-far+6
		checkAdds(t, c.a, c.b)
	}
}

func TestP105AddAtTheEndsOfExponents(t *testing.T) {
	for _, digits := range []string{"1", "3", "5", "7", "95", "99"} {
		for _, other := range []string{"1", "5", "7", "95"} {
			for i := range 3 {
				for j := range 3 {
					checkAdds(t, dc(digits, far-i), dc(other, far-j))
					checkAdds(t, dc(digits, -far+i), dc(other, -far+j))
				}
			}
		}
	}
	for _, p := range [][2]int{{far, 0}, {-far, 0}, {far, -far}, {far, -1}, {far, far - most}, {-far, -far + most}} {
		for _, a := range []api.Dec{dc("1", p[0]), dc("-1", p[0])} {
			got, e := Add(a, dc("1", p[1]))
			wants(t, "Add("+show(a)+", 1 e "+strconv.Itoa(p[1])+")", got, e, api.Dec{}, api.ErrMany)
			got, e = Add(dc("-1", p[1]), a)
			wants(t, "Add(-1 e "+strconv.Itoa(p[1])+", "+show(a)+")", got, e, api.Dec{}, api.ErrMany)
		}
	}
}

func checkMul(t *testing.T, a, b api.Dec) {
	t.Helper()
	neg := a.Neg != b.Neg
	want, wantErr := limited(only(new(big.Int).Mul(asInt(a), asInt(b)), a.Exp+b.Exp, neg))
	got, e := Mul(a, b)
	wants(t, "Mul("+show(a)+", "+show(b)+")", got, e, want, wantErr)
	got, e = Mul(b, a)
	wants(t, "Mul("+show(b)+", "+show(a)+")", got, e, want, wantErr)
}

func TestP105MulOfSmallDecimals(t *testing.T) {
	t.Parallel()
	for i := int64(-130); i < 130; i++ {
		for j := int64(-130); j < 130; j++ {
			checkMul(t, only(big.NewInt(i), 0, j%2 == 0), only(big.NewInt(j), -3, i%2 == 0))
		}
	}
}

func TestP105MulOfSome(t *testing.T) {
	t.Parallel()
	all := edges()
	for i, a := range all {
		for _, b := range all[:i+1] {
			checkMul(t, a, b)
		}
	}
	r := source(8)
	for range 3000 {
		checkMul(t, some(r, 60), some(r, 60))
		twos := only(power(2, 1+r.IntN(300)), r.IntN(9)-5, false)
		fives := only(power(5, 1+r.IntN(200)), r.IntN(9)-5, false)
		checkMul(t, twos, turned(fives))
	}
}

func TestP105MulOfNoughts(t *testing.T) {
	for _, d := range append(edges(), dc(again("9", most), far), dc("-"+again("9", most), -far)) {
		for _, none := range []api.Dec{{}, {Neg: true}} {
			want := api.Dec{Neg: d.Neg != none.Neg}
			got, e := Mul(d, none)
			wants(t, "Mul("+show(d)+", nought)", got, e, want, api.OK)
			got, e = Mul(none, d)
			wants(t, "Mul(nought, "+show(d)+")", got, e, want, api.OK)
		}
	}
}

// The noughts behind a product count for its exponent ahead of the ends being looked at.
func TestP105MulAtTheEndsOfExponents(t *testing.T) {
	for _, p := range [][2]string{{"1", "1"}, {"-3", "7"}, {"5", "2"}, {"-25", "-4"}, {"25", "8"}, {"125", "8"}, {"5", "4"}, {"99", "99"}} {
		for _, end := range []int{far, -far} {
			for _, rest := range []int{0, 1, far / 2, end / 2, end} {
				for more := -5; more <= 5; more++ {
					a, b := dc(p[0], rest), dc(p[1], end-rest+more)
					if Check(a) == api.OK && Check(b) == api.OK {
						checkMul(t, a, b)
					}
				}
			}
		}
	}
	checkMul(t, dc("1", far), dc("1", -far))
	checkMul(t, dc("1", far), dc("1", far))
	checkMul(t, dc("5", -far), dc("2", -far))
}

func TestP105MulAtMaxText(t *testing.T) {
	t.Parallel()
	nines := again("9", most)
	half := again("9", most/2)
	for _, c := range []struct{ a, b api.Dec }{
		{dc(nines, 0), dc("1", 0)},
		{dc(nines, 0), dc("-11", 0)},
		{dc(nines[1:], 0), dc("9", 0)},
		{dc(nines[1:], 0), dc("11", 0)},
		{dc(again("1", most), 0), dc("9", 0)},
		{dc(again("1", most), 0), dc("11", 0)},
		{dc(again("2", most), 0), dc("5", 0)},
		{dc(half, 0), dc(half, 0)},
		{dc(half, 0), dc(half+"9", 0)},
		{dc(again("1", most/2), 0), dc(again("1", most/2+1), 0)},
		{dc(again("1", most/2), 0), dc(again("1", most/2+2), 0)},
		{dc(nines, 5), dc(nines, 5)},
		{dc("1"+again("0", most-2)+"1", far), dc("1", 0)},
	} {
		checkMul(t, c.a, c.b)
	}
	// The product of as many digits as may be twice, of which so many are noughts that the others are few enough.
	twos, fives := only(power(2, lastPower(2)), 0, false), only(power(5, lastPower(5)), 0, false)
	if len(twos.Digits) != most || len(fives.Digits) != most {
		t.Fatal("these are not as long as may be")
	}
	checkMul(t, twos, fives)
	checkMul(t, twos, turned(twos))
	checkMul(t, only(power(2, lastPower(5)), 7, false), fives)
}

func TestP105Shift(t *testing.T) {
	exps := []int{0, 1, -1, 17, far, far - 1, -far, 1 - far}
	for _, digits := range []string{"1", "-125", again("3", most)} {
		for _, exp := range exps {
			for _, at := range farInts() {
				for _, n := range []int{at, at - exp} {
					want, wantErr := dc(digits, 0), api.OK
					sum := new(big.Int).Add(big.NewInt(int64(exp)), big.NewInt(int64(n)))
					if sum.CmpAbs(big.NewInt(far)) > 0 {
						wantErr = api.ErrMany
					}
					want.Exp = int(sum.Int64())
					got, e := Shift(dc(digits, exp), n)
					wants(t, "Shift("+show(dc(digits, exp))+", "+strconv.Itoa(n)+")", got, e, want, wantErr)
				}
			}
		}
	}
	for _, n := range farInts() {
		for _, none := range []api.Dec{{}, {Neg: true}} {
			got, e := Shift(none, n)
			wants(t, "Shift(nought, "+strconv.Itoa(n)+")", got, e, none, api.OK)
		}
	}
}
