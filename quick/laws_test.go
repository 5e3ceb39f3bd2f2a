package quick

import (
	"math"
	"math/big"
	"math/rand/v2"
	"testing"

	"numeral/api"
	"numeral/dec"
	"numeral/turn"
)

// asRounded holds an answer against what chapter 5 rounds the decimal to, and against what strconv reads.
func (k kind) asRounded(t *testing.T, d api.Dec) {
	t.Helper()
	bits, ok := k.told(d)
	if !ok {
		return
	}
	if want := k.roundedBits(t, d); bits != want {
		t.Errorf("%s(%s): %x, but chapter 5 rounds to %x", k.name, text(d), bits, want)
	}
	if want := k.parsedBits(d); bits != want {
		t.Errorf("%s(%s): %x, but strconv reads %x", k.name, text(d), bits, want)
	}
}

func TestP145AsChapter5Rounds(t *testing.T) {
	for _, k := range bothKinds {
		r := source(5)
		for range 15000 {
			k.asRounded(t, k.some(r))
		}
		k.asRounded(t, api.Dec{})
		k.asRounded(t, api.Dec{Neg: true})
		for _, c := range k.takenUp() {
			k.asRounded(t, di(c.last, c.exp))
			k.asRounded(t, di(-c.last, c.exp))
		}
		for exp := -k.tens; exp <= k.last; exp++ {
			for _, n := range []int64{1, 3, 7, 33, 199, k.whole - 1, k.whole} {
				k.asRounded(t, di(n, exp))
				k.asRounded(t, di(-n, exp))
			}
		}
		k.halves(t, 40, func(d api.Dec, _ int64, _ int) { k.asRounded(t, d) })
	}
}

// All that is within the bounds is answered, not only some of it.
func TestP145NoQuickDecimalIsLeftOut(t *testing.T) {
	r := source(6)
	for _, k := range bothKinds {
		for range 20000 {
			n := 1 + r.Int64N(k.whole)
			d := di(n-n%10+1+r.Int64N(5), r.IntN(2*k.tens+1)-k.tens)
			if n < k.whole-10 {
				k.sure(t, d)
			}
		}
	}
}

// isWorth is whether a float is worth just the whole number n.
func isWorth[F turn.Float](x F, n *big.Int) bool {
	return new(big.Rat).SetFloat64(float64(x)).Cmp(new(big.Rat).SetInt(n)) == 0
}

// Both numbers of a product or quotient are worth what the decimal says, so that nothing is lost ahead of it.
func factorsAreExact[F turn.Float](t *testing.T, k kind, r reach) {
	t.Helper()
	for n := range k.tens + 1 {
		if !isWorth(powerOfTen[F](n), tenTo(n)) {
			t.Errorf("%s: 10 to the power of %d is %v", k.name, n, powerOfTen[F](n))
		}
	}
	random := source(11)
	for range 20000 {
		d := k.some(random)
		n, tens, ok := r.factors(d)
		if !ok {
			continue
		}
		digits, _ := new(big.Int).SetString(d.Digits, 10)
		digits.Mul(digits, tenTo(d.Exp-tens))
		if tens < -k.tens || tens > k.tens || !isWorth(turn.Near[F](n), digits) {
			t.Errorf("%s: %s goes by %d and the power %d", k.name, text(d), n, tens)
		}
	}
}

func TestP146FactorsAreExact(t *testing.T) {
	factorsAreExact[float64](t, double, reachOfDouble())
	factorsAreExact[float32](t, single, reachOfSingle())
}

// The decimals here are quick for float64 and tell another float32 by way of it than they are nearest to: their float64 lies in the midst of two float32, they themselves do not. None is quick for float32.
func TestP142P146NoWayThroughDouble(t *testing.T) {
	for _, d := range []api.Dec{dc("5994178056716919", -15), dc("3229879289865494", -16), dc("1234775686264038", -14), dc("2333970874005134", 6)} {
		if !astray(d) {
			t.Errorf("%s does not go astray", text(d))
		}
		singleIs(t, d, 0, false)
	}
	r, count := source(7), 0
	for range 40000 {
		d := besideHalf(r)
		if astray(d) {
			count++
			singleIs(t, d, 0, false)
			singleIs(t, turned(d), 0, false)
		}
		single.holds(t, d)
	}
	if count < 100 {
		t.Errorf("only %d decimals go astray by way of a float64", count)
	}
}

// astray is whether a decimal becomes, by way of the float64 that Double tells, another float32 than the nearest.
func astray(d api.Dec) bool {
	wide, ok := Double(d)
	return ok && uint64(math.Float32bits(turn.Narrow(wide))) != single.nearestBits(d)
}

// besideHalf is a decimal of as many digits as may be quick for float64, beside the midst of two float32.
func besideHalf(r *rand.Rand) api.Dec {
	for {
		low := math.Float32frombits(r.Uint32N(0x7f000000))
		half := (float64(low) + float64(math.Nextafter32(low, math.MaxFloat32))) / 2
		exp := r.IntN(2*double.tens+1) - double.tens
		x := new(big.Rat).SetFloat64(half)
		if exp < 0 {
			x.Mul(x, new(big.Rat).SetInt(tenTo(-exp)))
		} else {
			x.Quo(x, new(big.Rat).SetInt(tenTo(exp)))
		}
		n := new(big.Int).Quo(x.Num(), x.Denom())
		n.Add(n, big.NewInt(r.Int64N(2)))
		d := dc(n.String(), exp)
		if n.BitLen() > 48 && double.isQuick(d) {
			return d
		}
	}
}

// Where both digits and power have 24 bits at most, a float64 is fine enough: what is quick for float32 is so for float64, and the wide answer narrowed is the narrow one.
func TestP145BothKindsOfOneDecimal(t *testing.T) {
	r := source(8)
	for range 20000 {
		d := single.some(r)
		narrow, ok := Single(d)
		if !ok {
			continue
		}
		wide, ok := Double(d)
		if !ok || turn.Narrow(wide) != narrow {
			t.Errorf("Single(%s): %v, Double: %v, %v", text(d), narrow, wide, ok)
		}
	}
}

// A whole number told as a decimal and as its digits, noughts at its end among them, is one float.
func TestP141P144WholeIsDouble(t *testing.T) {
	r := source(9)
	for range 20000 {
		d := double.some(r)
		d.Neg = false
		x, ok := Double(d)
		plain, e := dec.Plain(d)
		if ok && e == api.OK && d.Exp >= 0 && len(plain) <= 19 {
			wholeIs(t, plain, x, true)
		}
	}
}

// What was answered once is answered again, whatever was asked between.
func TestP141P142P143P144TheSameAgain(t *testing.T) {
	for _, k := range bothKinds {
		r := source(10)
		for range 2000 {
			d := k.some(r)
			bits, ok := k.told(d)
			fits := Fits(d)
			k.told(turned(k.some(r)))
			if again, still := k.told(d); again != bits || still != ok || Fits(d) != fits {
				t.Errorf("%s(%s): %x, %v, then %x, %v", k.name, text(d), bits, ok, again, still)
			}
		}
	}
}
