package exact

import (
	"math/big"
	"runtime"
	"testing"

	"numeral/api"
)

func checkCmp(t *testing.T, a, b api.Dyadic, want int) {
	t.Helper()
	if got, e := Cmp(a, b); got != want || e != api.OK {
		t.Errorf("Cmp(%s, %s): %d, error %d; want %d", show(a), show(b), got, int(e), want)
	}
	if got, e := Cmp(b, a); got != -want || e != api.OK {
		t.Errorf("Cmp(%s, %s): %d, error %d; want %d", show(b), show(a), got, int(e), -want)
	}
}

func TestP44Cmp(t *testing.T) {
	r := source(5)
	for range 3000 {
		a, b := some(r, 4), some(r, 4)
		checkCmp(t, a, b, asRat(a).Cmp(asRat(b)))
		checkCmp(t, a, a, 0)
	}
}

// Numbers that begin at one bit, of any lengths, told apart by a bit far below, or by their signs alone.
func TestP44CmpOfLikeTops(t *testing.T) {
	r := source(6)
	for range 1000 {
		n := plus(twoTo(100), r.Int64())
		length := r.IntN(100)
		cut := new(big.Int).Lsh(new(big.Int).Rsh(n, uint(length)), uint(length))
		exp := r.IntN(2000) - 1000
		a, b := only(n, exp), only(cut, exp)
		checkCmp(t, a, b, n.Cmp(cut))
		a.Neg, b.Neg = true, true
		checkCmp(t, a, b, cut.Cmp(n))
		a.Neg = false
		checkCmp(t, a, b, 1)
	}
}

// ordered goes up from far below nought to far above it.
func ordered() []api.Dyadic {
	up := []api.Dyadic{
		dy(1, -far), dy(3, -far), dy(1, 2-far), dy(5, -far),
		great(longest(), -far), dy(1, maxBits-far), dy(1, -1074), dy(1, -1), dy(1, 0), great(plus(twoTo(maxBits-1), 1), 1-maxBits), great(longest(), 1-maxBits), dy(1, 1), great(longest(), 0), dy(1, maxBits),
		dy(1, far-1), great(longest(), far-maxBits), dy(1, far), dy(3, far-1), great(longest(), far-maxBits+1), dy(3, far), great(plus(longest(), -2), far), great(longest(), far),
	}
	var all []api.Dyadic
	for i := len(up) - 1; i >= 0; i-- {
		d := up[i]
		d.Neg = true
		all = append(all, d)
	}
	return append(append(all, api.Dyadic{}), up...)
}

func TestP44CmpOfFarExponents(t *testing.T) {
	all := ordered()
	for i, a := range all {
		for j, b := range all {
			want := 0
			if i < j {
				want = -1
			}
			if i > j {
				want = 1
			}
			checkCmp(t, a, b, want)
		}
	}
	checkCmp(t, api.Dyadic{}, api.Dyadic{Mant: api.Nat{Limbs: []uint32{}}}, 0)
}

// sumWant is what Add owes of numbers that are not nought.
func sumWant(a, b api.Dyadic) (api.Dyadic, api.Errno) {
	exp := min(a.Exp, b.Exp)
	if max(a.Exp, b.Exp)-exp > maxBits {
		return api.Dyadic{}, api.ErrMany
	}
	x := new(big.Int).Mul(asInt(a), twoTo(a.Exp-exp))
	y := new(big.Int).Mul(asInt(b), twoTo(b.Exp-exp))
	sum := new(big.Int).Add(x, y)
	if max(x.BitLen(), y.BitLen(), sum.BitLen()) > maxBits {
		return api.Dyadic{}, api.ErrMany
	}
	return makeWant(sum, exp)
}

func checkAdd(t *testing.T, a, b api.Dyadic) {
	t.Helper()
	want, wantErr := sumWant(a, b)
	got, e := Add(a, b)
	wants(t, "Add("+show(a)+", "+show(b)+")", got, e, want, wantErr)
	got, e = Add(b, a)
	wants(t, "Add("+show(b)+", "+show(a)+")", got, e, want, wantErr)
}

func TestP45Add(t *testing.T) {
	r := source(7)
	for range 3000 {
		a, b := some(r, 4), some(r, 4)
		if asInt(a).Sign() == 0 || asInt(b).Sign() == 0 {
			continue
		}
		checkAdd(t, a, b)
		b.Mant, b.Exp = a.Mant, a.Exp
		checkAdd(t, a, b)
	}
}

func TestP45AddNought(t *testing.T) {
	for _, d := range ordered() {
		for _, none := range []api.Dyadic{{}, {Mant: api.Nat{Limbs: []uint32{}}}} {
			got, e := Add(d, none)
			wants(t, "Add of nought behind", got, e, d, api.OK)
			got, e = Add(none, d)
			wants(t, "Add of nought ahead", got, e, d, api.OK)
		}
	}
}

// Each of both, told with the lesser exponent, and the sum so told, at MaxLimbs limbs and at one more.
func TestP45AddAtMaxLimbs(t *testing.T) {
	one, long, less := dy(1, 0), great(longest(), 0), great(plus(longest(), -2), 0)
	half := great(plus(twoTo(maxBits-1), 1), 0)
	for _, c := range []struct {
		what string
		a, b api.Dyadic
		want api.Dyadic
		e    api.Errno
	}{
		{"2^524287 and 1", dy(1, maxBits-1), one, great(plus(twoTo(maxBits-1), 1), 0), api.OK},
		{"2^524287 less 1", dy(1, maxBits-1), dy(-1, 0), great(plus(twoTo(maxBits-1), -1), 0), api.OK},
		{"2^524288 and 1", dy(1, maxBits), one, api.Dyadic{}, api.ErrMany},
		{"2^524288 less 1, which would not be too long", dy(1, maxBits), dy(-1, 0), api.Dyadic{}, api.ErrMany},
		{"2^524288 less the longest, which would be 1", dy(1, maxBits), great(turned(longest()), 0), api.Dyadic{}, api.ErrMany},
		{"3 x 2^524286 and 1", dy(3, maxBits-2), one, great(plus(new(big.Int).Mul(big.NewInt(3), twoTo(maxBits-2)), 1), 0), api.OK},
		{"3 x 2^524287 and 1", dy(3, maxBits-1), one, api.Dyadic{}, api.ErrMany},
		{"the longest and 1, which would be 2^524288", long, one, api.Dyadic{}, api.ErrMany},
		{"the longest less 1", long, dy(-1, 0), only(plus(longest(), -1), 0), api.OK},
		{"the longest but 2, and 1", less, one, only(plus(longest(), -1), 0), api.OK},
		{"the longest but 2, and 3", less, dy(3, 0), api.Dyadic{}, api.ErrMany},
		{"the longest but 2, and 2", less, dy(1, 1), long, api.OK},
		{"twice the half", half, half, api.Dyadic{}, api.ErrMany},
		{"the longest twice", long, long, api.Dyadic{}, api.ErrMany},
		{"the longest and itself turned", long, great(turned(longest()), 0), api.Dyadic{}, api.OK},
		{"the longest, one exponent up, and 1", great(longest(), 1), one, api.Dyadic{}, api.ErrMany},
		{"the longest and 1/2", long, dy(1, -1), api.Dyadic{}, api.ErrMany},
	} {
		for _, up := range []int{0, -far, far - maxBits} {
			for _, turn := range []bool{false, true} {
				a, b, want := raised(c.a, up, turn), raised(c.b, up, turn), raised(c.want, up, turn)
				if min(a.Exp, b.Exp) < -far {
					continue
				}
				got, e := Add(a, b)
				wants(t, c.what, got, e, want, c.e)
				got, e = Add(b, a)
				wants(t, c.what+", turned round", got, e, want, c.e)
			}
		}
	}
}

// raised has its exponent so much greater, and its sign turned, if asked; nought stays.
func raised(d api.Dyadic, up int, turn bool) api.Dyadic {
	if len(d.Mant.Limbs) == 0 {
		return d
	}
	return api.Dyadic{Neg: d.Neg != turn, Mant: d.Mant, Exp: d.Exp + up}
}

func TestP45AddAtTheEndsOfExponents(t *testing.T) {
	for _, a := range []int64{1, 3, 5, 7, -1, -3, -5, -7} {
		for _, b := range []int64{1, 3, 5, 7, -1, -3, -5, -7} {
			for _, exp := range []int{far, far - 1, far - 2, -far, 1 - far} {
				checkAdd(t, dy(a, exp), dy(b, exp))
				if exp > -far {
					checkAdd(t, dy(a, exp), dy(b, exp-1))
				}
			}
		}
	}
	got, e := Add(dy(1, far), dy(1, far))
	wants(t, "the greatest power twice", got, e, api.Dyadic{}, api.ErrMany)
	got, e = Add(dy(1, far-1), dy(1, far-1))
	wants(t, "half of it twice", got, e, dy(1, far), api.OK)
	got, e = Add(dy(3, far), dy(-3, far))
	wants(t, "what cancels", got, e, api.Dyadic{}, api.OK)
}

// Numbers with exponents far apart are refused, or compared, without being laid out.
func TestP44toP46FarApartLaysNothingOut(t *testing.T) {
	long := great(longest(), -far)
	var before, after runtime.MemStats
	runtime.ReadMemStats(&before)
	for range 10 {
		for _, p := range [][2]api.Dyadic{{dy(1, far), dy(1, 0)}, {dy(1, -far), dy(1, 0)}, {dy(3, far), dy(-3, -far)}, {long, dy(1, far)}, {dy(1, far), long}} {
			if d, e := Add(p[0], p[1]); e != api.ErrMany || !sameFields(d, api.Dyadic{}) {
				t.Errorf("Add(%s, %s): error %d", show(p[0]), show(p[1]), int(e))
			}
			if n, e := Cmp(p[0], p[1]); n == 0 || e != api.OK {
				t.Errorf("Cmp(%s, %s): %d, error %d", show(p[0]), show(p[1]), n, int(e))
			}
			if r, e := Ratio(p[0]); e != api.ErrMany || r.Num.Limbs != nil || r.Den.Limbs != nil {
				t.Errorf("Ratio(%s): error %d", show(p[0]), int(e))
			}
			if _, ok, e := Bits(form(11, 52), p[0]); ok || e != api.OK {
				t.Errorf("Bits(%s): error %d", show(p[0]), int(e))
			}
		}
	}
	runtime.ReadMemStats(&after)
	// The limbs of one number of 2^30 bits would be 2^27 bytes.
	if took := after.TotalAlloc - before.TotalAlloc; took > 1<<24 {
		t.Errorf("%d bytes for nothing", took)
	}
}

// productWant is what Mul owes of numbers that are not nought.
func productWant(a, b api.Dyadic) (api.Dyadic, api.Errno) {
	product := new(big.Int).Mul(asInt(a), asInt(b))
	exp := a.Exp + b.Exp
	if product.BitLen() > maxBits || max(exp, -exp) > far {
		return api.Dyadic{}, api.ErrMany
	}
	return great(product, exp), api.OK
}

func checkMul(t *testing.T, a, b api.Dyadic) {
	t.Helper()
	want, wantErr := productWant(a, b)
	got, e := Mul(a, b)
	wants(t, "Mul("+show(a)+", "+show(b)+")", got, e, want, wantErr)
	got, e = Mul(b, a)
	wants(t, "Mul("+show(b)+", "+show(a)+")", got, e, want, wantErr)
}

func TestP46Mul(t *testing.T) {
	r := source(8)
	for range 2000 {
		a, b := some(r, 4), some(r, 4)
		if asInt(a).Sign() != 0 && asInt(b).Sign() != 0 {
			checkMul(t, a, b)
		}
	}
	for _, exp := range []int{far, far - 1, far / 2, 1, 0, -1, -far / 2, 1 - far, -far} {
		for _, other := range []int{far, far - 1, far/2 + 1, far / 2, 1, 0, -1, -far / 2, -far/2 - 1, 1 - far, -far} {
			checkMul(t, dy(3, exp), dy(-5, other))
			checkMul(t, dy(-1, exp), dy(-1, other))
		}
	}
}

func TestP46MulByNought(t *testing.T) {
	for _, d := range ordered() {
		for _, none := range []api.Dyadic{{}, {Mant: api.Nat{Limbs: []uint32{}}}} {
			got, e := Mul(d, none)
			wants(t, "Mul by nought", got, e, api.Dyadic{}, api.OK)
			got, e = Mul(none, d)
			wants(t, "Mul of nought", got, e, api.Dyadic{}, api.OK)
		}
	}
}

func TestP46MulAtMaxLimbs(t *testing.T) {
	t.Parallel()
	half := plus(twoTo(maxBits/2), -1)
	over := plus(twoTo(maxBits/2), 1)
	checkMul(t, great(longest(), 5), dy(1, -7))
	checkMul(t, great(longest(), 5), dy(-1, far-5))
	checkMul(t, great(longest(), 5), dy(-1, far-4))
	checkMul(t, great(longest(), 0), dy(3, 0))
	checkMul(t, great(half, 0), great(half, 0))
	checkMul(t, great(half, 1), great(over, 1))
	checkMul(t, great(over, 1), great(over, 1))
	checkMul(t, great(longest(), far), great(longest(), far))
	checkMul(t, great(plus(twoTo(maxBits-2), 1), 0), dy(3, 0))
	checkMul(t, great(plus(twoTo(maxBits-1), 1), 0), dy(3, 0))
}

type binary struct {
	name string
	do   func(a, b api.Dyadic) (bool, api.Errno)
}

// binaries tell whether all that they answer beside the error is zero.
func binaries() []binary {
	return []binary{
		{"Add", func(a, b api.Dyadic) (bool, api.Errno) {
			d, e := Add(a, b)
			return sameFields(d, api.Dyadic{}), e
		}},
		{"Mul", func(a, b api.Dyadic) (bool, api.Errno) {
			d, e := Mul(a, b)
			return sameFields(d, api.Dyadic{}), e
		}},
		{"Cmp", func(a, b api.Dyadic) (bool, api.Errno) {
			n, e := Cmp(a, b)
			return n == 0, e
		}},
	}
}

// Dyadics that may not be come from the left, ahead of noughts and of what would be too long.
func TestP44toP46WrongDyadics(t *testing.T) {
	all := wrongDyadics()
	for _, c := range binaries() {
		refused := func(what string, a, b api.Dyadic, want api.Errno) {
			t.Helper()
			if zero, e := c.do(a, b); !zero || e != want {
				t.Errorf("%s of %s: all zero: %v, error %d; want %d", c.name, what, zero, int(e), int(want))
			}
		}
		for _, w := range all {
			for _, good := range []api.Dyadic{{}, dy(-1, 0), dy(1, far), dy(1, -far), great(longest(), far)} {
				refused(w.what+", first", w.d, good, w.e)
				refused(w.what+", second", good, w.d, w.e)
			}
			for _, other := range all {
				refused(w.what+" and "+other.what, w.d, other.d, w.e)
			}
		}
	}
}
