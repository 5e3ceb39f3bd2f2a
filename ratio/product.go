package ratio

import (
	"math/bits"

	"numeral/api"
	"numeral/nat"
)

// maxBits is how many bits a whole number may have.
const maxBits = api.MaxLimbs * 32

// Mul is the product.
func Mul(a, b api.Ratio) (api.Ratio, api.Errno) {
	p := both{a, b}
	return p.checked(p.product)
}

// Div is a over b.
func Div(a, b api.Ratio) (api.Ratio, api.Errno) {
	p := both{a, b}
	return p.checked(p.quotient)
}

// product takes what is common out ahead of the products, so that these are the answer's own Num and Den.
func (p both) product() (api.Ratio, api.Errno) {
	var w work
	falling, rising := w.gcd(p.a.Num, p.b.Den), w.gcd(p.b.Num, p.a.Den)
	num := w.mul(w.over(p.a.Num, falling), w.over(p.b.Num, rising))
	den := w.mul(w.over(p.a.Den, rising), w.over(p.b.Den, falling))
	return w.fraction(p.a.Neg != p.b.Neg, num, den)
}

func (p both) quotient() (api.Ratio, api.Errno) {
	if isNought(p.b.Num) {
		return api.Ratio{}, api.ErrZero
	}
	p.b.Num, p.b.Den = p.b.Den, p.b.Num
	return p.product()
}

// Scale is a times b to the power of n, n of any sign.
func Scale(a api.Ratio, b uint32, n int) (api.Ratio, api.Errno) {
	if e := Check(a); e != api.OK {
		return api.Ratio{}, e
	}
	if b == 0 && n < 0 {
		return api.Ratio{}, api.ErrZero
	}
	if b == 0 && n > 0 {
		return Whole(0), api.OK
	}
	if b <= 1 || n == 0 || isNought(a.Num) {
		return copied(a.Neg, a), api.OK
	}
	if n < 0 {
		return scaled(a, b, -uint64(n), both.quotient)
	}
	return scaled(a, b, uint64(n), both.product)
}

// scaled multiplies by, or divides by, b to the power of n, b from 2 on. The power may be too long where the answer is not, as it is cancelled: so it goes by steps. From one to the next the number that is lengthened only gets factors, the other one only loses some: none of them is too long where the answer is not.
func scaled(a api.Ratio, b uint32, n uint64, operation func(both) (api.Ratio, api.Errno)) (api.Ratio, api.Errno) {
	// Even all of the other number cancelled leaves too many bits.
	if n >= 2*maxBits {
		return api.Ratio{}, api.ErrMany
	}
	longest := uint64(maxBits / bits.Len32(b))
	for n > 0 {
		step := min(n, longest)
		n -= step
		power, e := nat.Pow(b, int(step))
		if e != api.OK {
			return api.Ratio{}, e
		}
		a, e = operation(both{a, api.Ratio{Num: power, Den: nat.Of(1)}})
		if e != api.OK {
			return api.Ratio{}, e
		}
	}
	return a, api.OK
}
