package quick

import (
	"math"
	"math/big"
	"math/rand/v2"
	"strconv"
	"strings"
	"testing"

	"numeral/api"
	"numeral/dec"
	"numeral/nat"
	"numeral/round"
)

// kind is a type of native floats, with the numbers that the chapter's words have for it.
type kind struct {
	name  string
	size  int // bits, as strconv counts them
	form  api.Form
	whole int64 // the digits are at most this
	tens  int   // 10 to the power of this is a float
	last  int   // no exponent above this is quick
}

var (
	double = kind{name: "Double", size: 64, form: api.Form{Exp: 11, Frac: 52}, whole: 1 << 53, tens: 22, last: 37}
	single = kind{name: "Single", size: 32, form: api.Form{Exp: 8, Frac: 23}, whole: 1 << 24, tens: 10, last: 17}
)

var bothKinds = []kind{double, single}

// dc is a decimal as it is written; a minus ahead of the digits sets Neg.
func dc(digits string, exp int) api.Dec {
	rest, neg := strings.CutPrefix(digits, "-")
	return api.Dec{Neg: neg, Digits: rest, Exp: exp}
}

// di is a decimal whose digits come to n, as they are: a nought at the end stays.
func di(n int64, exp int) api.Dec { return dc(strconv.FormatInt(n, 10), exp) }

// turned is a decimal with its sign turned, nought's too.
func turned(d api.Dec) api.Dec {
	d.Neg = !d.Neg
	return d
}

// text is a decimal as strconv reads it; it tells one in messages, too.
func text(d api.Dec) string {
	s := d.Digits
	if s == "" {
		s = "0"
	}
	if d.Neg {
		s = "-" + s
	}
	if len(s) > 60 {
		s = s[:20] + ".." + strconv.Itoa(len(s)) + " bytes"
	}
	return s + "e" + strconv.Itoa(d.Exp)
}

// source is the same at every run.
func source(seed uint64) *rand.Rand { return rand.New(rand.NewPCG(seed, 14)) }

func tenTo(n int) *big.Int { return new(big.Int).Exp(big.NewInt(10), big.NewInt(int64(n)), nil) }

// isQuick is the chapter's words, by whole numbers that nothing wraps.
func (k kind) isQuick(d api.Dec) bool {
	if dec.Check(d) != api.OK {
		return false
	}
	if d.Digits == "" {
		return true
	}
	n, _ := new(big.Int).SetString(d.Digits, 10)
	if d.Exp > k.tens && d.Exp <= k.last {
		n.Mul(n, tenTo(d.Exp-k.tens))
	}
	return -k.tens <= d.Exp && d.Exp <= k.last && n.Cmp(big.NewInt(k.whole)) <= 0
}

// nearestBits are those of the float that is nearest to a decimal, by a fraction that is rounded once.
func (k kind) nearestBits(d api.Dec) uint64 {
	x, ok := new(big.Rat).SetString(text(api.Dec{Digits: d.Digits, Exp: d.Exp}))
	if !ok {
		panic("no fraction: " + text(d))
	}
	f, _ := x.Float64()
	bits, minus := math.Float64bits(f), uint64(1)<<63
	if k.size == 32 {
		f, _ := x.Float32()
		bits, minus = uint64(math.Float32bits(f)), 1<<31
	}
	if d.Neg {
		bits |= minus
	}
	return bits
}

// parsedBits are what strconv reads.
func (k kind) parsedBits(d api.Dec) uint64 {
	x, err := strconv.ParseFloat(text(d), k.size)
	if err != nil {
		panic(err)
	}
	if k.size == 32 {
		return uint64(math.Float32bits(float32(x)))
	}
	return math.Float64bits(x)
}

// roundedBits are what chapter 5 rounds to by Even. The fraction is of d's own sign, and the digits go in without their power.
func (k kind) roundedBits(t *testing.T, d api.Dec) uint64 {
	t.Helper()
	r, e := dec.Ratio(api.Dec{Digits: d.Digits})
	if e != api.OK {
		t.Fatalf("no fraction of %s: error %d", text(d), int(e))
	}
	if nought, _ := nat.Cmp(r.Num, api.Nat{}); nought != 0 {
		r.Neg = d.Neg
	}
	bits, _, e := round.Scaled(k.form, r, d.Exp, d.Neg, api.Even)
	if e != api.OK {
		t.Fatalf("%s is not rounded: error %d", text(d), int(e))
	}
	return bits
}

// told is what Double, or Single, answers, as bits.
func (k kind) told(d api.Dec) (uint64, bool) {
	if k.size == 32 {
		x, ok := Single(d)
		return uint64(math.Float32bits(x)), ok
	}
	x, ok := Double(d)
	return math.Float64bits(x), ok
}

// holds holds an answer against the chapter's words, whatever the decimal is: the nearest float, or 0 without a minus and false. Fits goes beside Double.
func (k kind) holds(t *testing.T, d api.Dec) {
	t.Helper()
	want, quick := uint64(0), k.isQuick(d)
	if quick {
		want = k.nearestBits(d)
	}
	if bits, ok := k.told(d); bits != want || ok != quick {
		t.Errorf("%s(%s): %x, %v; want %x, %v", k.name, text(d), bits, ok, want, quick)
	}
	if fits := Fits(d); fits != double.isQuick(d) {
		t.Errorf("Fits(%s): %v", text(d), fits)
	}
}

// holdsBoth is of both signs.
func (k kind) holdsBoth(t *testing.T, d api.Dec) {
	t.Helper()
	k.holds(t, d)
	k.holds(t, turned(d))
}

// sure wants a decimal of both signs to be quick, and refused to be not quick: what the words of the chapter come to at this place is written out by the test, and not worked out.
func (k kind) sure(t *testing.T, d api.Dec) {
	t.Helper()
	k.wants(t, d, true)
}

func (k kind) refused(t *testing.T, d api.Dec) {
	t.Helper()
	k.wants(t, d, false)
}

func (k kind) wants(t *testing.T, d api.Dec, quick bool) {
	t.Helper()
	for _, d := range []api.Dec{d, turned(d)} {
		if _, ok := k.told(d); ok != quick {
			t.Errorf("%s(%s): %v", k.name, text(d), ok)
		}
		if k.size == 64 && Fits(d) != quick {
			t.Errorf("Fits(%s): %v", text(d), !quick)
		}
		k.holds(t, d)
	}
}

// some is a decimal, quick for this kind or somewhat beyond that.
func (k kind) some(r *rand.Rand) api.Dec {
	most := k.whole >> r.IntN(60)
	n := 1 + r.Int64N(max(most+most/8, 9))
	d, _ := dec.Make(r.IntN(2) == 0, strconv.FormatInt(n, 10), r.IntN(2*k.tens+3)-k.tens-1)
	if r.IntN(4) == 0 {
		d.Exp = k.tens + r.IntN(k.last-k.tens+2)
	}
	return d
}
