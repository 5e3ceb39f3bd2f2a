package sums

import (
	"math"
	"math/big"
	"math/rand/v2"
	"slices"
	"testing"
)

const (
	greatest = math.MaxFloat64
	least    = math.SmallestNonzeroFloat64
	normal   = 0x1p-1022
	u        = 0x1p-53
)

var (
	inf   = math.Inf(1)
	none  = math.NaN()
	minus = math.Copysign(0, -1)
)

// same is whether two floats are the same, by the document's word.
func same(a, b float64) bool {
	return math.Float64bits(a) == math.Float64bits(b) || a != a && b != b
}

func wants(t *testing.T, what string, l []float64, got, want float64) {
	t.Helper()
	if !same(got, want) {
		t.Errorf("%s(%v): %v, want %v", what, l, got, want)
	}
}

// source is the same at every run.
func source(seed uint64) *rand.Rand { return rand.New(rand.NewPCG(seed, 9)) }

// edges are the floats that the document names, some beside them, and ordinary ones.
func edges() []float64 {
	all := []float64{0, least, 3 * least, normal, 1, 1 + 2*u, 1 - u, u, 3, 0x1p100, 0x1p970, greatest, inf}
	for _, x := range slices.Clone(all) {
		all = append(all, -x)
	}
	return append(all, minus, none)
}

// edgeLists are all lists of none, of one and of two edges, and some of three and of four.
func edgeLists() [][]float64 {
	all := [][]float64{nil, {}}
	few := []float64{0, minus, least, -least, 1, -1, u, greatest, -greatest, inf, -inf, none}
	for _, a := range edges() {
		all = append(all, []float64{a})
		for _, b := range edges() {
			all = append(all, []float64{a, b})
		}
	}
	for _, a := range few {
		for _, b := range few {
			for _, c := range few {
				all = append(all, []float64{a, b, c}, []float64{c, a, -b, -c}, []float64{a, 0x1p-970, b, 0x1p970, c})
			}
		}
	}
	return all
}

// kinds are ways to choose a float: what comes out of one of them goes together in a list.
func kinds() []func(r *rand.Rand) float64 {
	all := edges()
	return []func(r *rand.Rand) float64{
		func(r *rand.Rand) float64 { return r.NormFloat64() },
		func(r *rand.Rand) float64 { return float64(r.IntN(200)-100) / 8 },
		func(r *rand.Rand) float64 { return math.Ldexp(r.NormFloat64(), r.IntN(120)-60) },
		func(r *rand.Rand) float64 { return float64(r.Int64N(1<<53)) * sign(r) },
		func(r *rand.Rand) float64 { return math.Float64frombits(r.Uint64N(0x7ff<<52)) * sign(r) },
		func(r *rand.Rand) float64 { return math.Float64frombits(r.Uint64N(3<<52)) * sign(r) },
		func(r *rand.Rand) float64 { return math.Float64frombits(r.Uint64N(20)) * sign(r) },
		func(r *rand.Rand) float64 { return math.Float64frombits(0x7ff<<52-1-r.Uint64N(3<<52)) * sign(r) },
		func(r *rand.Rand) float64 { return 0 * sign(r) },
		func(r *rand.Rand) float64 { return all[r.IntN(len(all))] },
	}
}

func sign(r *rand.Rand) float64 { return float64(1 - 2*r.IntN(2)) }

// someList is a list of up to n floats of one kind, now and then with such as cancel most of it.
func someList(r *rand.Rand, n int) []float64 {
	all := kinds()
	next := all[r.IntN(len(all))]
	l := make([]float64, r.IntN(n+1))
	for i := range l {
		l[i] = next(r)
		if i > 0 && r.IntN(6) == 0 {
			l[i] = -l[r.IntN(i)]
		}
	}
	return l
}

// eachList goes through the lists of edges, and through others.
func eachList(seed uint64, do func(l []float64)) {
	for _, l := range edgeLists() {
		do(l)
	}
	r := source(seed)
	for range 4000 {
		do(someList(r, 12))
	}
	for range 100 {
		do(someList(r, 200))
	}
}

func shuffled(r *rand.Rand, l []float64) []float64 {
	mixed := slices.Clone(l)
	r.Shuffle(len(mixed), func(i, j int) { mixed[i], mixed[j] = mixed[j], mixed[i] })
	return mixed
}

// worth is what a finite float is worth.
func worth(x float64) *big.Rat { return new(big.Rat).SetFloat64(x) }

func plus(x, y *big.Rat) *big.Rat { return new(big.Rat).Add(x, y) }

func less(x, y *big.Rat) *big.Rat { return new(big.Rat).Sub(x, y) }

func times(x, y *big.Rat) *big.Rat { return new(big.Rat).Mul(x, y) }

// nearest is what a fraction rounds to by Even; neg is the sign of nought.
func nearest(x *big.Rat, neg bool) float64 {
	if x.Sign() == 0 {
		return signedNought(neg)
	}
	v, _ := x.Float64()
	return v
}

// above is what a fraction that is not below nought rounds to by Up.
func above(x *big.Rat) float64 {
	v := nearest(x, false)
	if !math.IsInf(v, 0) && worth(v).Cmp(x) < 0 {
		return math.Nextafter(v, inf)
	}
	return v
}

func signedNought(neg bool) float64 {
	if neg {
		return minus
	}
	return 0
}

// added is one step a + b, told by fractions.
func added(a, b float64) float64 {
	switch {
	case a != a || b != b || math.IsInf(a, 0) && b == -a:
		return none
	case math.IsInf(a, 0):
		return a
	case math.IsInf(b, 0):
		return b
	}
	return nearest(plus(worth(a), worth(b)), isMinusNought(a) && isMinusNought(b))
}

// taken is one step a - b.
func taken(a, b float64) float64 { return added(a, -b) }

// multiplied is one step a * b, told by fractions.
func multiplied(a, b float64) float64 {
	neg := math.Signbit(a) != math.Signbit(b)
	switch {
	case a != a || b != b || isInfinite(a) && b == 0 || a == 0 && isInfinite(b):
		return none
	case isInfinite(a) || isInfinite(b):
		return signedInf(neg)
	}
	return nearest(times(worth(a), worth(b)), neg)
}

func signedInf(neg bool) float64 {
	if neg {
		return -inf
	}
	return inf
}

func isMinusNought(x float64) bool { return math.Float64bits(x) == 1<<63 }

func isInfinite(x float64) bool { return math.IsInf(x, 0) }

// whatEdgesSay is the answer for a list that has what is no number, or infinities, by the words of the exact sum.
func whatEdgesSay(l []float64) (float64, bool) {
	switch up, down := slices.Contains(l, inf), slices.Contains(l, -inf); {
	case slices.ContainsFunc(l, math.IsNaN) || up && down:
		return none, true
	case up:
		return inf, true
	case down:
		return -inf, true
	}
	return 0, false
}

// sumOf is what finite floats are worth together.
func sumOf(l []float64) *big.Rat {
	sum := new(big.Rat)
	for _, x := range l {
		sum.Add(sum, worth(x))
	}
	return sum
}

// sizes are floats without their signs.
func sizes(l []float64) []float64 {
	all := slices.Clone(l)
	for i, x := range all {
		all[i] = math.Abs(x)
	}
	return all
}

// areMinusNoughts is whether there is a float, and all are minus nought.
func areMinusNoughts(l []float64) bool {
	return len(l) > 0 && !slices.ContainsFunc(l, func(x float64) bool { return !isMinusNought(x) })
}
