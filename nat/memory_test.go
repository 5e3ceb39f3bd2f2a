package nat

import (
	"slices"
	"testing"

	"numeral/api"
)

const (
	mark  = 0x5a5a5a5a
	spare = 5
)

// roomy has the same limbs and room behind them, which is marked.
func roomy(a api.Nat) api.Nat {
	n := len(a.Limbs)
	l := make([]uint32, n+spare)
	copy(l, a.Limbs)
	for i := range spare {
		l[n+i] = mark
	}
	return api.Nat{Limbs: l[:n]}
}

// whole are the limbs and the room behind them.
func whole(a api.Nat) []uint32 { return a.Limbs[:cap(a.Limbs)] }

// scribble turns every bit that an answer may reach.
func scribble(l []api.Nat) {
	for _, a := range l {
		for i := range whole(a) {
			whole(a)[i] ^= limbMask
		}
	}
}

func copies(l []api.Nat) [][]uint32 {
	var out [][]uint32
	for _, a := range l {
		out = append(out, slices.Clone(whole(a)))
	}
	return out
}

func unchanged(t *testing.T, what string, l []api.Nat, was [][]uint32) {
	t.Helper()
	for i, a := range l {
		if !slices.Equal(whole(a), was[i]) {
			t.Errorf("%s: number %d has changed", what, i)
		}
	}
}

type lister struct {
	name string
	do   func(a, b api.Nat) []api.Nat
}

// listers are all calls that are handed numbers, with all numbers that they answer.
func listers() []lister {
	return []lister{
		{"Check", func(a, b api.Nat) []api.Nat { Check(a); return nil }},
		{"Cmp", func(a, b api.Nat) []api.Nat { Cmp(a, b); return nil }},
		{"Add", func(a, b api.Nat) []api.Nat { s, _ := Add(a, b); return []api.Nat{s} }},
		{"Sub", func(a, b api.Nat) []api.Nat { s, _, _ := Sub(a, b); return []api.Nat{s} }},
		{"Mul", func(a, b api.Nat) []api.Nat { s, _ := Mul(a, b); return []api.Nat{s} }},
		{"Div", func(a, b api.Nat) []api.Nat { q, r, _ := Div(a, b); return []api.Nat{q, r} }},
		{"Gcd", func(a, b api.Nat) []api.Nat { s, _ := Gcd(a, b); return []api.Nat{s} }},
		{"Up 0", func(a, b api.Nat) []api.Nat { s, _ := Up(a, 0); return []api.Nat{s} }},
		{"Up 32", func(a, b api.Nat) []api.Nat { s, _ := Up(a, 32); return []api.Nat{s} }},
		{"Up 33", func(a, b api.Nat) []api.Nat { s, _ := Up(a, 33); return []api.Nat{s} }},
		{"Down 0", func(a, b api.Nat) []api.Nat { s, _ := Down(a, 0); return []api.Nat{s} }},
		{"Down 32", func(a, b api.Nat) []api.Nat { s, _ := Down(a, 32); return []api.Nat{s} }},
		{"Down 33", func(a, b api.Nat) []api.Nat { s, _ := Down(a, 33); return []api.Nat{s} }},
		{"Bits", func(a, b api.Nat) []api.Nat { Bits(a); return nil }},
		{"Bit", func(a, b api.Nat) []api.Nat { Bit(a, 3); return nil }},
		{"Low", func(a, b api.Nat) []api.Nat { Low(a); return nil }},
		{"Text", func(a, b api.Nat) []api.Nat { Text(a); return nil }},
	}
}

// Nothing that is handed in is changed, nor is its spare room; no answer shares memory with it, nor with another answer.
func TestMemoryOfArguments(t *testing.T) {
	r := source(97)
	numbers := []api.Nat{{}, Of(1), Of(7), Of(1 << 40), limbs(0, 0, 1), some(r, 8), some(r, 8), filled(6, limbMask), limbs(5, 0), filled(4, 0)}
	for _, c := range listers() {
		for _, x := range numbers {
			for _, y := range numbers {
				in := []api.Nat{roomy(x), roomy(y)}
				was := copies(in)
				out := c.do(in[0], in[1])
				unchanged(t, c.name, in, was)
				told := copies(out)
				scribble(in)
				unchanged(t, c.name+", arguments written over", out, told)
				scribble(in)
				scribble(out)
				unchanged(t, c.name+", answers written over", in, was)
				one := roomy(x)
				c.do(one, one)
				unchanged(t, c.name+", one number twice", []api.Nat{one}, was[:1])
			}
		}
	}
}

func TestMemoryOfAnswers(t *testing.T) {
	r := source(98)
	for range 200 {
		a, b := some(r, 9), some(r, 5)
		q, rest, _ := Div(a, b)
		was := copies([]api.Nat{rest})
		scribble([]api.Nat{q})
		unchanged(t, "Div, the quotient written over", []api.Nat{rest}, was)
	}
	for _, make := range []func() api.Nat{
		func() api.Nat { return Of(7) },
		func() api.Nat { a, _ := Pow(0, 0); return a },
		func() api.Nat { a, _ := Pow(10, 30); return a },
		func() api.Nat { a, _, _ := Parse("12345678901234567890"); return a },
	} {
		one := make()
		was := copies([]api.Nat{one})
		scribble([]api.Nat{make()})
		unchanged(t, "made twice", []api.Nat{one}, was)
	}
}
