package exact

import (
	"slices"
	"testing"

	"numeral/api"
)

const (
	mark  = 0x5a5a5a5a
	spare = 5
)

// roomy has the same limbs and room behind them, which is marked.
func roomy(a api.Nat) api.Nat {
	l := append(slices.Clone(a.Limbs), slices.Repeat([]uint32{mark}, spare)...)
	return api.Nat{Limbs: l[:len(a.Limbs)]}
}

// reach is the limbs of numbers, with the room behind them.
func reach(all ...api.Nat) [][]uint32 {
	var out [][]uint32
	for _, a := range all {
		out = append(out, a.Limbs[:cap(a.Limbs)])
	}
	return out
}

// scribble turns every bit.
func scribble(lists [][]uint32) {
	for _, l := range lists {
		for i := range l {
			l[i] ^= 0xffffffff
		}
	}
}

func snapshot(lists [][]uint32) [][]uint32 {
	var out [][]uint32
	for _, l := range lists {
		out = append(out, slices.Clone(l))
	}
	return out
}

func unchanged(t *testing.T, what string, lists, was [][]uint32) {
	t.Helper()
	if !slices.EqualFunc(lists, was, slices.Equal[[]uint32]) {
		t.Errorf("%s: limbs have changed", what)
	}
}

type lister struct {
	name string
	do   func(a, b api.Dyadic) []api.Nat
}

// listers are all calls that are handed limbs, with the numbers that they answer.
func listers() []lister {
	one := func(d api.Dyadic, _ api.Errno) []api.Nat { return []api.Nat{d.Mant} }
	return []lister{
		{"Make", func(a, b api.Dyadic) []api.Nat { return one(Make(a.Neg, a.Mant, a.Exp)) }},
		{"Check", func(a, b api.Dyadic) []api.Nat { Check(a); return nil }},
		{"Bits", func(a, b api.Dyadic) []api.Nat { Bits(form(11, 52), a); return nil }},
		{"Cmp", func(a, b api.Dyadic) []api.Nat { Cmp(a, b); return nil }},
		{"Add", func(a, b api.Dyadic) []api.Nat { return one(Add(a, b)) }},
		{"Mul", func(a, b api.Dyadic) []api.Nat { return one(Mul(a, b)) }},
		{"Neg", func(a, b api.Dyadic) []api.Nat { return one(Neg(a)) }},
		{"Ratio", func(a, b api.Dyadic) []api.Nat { r, _ := Ratio(a); return []api.Nat{r.Num, r.Den} }},
		{"Of", func(a, b api.Dyadic) []api.Nat {
			d, _, _ := Of(api.Ratio{Neg: a.Neg, Num: a.Mant, Den: b.Mant})
			return []api.Nat{d.Mant}
		}},
	}
}

// Nothing that is handed in is changed, nor is its spare room; no answer shares memory with it.
func TestMemoryOfArguments(t *testing.T) {
	r := source(14)
	dyadics := []api.Dyadic{{}, dy(1, 0), dy(-1, 0), dy(1, 7), dy(3, -7), dy(12, 3), dy(-1<<40-1, 2), great(plus(twoTo(100), 1), 5), some(r, 5), some(r, 5), {Mant: limbs(5, 0)}, {Mant: limbs(0, 0, 8)}, {Neg: true, Exp: 3}}
	for _, c := range listers() {
		for _, x := range dyadics {
			for _, y := range dyadics {
				a, b := x, y
				a.Mant, b.Mant = roomy(x.Mant), roomy(y.Mant)
				in := reach(a.Mant, b.Mant)
				was := snapshot(in)
				out := reach(c.do(a, b)...)
				unchanged(t, c.name, in, was)
				told := snapshot(out)
				scribble(in)
				unchanged(t, c.name+", arguments written over", out, told)
				scribble(in)
				scribble(out)
				unchanged(t, c.name+", the answer written over", in, was)
				c.do(a, a)
				unchanged(t, c.name+", one dyadic twice", in, was)
			}
		}
	}
}

// Two answers share no memory, nor do the two numbers of one.
func TestMemoryOfAnswers(t *testing.T) {
	for _, d := range []api.Dyadic{dy(1, 0), dy(1, -1), dy(-1<<40-1, 2), great(plus(twoTo(100), 1), -5)} {
		for _, c := range listers() {
			one, other := reach(c.do(d, dy(1, 0))...), reach(c.do(d, dy(1, 0))...)
			was := snapshot(other)
			scribble(one)
			unchanged(t, c.name+", made twice", other, was)
			if len(other) == 2 {
				scribble(other[:1])
				unchanged(t, c.name+", the first written over", other[1:], was[1:])
			}
		}
	}
	one, _ := Value(form(5, 10), 0x3c01)
	other, _ := Value(form(5, 10), 0x3c01)
	scribble(reach(one.Mant))
	wants(t, "Value, made twice", other, api.OK, dy(1025, -10), api.OK)
}
