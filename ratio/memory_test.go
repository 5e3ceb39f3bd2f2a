package ratio

import (
	"math/big"
	"slices"
	"testing"

	"numeral/api"
)

const (
	mark  = 0x5a5a5a5a
	spare = 5
)

// roomy has the same limbs and room behind them, which is marked.
func roomy(a api.Nat) api.Nat {
	l := append(slices.Clone(a.Limbs), slices.Repeat([]uint32{mark}, spare)...)
	return api.Nat{Limbs: l[:len(a.Limbs)]}
}

func roomyRatio(r api.Ratio) api.Ratio {
	return api.Ratio{Neg: r.Neg, Num: roomy(r.Num), Den: roomy(r.Den)}
}

// reach are all limbs that fractions have, with the room behind them.
func reach(all ...api.Ratio) [][]uint32 {
	var out [][]uint32
	for _, r := range all {
		out = append(out, r.Num.Limbs[:cap(r.Num.Limbs)], r.Den.Limbs[:cap(r.Den.Limbs)])
	}
	return out
}

// scribble turns every bit.
func scribble(lists [][]uint32) {
	for _, l := range lists {
		for i := range l {
			l[i] ^= 0xffffffff
		}
	}
}

func snapshot(lists [][]uint32) [][]uint32 {
	var out [][]uint32
	for _, l := range lists {
		out = append(out, slices.Clone(l))
	}
	return out
}

func unchanged(t *testing.T, what string, lists, was [][]uint32) {
	t.Helper()
	if !slices.EqualFunc(lists, was, slices.Equal[[]uint32]) {
		t.Errorf("%s: limbs have changed", what)
	}
}

type lister struct {
	name string
	do   func(a, b api.Ratio) api.Ratio
}

// listers are all calls that are handed fractions, with what they answer.
func listers() []lister {
	all := []lister{
		{"Check", func(a, b api.Ratio) api.Ratio { Check(a); return api.Ratio{} }},
		{"Cmp", func(a, b api.Ratio) api.Ratio { Cmp(a, b); return api.Ratio{} }},
		{"Make", func(a, b api.Ratio) api.Ratio { r, _ := Make(a.Neg, a.Num, b.Num); return r }},
		{"Make, of one fraction", func(a, b api.Ratio) api.Ratio { r, _ := Make(a.Neg, a.Num, a.Den); return r }},
		{"Make, turned over", func(a, b api.Ratio) api.Ratio { r, _ := Make(a.Neg, a.Den, a.Num); return r }},
		{"Neg", func(a, b api.Ratio) api.Ratio { r, _ := Neg(a); return r }},
		{"Abs", func(a, b api.Ratio) api.Ratio { r, _ := Abs(a); return r }},
		{"Floor", func(a, b api.Ratio) api.Ratio { _, n, _ := Floor(a); return api.Ratio{Num: n} }},
		{"Text", func(a, b api.Ratio) api.Ratio { Text(a); return api.Ratio{} }},
		{"Scale by 1", func(a, b api.Ratio) api.Ratio { r, _ := Scale(a, 1, 9); return r }},
		{"Scale by 10", func(a, b api.Ratio) api.Ratio { r, _ := Scale(a, 10, 9); return r }},
		{"Scale by 1/6", func(a, b api.Ratio) api.Ratio { r, _ := Scale(a, 6, -1); return r }},
		{"Scale by 7, not at all", func(a, b api.Ratio) api.Ratio { r, _ := Scale(a, 7, 0); return r }},
	}
	for _, c := range binaries() {
		all = append(all, lister{c.name, func(a, b api.Ratio) api.Ratio { r, _ := c.do(a, b); return r }})
	}
	return all
}

// Nothing that is handed in is changed, nor is its spare room; no answer shares memory with it.
func TestMemoryOfArguments(t *testing.T) {
	r := source(15)
	fractions := []api.Ratio{Whole(0), Whole(1), Whole(-1), Whole(1 << 40), frac(t, "1/2"), frac(t, "-7/18446744073709551616"), some(r, 7), some(r, 7), {Num: limbs(2), Den: limbs(4)}, {Num: limbs(5, 0), Den: limbs(0, 0)}, {}}
	for _, c := range listers() {
		for _, x := range fractions {
			for _, y := range fractions {
				a, b := roomyRatio(x), roomyRatio(y)
				in := reach(a, b)
				was := snapshot(in)
				out := reach(c.do(a, b))
				unchanged(t, c.name, in, was)
				told := snapshot(out)
				scribble(in)
				unchanged(t, c.name+", arguments written over", out, told)
				scribble(in)
				scribble(out)
				unchanged(t, c.name+", the answer written over", in, was)
				one := roomyRatio(x)
				c.do(one, one)
				unchanged(t, c.name+", one fraction twice", reach(one), was[:2])
			}
		}
	}
}

// Num and Den of an answer share no memory, nor do two answers.
func TestMemoryOfAnswers(t *testing.T) {
	a, b := frac(t, "-36893488147419103233/10"), frac(t, "7/36893488147419103232")
	for _, c := range listers() {
		one, other := c.do(a, b), c.do(a, b)
		was := snapshot(reach(other))
		scribble(reach(one))
		unchanged(t, c.name+", made twice", reach(other), was)
		scribble(reach(other)[:1])
		unchanged(t, c.name+", Num written over", reach(other)[1:], was[1:])
	}
	one, other := Whole(1), Whole(1)
	scribble(reach(one)[:1])
	same(t, "Whole, made twice", other, api.OK, big.NewRat(1, 1))
	same(t, "Whole, Num written over", api.Ratio{Num: limbs(1), Den: one.Den}, api.OK, big.NewRat(1, 1))
	read, _, _ := Parse("7/7")
	scribble(reach(read)[:1])
	same(t, "Parse, Num written over", api.Ratio{Num: limbs(1), Den: read.Den}, api.OK, big.NewRat(1, 1))
	// Memory with several limbs in common between Num and Den is fine as long as it is only read.
	l := []uint32{1, 2, 3}
	shared := api.Ratio{Num: limbs(l[:2]...), Den: limbs(l...)}
	was := slices.Clone(l)
	for _, c := range listers() {
		c.do(shared, shared)
	}
	if !slices.Equal(l, was) {
		t.Error("limbs that two numbers share have changed")
	}
}
