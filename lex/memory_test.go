package lex

import (
	"slices"
	"testing"

	"numeral/api"
)

// What is handed in stays as it was, its spare room too, and nothing of it is in an answer.
func TestP114NothingHandedInChanges(t *testing.T) {
	room := []uint32{0xffffffff, 0x12345678, 5, 99, 98}
	n := api.Number{Kind: api.NumHex, Neg: true, Hex: api.Dyadic{Neg: true, Mant: api.Nat{Limbs: room[:3]}, Exp: 7}}
	kept := slices.Clone(room)
	first := mustText(t, n)
	if e := Check(n); e != api.OK {
		t.Error("Check:", int(e))
	}
	if !slices.Equal(room, kept) || n.Kind != api.NumHex || !n.Neg || n.Hex.Exp != 7 {
		t.Error("a number was changed:", show(n))
	}
	if again := mustText(t, n); again != first {
		t.Errorf("Text answers %s, then %s", first, again)
	}
}

// No two answers share memory.
func TestP111AnswersAreNew(t *testing.T) {
	s := "0x123456789abcdef01"
	first, second := mustRead(t, s), mustRead(t, s)
	begun, _ := Begin(s)
	for i := range first.Hex.Mant.Limbs {
		first.Hex.Mant.Limbs[i] = 77
	}
	want, _ := says(s)
	if !same(second, want) || !same(begun, want) {
		t.Errorf("an answer was changed through another: %s, %s", show(second), show(begun))
	}
	readAs(t, s, answer{n: want})
}
