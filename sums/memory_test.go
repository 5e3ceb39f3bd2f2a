package sums

import (
	"math"
	"testing"
)

// kept is whether a list has the same bits as a copy made ahead, what is no number too.
func kept(l []float64, bits []uint64) bool {
	for i, x := range l {
		if math.Float64bits(x) != bits[i] {
			return false
		}
	}
	return true
}

func bitsOf(l []float64) []uint64 {
	all := make([]uint64, len(l))
	for i, x := range l {
		all[i] = math.Float64bits(x)
	}
	return all
}

// The lists have spare room, and stand in the midst of others: none of that may change, either.
func TestP98OnlyRead(t *testing.T) {
	r := source(981)
	for range 300 {
		around := append(someList(r, 30), 7, math.Float64frombits(0xfff8dead00000001), -3, 2, 5, 1)
		bits := bitsOf(around)
		half := len(around) / 2
		a, b := around[1:half], around[half:2*half-1]
		for what, sum := range allSums() {
			sum(a)
			if !kept(around, bits) {
				t.Fatalf("%s changed what was handed in", what)
			}
		}
		Dot(a, b)
		DotExact(a, b)
		Mean(a)
		Bound(a)
		if !kept(around, bits) {
			t.Fatal("Dot, DotExact, Mean or Bound changed what was handed in")
		}
	}
}

// The same lists have the same answers, whatever was asked between, and whatever becomes of other lists.
func TestP98NothingIsKept(t *testing.T) {
	r := source(982)
	var lists [][]float64
	var answers []float64
	for range 200 {
		l := someList(r, 20)
		lists = append(lists, l)
		answers = append(answers, Rising(l), Exact(l), Bound(l))
		spoilt := append([]float64(nil), l...)
		Rising(spoilt)
		Exact(spoilt)
		for i := range spoilt {
			spoilt[i] = 1e300
		}
	}
	for i, l := range lists {
		wants(t, "Rising", l, Rising(l), answers[3*i])
		wants(t, "Exact", l, Exact(l), answers[3*i+1])
		wants(t, "Bound", l, Bound(l), answers[3*i+2])
	}
}
