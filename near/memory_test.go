package near

import (
	"math"
	"slices"
	"testing"

	"numeral/api"
)

// scribble writes over all of a list, its spare room too.
func scribble(limbs []uint32) {
	for i := range limbs[:cap(limbs)] {
		limbs[:cap(limbs)][i] = math.MaxUint32
	}
}

// The lists of an answer share no memory with one another, nor with a later answer.
func TestMemoryOfReach(t *testing.T) {
	for _, f := range []api.Form{half, double, form(2, 1)} {
		for _, bits := range edges(f) {
			for _, mode := range everyMode {
				before := reachOf(t, f, bits, mode)
				for part := range 4 {
					low, high, _, _, _ := Reach(f, bits, mode)
					lists := [][]uint32{low.Num.Limbs, low.Den.Limbs, high.Num.Limbs, high.Den.Limbs}
					kept := make([][]uint32, len(lists))
					for i, list := range lists {
						kept[i] = slices.Clone(list)
					}
					scribble(lists[part])
					for i, list := range lists {
						if i != part && !slices.Equal(list, kept[i]) {
							t.Errorf("Reach(%v, %#x, %d): parts %d and %d share memory", f, bits, mode, part, i)
						}
					}
				}
				if after := reachOf(t, f, bits, mode); !after.is(before) {
					t.Errorf("Reach(%v, %#x, %d) changed: %v, then %v", f, bits, mode, before, after)
				}
			}
		}
	}
}

func TestMemoryOfUlpAndMid(t *testing.T) {
	for _, f := range []api.Form{half, double, form(2, 1)} {
		for _, bits := range edges(f) {
			d, _ := Ulp(f, bits)
			scribble(d.Mant.Limbs)
			checkUlp(t, f, bits)
			d, _ = Mid(f, bits, bits)
			scribble(d.Mant.Limbs)
			checkMid(t, f, bits, bits)
		}
	}
}
