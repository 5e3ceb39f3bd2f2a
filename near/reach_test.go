package near

import (
	"math/big"
	"slices"
	"testing"

	"numeral/api"
	"numeral/round"
)

// roundsTo is what the reach is said to be: does x round to the float, without an overflow? The sign of nought is the float's.
func roundsTo(t *testing.T, f api.Form, x *big.Rat, bits uint64, mode uint8) bool {
	t.Helper()
	got, flags, e := round.Ratio(f, asRatio(x), bits >= minus(f), mode)
	if e != api.OK {
		t.Fatalf("round.Ratio(%v, %s, mode %d): error %d", f, short(x), mode, int(e))
	}
	return got == bits && flags&api.FlagOverflow == 0
}

// points are all finite floats of a small form and the ones beyond, the middles of each two, and numbers between all of these, in a row. Between two of them that are neighbours all numbers round alike. The even ones are floats and middles, the odd ones lie between.
func points(f api.Form) []*big.Rat {
	var kept []*big.Rat
	for _, bits := range allNumbers(f) {
		x := worth(f, bits)
		if len(kept) > 0 {
			kept = append(kept, halfway(kept[len(kept)-1], x))
		}
		kept = append(kept, x)
	}
	var all []*big.Rat
	for i, x := range kept {
		if i > 0 {
			all = append(all, halfway(kept[i-1], x))
		}
		all = append(all, x)
	}
	return all
}

// reachAmong is the reach as round.Ratio tells it, number by number.
func reachAmong(t *testing.T, all []*big.Rat, f api.Form, bits uint64, mode uint8) reach {
	t.Helper()
	takes := func(x *big.Rat) bool { return roundsTo(t, f, x, bits, mode) }
	first := slices.IndexFunc(all, takes)
	if first < 0 {
		t.Fatalf("no number rounds to %#x in %v by mode %d", bits, f, mode)
	}
	last := first
	for last+1 < len(all) && takes(all[last+1]) {
		last++
	}
	r := reach{lowIn: first%2 == 0, highIn: last%2 == 0}
	r.low, r.high = all[first-first%2], all[last+last%2]
	return r
}

// P6.5, for all floats of the small forms, by every mode.
func TestP65ReachInSmallForms(t *testing.T) {
	for _, f := range smallForms() {
		t.Run("", func(t *testing.T) {
			t.Parallel()
			all := points(f)
			for _, mode := range everyMode {
				for bits := range 2 * minus(f) {
					if bits%minus(f) >= infinite(f) {
						continue
					}
					if got, want := reachOf(t, f, bits, mode), reachAmong(t, all, f, bits, mode); !got.is(want) {
						t.Errorf("Reach(%v, %#x, %d): %v, want %v", f, bits, mode, got, want)
					}
				}
			}
		})
	}
}

// wantReach is the reach by the words of the modes, for a float without a sign; neg: mirrored, that of the same float with one.
func wantReach(f api.Form, size uint64, neg bool, mode uint8) reach {
	if neg {
		mirrored := map[uint8]uint8{api.Even: api.Even, api.Away: api.Away, api.Zero: api.Zero, api.Up: api.Down, api.Down: api.Up}
		r := wantReach(f, size, false, mirrored[mode])
		return reach{new(big.Rat).Neg(r.high), new(big.Rat).Neg(r.low), r.highIn, r.lowIn}
	}
	here, above := worth(f, size), worth(f, size+1)
	below := here
	if size > 0 {
		below = worth(f, size-1)
	}
	even := size%2 == 0
	r := map[uint8]reach{
		api.Even: {halfway(below, here), halfway(here, above), even, even},
		api.Away: {halfway(below, here), halfway(here, above), true, false},
		api.Zero: {here, above, true, false},
		api.Up:   {below, here, false, true},
		api.Down: {here, above, true, false},
	}[mode]
	if size == 0 {
		r.lowIn = true
	}
	return r
}

func checkReach(t *testing.T, f api.Form, bits uint64, mode uint8) {
	t.Helper()
	got, want := reachOf(t, f, bits, mode), wantReach(f, bits%minus(f), bits >= minus(f), mode)
	if !got.is(want) {
		t.Errorf("Reach(%v, %#x, %d): %v, want %v", f, bits, mode, got, want)
	}
}

// P6.5, at the edges of forms of all kinds, by every mode.
func TestP65ReachAtTheEdges(t *testing.T) {
	r := source(6)
	for _, f := range edgeForms() {
		for _, mode := range everyMode {
			for _, bits := range edges(f) {
				checkReach(t, f, bits, mode)
			}
			for range 60 {
				checkReach(t, f, some(r, f), mode)
			}
		}
	}
}

// P6.5: powers of two, whose lower neighbour is nearer than the upper one.
func TestP65ReachOfPowersOfTwo(t *testing.T) {
	for _, f := range []api.Form{half, brain, form(2, 52), form(6, 30)} {
		for exp := range uint64(1<<f.Exp - 1) {
			for _, mode := range everyMode {
				checkReach(t, f, exp<<f.Frac, mode)
				checkReach(t, f, exp<<f.Frac+minus(f), mode)
			}
		}
	}
}

// P6.5: nothing of the other side of nought, and 0 in both.
func TestP65ReachOfTheNoughts(t *testing.T) {
	none := new(big.Rat)
	for exp := 2; exp <= 11; exp++ {
		for frac := 1; frac <= 52; frac++ {
			f := form(exp, frac)
			least := worth(f, 1)
			for _, mode := range everyMode {
				over, below := reachOf(t, f, 0, mode), reachOf(t, f, minus(f), mode)
				if over.low.Cmp(none) != 0 || !over.lowIn || below.high.Cmp(none) != 0 || !below.highIn {
					t.Errorf("Reach of the noughts of %v, mode %d: %v and %v", f, mode, over, below)
				}
				far := map[uint8]*big.Rat{api.Even: halfway(none, least), api.Away: halfway(none, least), api.Zero: least, api.Up: none, api.Down: least}
				if over.high.Cmp(far[mode]) != 0 || over.highIn != (mode == api.Even || mode == api.Up) {
					t.Errorf("Reach of nought of %v, mode %d: %v", f, mode, over)
				}
				far[api.Up], far[api.Down] = least, none
				if new(big.Rat).Neg(below.low).Cmp(far[mode]) != 0 || below.lowIn != (mode == api.Even || mode == api.Down) {
					t.Errorf("Reach of minus nought of %v, mode %d: %v", f, mode, below)
				}
			}
		}
	}
}

// P6.5: without an overflow; the next one beyond is never in.
func TestP65ReachOfTheGreatest(t *testing.T) {
	for exp := 2; exp <= 11; exp++ {
		for frac := 1; frac <= 52; frac++ {
			f := form(exp, frac)
			beyond := twoTo(bias(f) + 1)
			for _, mode := range everyMode {
				r := reachOf(t, f, greatest(f), mode)
				ends := map[uint8]*big.Rat{api.Even: halfway(worth(f, greatest(f)), beyond), api.Zero: beyond, api.Up: worth(f, greatest(f))}
				ends[api.Away], ends[api.Down] = ends[api.Even], ends[api.Zero]
				if r.high.Cmp(ends[mode]) != 0 || r.highIn != (mode == api.Up) || r.has(beyond) {
					t.Errorf("Reach of the greatest of %v, mode %d: %v", f, mode, r)
				}
				r = reachOf(t, f, greatest(f)+minus(f), mode)
				ends[api.Up], ends[api.Down] = ends[api.Down], ends[api.Up]
				if new(big.Rat).Neg(r.low).Cmp(ends[mode]) != 0 || r.lowIn != (mode == api.Down) || r.has(new(big.Rat).Neg(beyond)) {
					t.Errorf("Reach of minus the greatest of %v, mode %d: %v", f, mode, r)
				}
			}
		}
	}
}
