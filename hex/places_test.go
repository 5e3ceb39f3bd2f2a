package hex

import (
	"math"
	"testing"

	"numeral/api"
)

func TestP122EveryFloatOfSmallForms(t *testing.T) {
	for _, f := range smallForms() {
		for _, float := range finite(f, everyBits(f)) {
			for places := range 4 {
				for _, mode := range everyMode {
					placedAs(t, f, float, places, mode, placed(f, float, places, mode))
				}
			}
		}
	}
}

func TestP122EdgesOfEveryForm(t *testing.T) {
	for _, f := range allForms() {
		for _, float := range edges(f) {
			// As many as Print has, one fewer and one more among them.
			there := digitsBehind(printed(f, float))
			for _, places := range []int{0, 1, max(0, there-1), there, there + 1} {
				for _, mode := range everyMode {
					placedAs(t, f, float, places, mode, placed(f, float, places, mode))
				}
			}
		}
	}
}

func TestP122SomeFloats(t *testing.T) {
	r := source(3)
	for range 6000 {
		f := someForm(r)
		float, places := some(r, f), r.IntN(16)
		for _, mode := range everyMode {
			placedAs(t, f, float, places, mode, placed(f, float, places, mode))
		}
	}
}

// Halves: with an even and with an odd digit ahead, just above and just below, by every mode in the order of their numbers.
func TestP122Halves(t *testing.T) {
	for _, c := range []struct {
		v      float64
		places int
		want   [5]string // without a sign; by Up and Down those of a number without a minus
	}{
		{0x1.08p0, 1, [5]string{"0x1.0p0", "0x1.1p0", "0x1.0p0", "0x1.1p0", "0x1.0p0"}},
		{0x1.18p0, 1, [5]string{"0x1.2p0", "0x1.2p0", "0x1.1p0", "0x1.2p0", "0x1.1p0"}},
		{0x1.0800000000001p0, 1, [5]string{"0x1.1p0", "0x1.1p0", "0x1.0p0", "0x1.1p0", "0x1.0p0"}},
		{0x1.07fffffffffffp0, 1, [5]string{"0x1.0p0", "0x1.0p0", "0x1.0p0", "0x1.1p0", "0x1.0p0"}},
		{0x1.17fffffffffffp0, 1, [5]string{"0x1.1p0", "0x1.1p0", "0x1.1p0", "0x1.2p0", "0x1.1p0"}},
		{0x1.8p5, 0, [5]string{"0x1p6", "0x1p6", "0x1p5", "0x1p6", "0x1p5"}}, // one is odd, so the even one is two
		{0x1.7ffffffffffffp5, 0, [5]string{"0x1p5", "0x1p5", "0x1p5", "0x1p6", "0x1p5"}},
		{0x1.0000000000001p-5, 0, [5]string{"0x1p-5", "0x1p-5", "0x1p-5", "0x1p-4", "0x1p-5"}},
		{0x1.f8p-1, 1, [5]string{"0x1.0p0", "0x1.0p0", "0x1.fp-1", "0x1.0p0", "0x1.fp-1"}},
		{0x1.f7p-1, 1, [5]string{"0x1.fp-1", "0x1.fp-1", "0x1.fp-1", "0x1.0p0", "0x1.fp-1"}},
		{0x1.9ff8p-1, 3, [5]string{"0x1.a00p-1", "0x1.a00p-1", "0x1.9ffp-1", "0x1.a00p-1", "0x1.9ffp-1"}},
		{0x1.abcdef0123458p9, 12, [5]string{"0x1.abcdef012346p9", "0x1.abcdef012346p9", "0x1.abcdef012345p9", "0x1.abcdef012346p9", "0x1.abcdef012345p9"}},
		{0x1.abcdef0123468p9, 12, [5]string{"0x1.abcdef012346p9", "0x1.abcdef012347p9", "0x1.abcdef012346p9", "0x1.abcdef012347p9", "0x1.abcdef012346p9"}},
	} {
		for _, mode := range everyMode {
			placedAs(t, double, math.Float64bits(c.v), c.places, mode, c.want[mode])
			mirrored := [...]uint8{api.Even, api.Away, api.Zero, api.Down, api.Up}[mode]
			placedAs(t, double, math.Float64bits(-c.v), c.places, mode, "-"+c.want[mirrored])
		}
	}
}

// What comes to two has the next exponent, beyond the greatest float and among the subnormal ones too.
func TestP122TheNextExponent(t *testing.T) {
	greatest := math.Float64bits(math.MaxFloat64)
	for places := range 13 {
		want := "0x1." + again("0", places) + "p1024"
		if places == 0 {
			want = "0x1p1024"
		}
		placedAs(t, double, greatest, places, api.Even, want)
		placedAs(t, double, greatest, places, api.Up, want)
		placedAs(t, double, greatest^1<<63, places, api.Away, "-"+want)
		placedAs(t, double, greatest^1<<63, places, api.Down, "-"+want)
	}
	placedAs(t, double, greatest, 13, api.Up, "0x1.fffffffffffffp1023")
	placedAs(t, double, greatest, 14, api.Up, "0x1.fffffffffffff0p1023")
	placedAs(t, double, greatest, 2, api.Down, "0x1.ffp1023")
	placedAs(t, half, 0x7bff, 2, api.Even, "0x1.00p16")
	placedAs(t, half, 3, 0, api.Even, "0x1p-22")
	placedAs(t, half, 3, 0, api.Down, "0x1p-23")
	placedAs(t, half, 0x8003, 0, api.Down, "-0x1p-22")
	placedAs(t, half, 0x3ff, 1, api.Even, "0x1.0p-14")
	placedAs(t, half, 0x3ff, 1, api.Zero, "0x1.fp-15")
	placedAs(t, half, 0x3bff, 2, api.Up, "0x1.00p0")
	placedAs(t, least, 5, 0, api.Even, "0x1p2")
}

func TestP122Noughts(t *testing.T) {
	for _, f := range namedForms() {
		for _, mode := range everyMode {
			for _, c := range []struct {
				places int
				want   string
			}{{0, "0x0p0"}, {1, "0x0.0p0"}, {2, "0x0.00p0"}, {13, "0x0.0000000000000p0"}, {api.MaxPlaces, "0x0." + again("0", api.MaxPlaces) + "p0"}} {
				placedAs(t, f, 0, c.places, mode, c.want)
				placedAs(t, f, minus(f), c.places, mode, "-"+c.want)
			}
		}
	}
}

// As many places as may be.
func TestP122MaxPlaces(t *testing.T) {
	for _, f := range namedForms() {
		for _, float := range edges(f) {
			for _, places := range []int{api.MaxPlaces - 1, api.MaxPlaces} {
				for _, mode := range everyMode {
					placedAs(t, f, float, places, mode, placed(f, float, places, mode))
				}
			}
		}
	}
	placedAs(t, double, math.Float64bits(-0.1), api.MaxPlaces, api.Up, "-0x1.999999999999a"+again("0", api.MaxPlaces-13)+"p-4")
	placedAs(t, double, 1, api.MaxPlaces, api.Up, "0x1."+again("0", api.MaxPlaces)+"p-1074")
}

// By Even, as Go writes Double and Single.
func TestP122AsGoWritesThem(t *testing.T) {
	r := source(4)
	for range 3000 {
		float, places := some(r, double), r.IntN(16)
		placedAs(t, double, float, places, api.Even, goText(math.Float64frombits(float), places, 64))
		float = some(r, single)
		placedAs(t, single, float, places, api.Even, goText(float64(math.Float32frombits(uint32(float))), places, 32))
	}
}
