package digits

import (
	"strconv"
	"testing"

	"numeral/api"
)

// Just at the middle of two digits, and beside it.
func TestP172SomeMiddles(t *testing.T) {
	one, two, three := dc("1", 0), dc("2", 0), dc("3", 0)
	bySome().are(t, []row{
		{half, 0x3e00, 1, two, two, one, two},                                     // 1.5
		{half, 0x3dff, 1, one, one, one, two},                                     // the next one below that
		{half, 0x3e01, 1, two, two, one, two},                                     // above
		{half, 0x4100, 1, two, three, two, three},                                 // 2.5
		{half, 0x40ff, 1, two, two, two, three},                                   // below that
		{half, 0x4101, 1, three, three, two, three},                               // above
		{half, 0x3000, 2, dc("12", -2), dc("13", -2), dc("12", -2), dc("13", -2)}, // 0.125
		{half, 0x3600, 2, dc("38", -2), dc("38", -2), dc("37", -2), dc("38", -2)}, // 0.375
		{half, 0x3000, 1, dc("1", -1), dc("1", -1), dc("1", -1), dc("2", -1)},
		{half, 0x3600, 1, dc("4", -1), dc("4", -1), dc("3", -1), dc("4", -1)},
		{double, 0x4004000000000000, 1, two, three, two, three},
		{double, 0x4003ffffffffffff, 1, two, two, two, three},
		{double, 0x4004000000000001, 1, three, three, two, three},
		{double, 0x4340000000000001, 15, dc("900719925474099", 1), dc("900719925474099", 1), dc("900719925474099", 1), dc("9007199254741", 3)}, // 9007199254740994
		{least, 3, 1, two, two, one, two},
	})
}

func TestP173PlacesMiddles(t *testing.T) {
	nought, one, two, three := dc("", 0), dc("1", 0), dc("2", 0), dc("3", 0)
	byPlaces().are(t, []row{
		{half, 0x3800, 0, nought, one, nought, one},                               // 0.5
		{half, 0x37ff, 0, nought, nought, nought, one},                            // the next one below that
		{half, 0x3801, 0, one, one, nought, one},                                  // above
		{half, 0x3e00, 0, two, two, one, two},                                     // 1.5
		{half, 0x4100, 0, two, three, two, three},                                 // 2.5
		{half, 0x40ff, 0, two, two, two, three},                                   // below that
		{half, 0x4101, 0, three, three, two, three},                               // above
		{half, 0x4080, 1, dc("22", -1), dc("23", -1), dc("22", -1), dc("23", -1)}, // 2.25
		{half, 0x3f00, 1, dc("18", -1), dc("18", -1), dc("17", -1), dc("18", -1)}, // 1.75
		{half, 0x3f00, 0, two, two, one, two},
		{half, 1, 0, nought, nought, nought, one},
		{half, 1, 7, dc("1", -7), dc("1", -7), nought, dc("1", -7)}, // some 0.6 of the last place
		{double, 0x4004000000000000, 0, two, three, two, three},
		{double, 0x4003ffffffffffff, 0, two, two, two, three},
		{double, 0x4004000000000001, 0, three, three, two, three},
		{double, 0x3fe0000000000000, 0, nought, one, nought, one},
		{double, 0x3fdfffffffffffff, 0, nought, nought, nought, one},
		{double, 1, 323, nought, nought, nought, dc("1", -323)},
		{double, 1, 324, dc("5", -324), dc("5", -324), dc("4", -324), dc("5", -324)},
		{least, 1, 0, nought, one, nought, one},
		{least, 3, 0, two, two, one, two},
	})
}

// Nines that carry through, to a power of ten that has one digit more.
func TestP172SomeNines(t *testing.T) {
	one, ten := dc("1", 0), dc("1", 1)
	bySome().are(t, []row{
		{half, 0x3bff, 3, one, one, dc("999", -3), one}, // 0.99951171875
		{half, 0x3bff, 1, one, one, dc("9", -1), one},
		{half, 0x48ff, 3, dc("999", -2), dc("999", -2), dc("999", -2), ten}, // 9.9921875
		{half, 0x48ff, 2, ten, ten, dc("99", -1), ten},
		{half, 0x63cf, 3, dc("1", 3), dc("1", 3), dc("999", 0), dc("1", 3)}, // 999.5
		{half, 0x63cf, 2, dc("1", 3), dc("1", 3), dc("99", 1), dc("1", 3)},
		{double, 0x3fefffffffffffff, 15, one, one, dc("999999999999999", -15), one}, // the next one below 1
		{double, 0x3fefffffffffffff, 1, one, one, dc("9", -1), one},
		{double, 0x4023ffffffffffff, 10, ten, ten, dc("9999999999", -9), ten}, // the next one below 10
		{double, 0x44b52d02c7e14af6, 15, dc("1", 23), dc("1", 23), dc("999999999999999", 8), dc("1", 23)},
		{double, 0x44b52d02c7e14af6, 16, dc("9999999999999999", 7), dc("9999999999999999", 7), dc("9999999999999999", 7), dc("1", 23)},
	})
}

func TestP173PlacesNines(t *testing.T) {
	one, ten := dc("1", 0), dc("1", 1)
	byPlaces().are(t, []row{
		{half, 0x3bff, 3, one, one, dc("999", -3), one}, // 0.99951171875
		{half, 0x3bff, 0, one, one, dc("", 0), one},
		{half, 0x48ff, 2, dc("999", -2), dc("999", -2), dc("999", -2), ten}, // 9.9921875
		{half, 0x48ff, 1, ten, ten, dc("99", -1), ten},
		{half, 0x48ff, 0, ten, ten, dc("9", 0), ten},
		{half, 0x63cf, 0, dc("1", 3), dc("1", 3), dc("999", 0), dc("1", 3)}, // 999.5
		{double, 0x3fefffffffffffff, 15, one, one, dc("999999999999999", -15), one},
		{double, 0x4023ffffffffffff, 14, ten, ten, dc("999999999999999", -14), ten},
		{double, 0x4023ffffffffffff, 0, ten, ten, dc("9", 0), ten},
	})
}

// Nought keeps its sign, and loses nothing.
func TestP172P173Nought(t *testing.T) {
	for _, a := range asks() {
		for _, f := range someForms() {
			for _, mode := range everyMode {
				for _, asked := range []int{a.least, 1, 2, 17, most - 1, most} {
					a.is(t, f, 0, asked, mode, told{api.Dec{}, true})
					a.is(t, f, minus(f), asked, mode, told{api.Dec{Neg: true}, true})
				}
			}
		}
	}
}

// What becomes nought keeps its sign, and is not what it was.
func TestP173PlacesToNought(t *testing.T) {
	for _, mode := range []uint8{api.Even, api.Away, api.Zero} {
		byPlaces().is(t, half, 1, 5, mode, told{api.Dec{}, false})
		byPlaces().is(t, half, 0x8001, 5, mode, told{api.Dec{Neg: true}, false})
	}
	byPlaces().is(t, half, 1, 5, api.Down, told{api.Dec{}, false})
	byPlaces().is(t, half, 0x8001, 5, api.Up, told{api.Dec{Neg: true}, false})
}

func TestP172P173Edges(t *testing.T) {
	t.Parallel()
	for _, a := range asks() {
		for _, f := range someForms() {
			for _, float := range edges(f) {
				for _, asked := range a.about(allOf(f, float)) {
					a.holds(t, f, float, asked)
				}
			}
		}
	}
}

// All that may be asked for, from the least to one more than there is.
func TestP172P173AllThatThereIs(t *testing.T) {
	t.Parallel()
	for _, a := range asks() {
		for _, c := range []struct {
			f     api.Form
			float uint64
		}{{half, 1}, {half, 0x83ff}, {half, 0x2e66}, {half, 0xfbff}, {brain, 1}, {single, 0x807fffff}, {single, 0x7f7fffff}, {double, 0x3fb999999999999a}, {double, 0xc00921fb54442d18}, {double, 0xffefffffffffffff}, {double, 0x380fffffffffffff}, {least, 3}, {least, 10}} {
			for asked := a.least; asked <= a.whole(allOf(c.f, c.float))+1; asked++ {
				a.holds(t, c.f, c.float, asked)
			}
		}
	}
}

func TestP172P173SmallForms(t *testing.T) {
	t.Parallel()
	for _, a := range asks() {
		for _, f := range smallForms() {
			for _, float := range both(f, finite(f)) {
				for more := range 6 {
					a.holds(t, f, float, a.least+more)
				}
			}
		}
	}
}

func TestP172P173SomeFloats(t *testing.T) {
	t.Parallel()
	r := source(4)
	for _, a := range asks() {
		for range 4000 {
			f := someForm(r)
			float := someFloat(r, f)
			a.holds(t, f, float, a.least+r.IntN(a.whole(allOf(f, float))+2))
		}
	}
}

// By Even all texts of the library are rounded, too.
func TestP172P173AsStrconv(t *testing.T) {
	r := source(5)
	for _, f := range []api.Form{double, single} {
		all := append(edges(f), both(f, wholes(f))...)
		for range 1000 {
			all = append(all, someFloat(r, f))
		}
		for _, float := range all {
			v, size, _ := native(f, float)
			for _, n := range []int{0, 1, r.IntN(20), r.IntN(767), 766} {
				want := saidWith(t, strconv.FormatFloat(v, 'e', n, size))
				bySome().is(t, f, float, n+1, api.Even, told{want, want == allOf(f, float)})
			}
			for _, n := range []int{0, 1, r.IntN(20), r.IntN(1074), 1074} {
				want := saidWith(t, strconv.FormatFloat(v, 'f', n, size)+"e0")
				byPlaces().is(t, f, float, n, api.Even, told{want, want == allOf(f, float)})
			}
		}
	}
}
