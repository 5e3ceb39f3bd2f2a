package digits

import (
	"strconv"
	"testing"

	"numeral/api"
)

// Answers that are written out.
func TestP171AllWrittenOut(t *testing.T) {
	for _, c := range []struct {
		f     api.Form
		float uint64
		want  api.Dec
	}{
		{half, 0, dc("", 0)},
		{half, 2, dc("11920928955078125", -23)},
		{half, 0x3ff, dc("60975551605224609375", -24)},
		{half, 0x400, dc("6103515625", -14)},
		{half, 0x3800, dc("5", -1)},
		{half, 0x3bff, dc("99951171875", -11)},
		{half, 0x3c00, dc("1", 0)},
		{half, 0x3c01, dc("10009765625", -10)},
		{half, 0x4900, dc("1", 1)},
		{half, 0x5640, dc("1", 2)},
		{half, 0x63d0, dc("1", 3)},
		{half, 0x6fd0, dc("8", 3)},
		{half, 0x70e2, dc("1", 4)},
		{half, 0x7800, dc("32768", 0)},
		{brain, 1, dc("918354961579912115600575419704879435795832466228193376178712270530013483949005603790283203125", -133)},
		{brain, 0x4120, dc("1", 1)},
		{brain, 0x7f7f, dc("33895313892515354759047080037148786688", 1)},
		{single, 1, dc("140129846432481707092372958328991613128026194187651577175706828388979108268586060148663818836212158203125", -149)},
		{single, 0x7fffff, dc("1175494210692441075487029444849287348827052428745893333857174530571588870475618904265502351336181163787841796875", -149)},
		{single, 0x3dcccccd, dc("100000001490116119384765625", -27)},
		{single, 0x4b800000, dc("16777216", 0)},
		{single, 0x501502f9, dc("1", 10)},
		{single, 0x7f7fffff, dc("34028234663852885981170418348451692544", 1)},
		{double, 0x3fb999999999999a, dc("1000000000000000055511151231257827021181583404541015625", -55)},
		{double, 0x3fd5555555555555, dc("333333333333333314829616256247390992939472198486328125", -54)},
		{double, 0x400921fb54442d18, dc("3141592653589793115997963468544185161590576171875", -48)},
		{double, 0x4340000000000000, dc("9007199254740992", 0)},
		{double, 0x4480f0cf064dd592, dc("1", 22)},
		{double, 0x44b52d02c7e14af6, dc("99999999999999991611392", 0)},
		{double, 0x7fefffffffffffff, dc("179769313486231570814527423731704356798070567525844996598917476803157260780028538760589558632766878171540458953514382464234321326889464182768467546703537516986049910576551282076245490090389328944075868508455133942304583236903222948165808559332123348274797826204144723168738177180919299881250404026184124858368", 0)},
		{least, 1, dc("5", -1)},
		{least, 2, dc("1", 0)},
		{least, 3, dc("15", -1)},
		{least, 5, dc("3", 0)},
		{form(2, 52), 1, dc("2220446049250313080847263336181640625", -52)},
		{form(2, 52), 0x2fffffffffffff, dc("3999999999999999555910790149937383830547332763671875", -51)},
	} {
		allIs(t, c.f, c.float, c.want)
		allIs(t, c.f, c.float+minus(c.f), turned(c.want))
	}
}

func TestP171CountWrittenOut(t *testing.T) {
	for _, c := range []struct {
		f     api.Form
		float uint64
		want  int
	}{
		{half, 0x8000, 0}, {half, 0x3ff, 20}, {half, 0x83ff, 20},
		{brain, 1, 93}, {brain, 0x7f7f, 38},
		{single, 1, 105}, {single, 0x7fffff, 112}, {single, 0x807fffff, 112},
		{double, 1, 751}, {double, 0xfffffffffffff, 767}, {double, 0x800fffffffffffff, 767}, {double, 0x10000000000000, 715}, {double, 0x7fefffffffffffff, 309},
		{form(11, 1), 1, 716},
		{least, 0, 0}, {least, 1, 1}, {least, 3, 2}, {least, 5, 1},
	} {
		if n, e := Count(c.f, c.float); n != c.want || e != api.OK {
			t.Errorf("Count(%v, %#x): %d, error %d; want %d", c.f, c.float, n, int(e), c.want)
		}
	}
}

func TestP171AllOfEveryForm(t *testing.T) {
	t.Parallel()
	r := source(1)
	for _, f := range allForms() {
		for _, float := range edges(f) {
			allIs(t, f, float, allOf(f, float))
		}
		for range 3 {
			float := someFloat(r, f)
			allIs(t, f, float, allOf(f, float))
		}
	}
}

func TestP171AllFloatsOfSmallForms(t *testing.T) {
	t.Parallel()
	for _, f := range append(smallForms(), half, brain) {
		for _, float := range both(f, finite(f)) {
			allIs(t, f, float, allOf(f, float))
		}
	}
}

func TestP171AllOfPowersAndWholeNumbers(t *testing.T) {
	for _, f := range someForms() {
		for _, float := range both(f, append(powers(f), wholes(f)...)) {
			allIs(t, f, float, allOf(f, float))
		}
	}
	allIs(t, double, powerOf(double, -3), dc("125", -3))
	allIs(t, double, powerOf(double, 70), dc("1180591620717411303424", 0))
	bits, ok := floatOf(double, 12e20)
	if !ok {
		t.Fatal("no float is worth 12 e 20")
	}
	allIs(t, double, bits, dc("12", 20))
}

func TestP171AllOfSomeFloats(t *testing.T) {
	t.Parallel()
	r := source(2)
	for range 3000 {
		f := someForm(r)
		float := someFloat(r, f)
		allIs(t, f, float, allOf(f, float))
	}
}

// The library has no more than 767 digits to tell of a float64.
func TestP171AllAsStrconv(t *testing.T) {
	r := source(3)
	for _, f := range []api.Form{double, single} {
		all := append(edges(f), both(f, append(powers(f), wholes(f)...))...)
		for range 1500 {
			all = append(all, someFloat(r, f))
		}
		for _, float := range all {
			v, size, _ := native(f, float)
			allIs(t, f, float, saidWith(t, strconv.FormatFloat(v, 'e', 766, size)))
		}
	}
}
