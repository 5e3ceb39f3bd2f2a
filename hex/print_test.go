package hex

import (
	"math"
	"strconv"
	"strings"
	"testing"

	"numeral/api"
)

func TestP121EveryFloatOfSmallForms(t *testing.T) {
	for _, f := range smallForms() {
		for _, float := range finite(f, everyBits(f)) {
			printedAs(t, f, float, printed(f, float))
		}
	}
}

func TestP121EdgesOfEveryForm(t *testing.T) {
	for _, f := range allForms() {
		for _, float := range edges(f) {
			printedAs(t, f, float, printed(f, float))
		}
	}
}

func TestP121SomeFloats(t *testing.T) {
	r := source(1)
	for range 20000 {
		f := someForm(r)
		float := some(r, f)
		printedAs(t, f, float, printed(f, float))
	}
}

// Ordinary floats and the ends, written out.
func TestP121WrittenOut(t *testing.T) {
	for v, want := range map[float64]string{
		1: "0x1p0", -1: "-0x1p0", 2: "0x1p1", 0.5: "0x1p-1", 3: "0x1.8p1", 16: "0x1p4", 255: "0x1.fep7", -256: "-0x1p8", 1.0625: "0x1.1p0",
		0.1: "0x1.999999999999ap-4", math.Pi: "0x1.921fb54442d18p1", -1e100: "-0x1.249ad2594c37dp332", 1e-100: "0x1.bff2ee48e053p-333",
		math.MaxFloat64: "0x1.fffffffffffffp1023", -math.MaxFloat64: "-0x1.fffffffffffffp1023",
		0x1p-1022: "0x1p-1022", 0x1p-1023: "0x1p-1023", -0x1p-1074: "-0x1p-1074", 0x3p-1074: "0x1.8p-1073", 0x1p-1022 - 0x1p-1074: "0x1.ffffffffffffep-1023", 0x1p-1022 + 0x1p-1074: "0x1.0000000000001p-1022",
		0x1p1023: "0x1p1023", 0x1.0000000000001p0: "0x1.0000000000001p0", 0x1.000000000001p0: "0x1.000000000001p0",
	} {
		printedAs(t, double, math.Float64bits(v), want)
	}
	for _, c := range []struct {
		f     api.Form
		float uint64
		want  string
	}{
		{half, 0, "0x0p0"}, {half, 0x8000, "-0x0p0"}, {half, 1, "0x1p-24"}, {half, 0x8001, "-0x1p-24"}, {half, 0x3ff, "0x1.ff8p-15"}, {half, 0x400, "0x1p-14"}, {half, 0x7bff, "0x1.ffcp15"}, {half, 0xfbff, "-0x1.ffcp15"}, {half, 0x3c01, "0x1.004p0"}, {half, 0x0155, "0x1.55p-16"},
		{brain, 0x3f81, "0x1.02p0"}, {brain, 1, "0x1p-133"}, {brain, 0x7f7f, "0x1.fep127"}, {brain, 0x8000, "-0x0p0"},
		{least, 1, "0x1p-1"}, {least, 2, "0x1p0"}, {least, 3, "0x1.8p0"}, {least, 5, "0x1.8p1"}, {least, 13, "-0x1.8p1"}, {least, 8, "-0x0p0"},
		{form(11, 1), 1, "0x1p-1023"}, {form(11, 1), 3, "0x1.8p-1022"}, {form(2, 52), 1, "0x1p-52"}, {form(2, 52), 1<<52 - 1, "0x1.ffffffffffffep-1"},
	} {
		printedAs(t, c.f, c.float, c.want)
	}
}

// goText is Go's own text in sixteens, with the exponent as the chapter has it.
func goText(v float64, places, size int) string {
	digits, exp, _ := strings.Cut(strconv.FormatFloat(v, 'x', places, size), "p")
	n, _ := strconv.Atoi(exp)
	return digits + "p" + strconv.Itoa(n)
}

// Double and Single as Go writes them.
func TestP121AsGoWritesThem(t *testing.T) {
	r := source(2)
	for range 10000 {
		float := some(r, double)
		printedAs(t, double, float, goText(math.Float64frombits(float), -1, 64))
		float = some(r, single)
		printedAs(t, single, float, goText(float64(math.Float32frombits(uint32(float))), -1, 32))
	}
	for _, float := range edges(double) {
		printedAs(t, double, float, goText(math.Float64frombits(float), -1, 64))
	}
	for _, float := range edges(single) {
		printedAs(t, single, float, goText(float64(math.Float32frombits(uint32(float))), -1, 32))
	}
}
