package forms

import (
	"math"
	"math/big"
	"strings"
	"testing"

	"numeral/api"
)

type knownCall struct {
	name string
	do   func(f api.Form, neg bool) (uint64, api.Errno)
}

func knownCalls() []knownCall {
	return []knownCall{{"Nought", Nought}, {"Inf", Inf}, {"Greatest", Greatest}, {"Normal", Normal}, {"Least", Least}}
}

// knownTexts is what the known floats are, as noughts and ones behind the sign.
func knownTexts(f api.Form) map[string]string {
	zeros, ones := strings.Repeat("0", 64), strings.Repeat("1", 64)
	return map[string]string{
		"Nought":   zeros[:f.Exp] + zeros[:f.Frac],
		"Inf":      ones[:f.Exp] + zeros[:f.Frac],
		"Greatest": ones[:f.Exp-1] + "0" + ones[:f.Frac],
		"Normal":   zeros[:f.Exp-1] + "1" + zeros[:f.Frac],
		"Least":    zeros[:f.Exp] + zeros[:f.Frac-1] + "1",
	}
}

func TestP34KnownByTheirBits(t *testing.T) {
	for _, f := range allForms() {
		want := knownTexts(f)
		for _, c := range knownCalls() {
			for neg, sign := range map[bool]string{false: "0", true: "1"} {
				if bits, e := c.do(f, neg); text(f, bits) != sign+want[c.name] || e != api.OK {
					t.Errorf("%s(%v, %v) = %#x, error %d", c.name, f, neg, bits, int(e))
				}
			}
		}
	}
}

// ends looks for the greatest finite float, the least normal one and the least above nought among all floats of one sign, by what they are worth.
func ends(t *testing.T, f api.Form, neg bool) (greatest, normal, least uint64) {
	var most, one, first *big.Rat
	for bits := range uint64(1) << size(f) {
		kind := classOf(f, bits)
		if fieldsOf(t, f, bits).Neg != neg || kind == api.ClassZero || kind > api.ClassNormal {
			continue
		}
		x := worth(t, f, bits)
		x.Abs(x)
		if most == nil || x.Cmp(most) > 0 {
			most, greatest = x, bits
		}
		if first == nil || x.Cmp(first) < 0 {
			first, least = x, bits
		}
		if kind == api.ClassNormal && (one == nil || x.Cmp(one) < 0) {
			one, normal = x, bits
		}
	}
	return greatest, normal, least
}

func TestP34EndsByTheirWorth(t *testing.T) {
	for _, f := range smallForms() {
		if size(f) > 9 {
			continue
		}
		for _, neg := range []bool{false, true} {
			g, n, l := ends(t, f, neg)
			if bits, e := Greatest(f, neg); bits != g || e != api.OK {
				t.Errorf("Greatest(%v, %v) = %#x, error %d; want %#x", f, neg, bits, int(e), g)
			}
			if bits, e := Normal(f, neg); bits != n || e != api.OK {
				t.Errorf("Normal(%v, %v) = %#x, error %d; want %#x", f, neg, bits, int(e), n)
			}
			if bits, e := Least(f, neg); bits != l || e != api.OK {
				t.Errorf("Least(%v, %v) = %#x, error %d; want %#x", f, neg, bits, int(e), l)
			}
		}
	}
}

// payloads is payloads that a form has: the first, the last and some between.
func payloads(f api.Form) []uint64 {
	end := uint64(1) << (f.Frac - 1)
	all := []uint64{0, end - 1, end / 2}
	if end > 1 {
		all = append(all, 1, end-2)
	}
	return all
}

func TestP34NaN(t *testing.T) {
	for _, f := range allForms() {
		ones := strings.Repeat("1", f.Exp)
		for _, payload := range payloads(f) {
			want := strings.TrimPrefix(text(f, payload), strings.Repeat("0", 1+f.Exp+1))
			for neg, sign := range map[bool]string{false: "0", true: "1"} {
				if bits, e := NaN(f, neg, payload); text(f, bits) != sign+ones+"1"+want || e != api.OK {
					t.Errorf("NaN(%v, %v, %d) = %#x, error %d", f, neg, payload, bits, int(e))
				}
			}
		}
	}
}

func TestP34NaNOfPayloadsThatAreTooGreat(t *testing.T) {
	for _, f := range allForms() {
		end := uint64(1) << (f.Frac - 1)
		for _, payload := range []uint64{end, end + 1, 2*end - 1, 2 * end, 1 << 52, 1 << 63, math.MaxUint64} {
			for _, neg := range []bool{false, true} {
				if bits, e := NaN(f, neg, payload); bits != 0 || e != api.ErrParts {
					t.Errorf("NaN(%v, %v, %d) = %#x, error %d", f, neg, payload, bits, int(e))
				}
			}
		}
	}
}

func TestP35Payload(t *testing.T) {
	for _, f := range allForms() {
		for _, bits := range append(everyBits(f), mixed(f, 50)...) {
			payload, quiet, e := Payload(f, bits)
			if classOf(f, bits) != api.ClassNaN {
				if payload != 0 || quiet || e != api.ErrArg {
					t.Errorf("Payload(%v, %#x), a number: %d, %v, error %d", f, bits, payload, quiet, int(e))
				}
				continue
			}
			frac := text(f, bits)[1+f.Exp:]
			if payload != bitsOf(t, "0"+frac[1:]) || quiet != (frac[0] == '1') || e != api.OK {
				t.Errorf("Payload(%v, %#x) = %d, %v, error %d", f, bits, payload, quiet, int(e))
			}
		}
	}
}

func TestP35PayloadOfNaN(t *testing.T) {
	for _, f := range allForms() {
		for _, want := range payloads(f) {
			for _, neg := range []bool{false, true} {
				bits, e := NaN(f, neg, want)
				if e != api.OK {
					t.Fatalf("NaN(%v, %v, %d): error %d", f, neg, want, int(e))
				}
				if payload, quiet, e := Payload(f, bits); payload != want || !quiet || e != api.OK {
					t.Errorf("Payload(%v, %#x) = %d, %v, error %d", f, bits, payload, quiet, int(e))
				}
			}
		}
	}
}

// The knowns that are numbers have no payload, whatever their sign.
func TestP35PayloadOfNumbersThatAreKnown(t *testing.T) {
	for _, f := range allForms() {
		for _, c := range knownCalls() {
			for _, neg := range []bool{false, true} {
				bits, _ := c.do(f, neg)
				if payload, quiet, e := Payload(f, bits); payload != 0 || quiet || e != api.ErrArg {
					t.Errorf("Payload of %s of %v: %d, %v, error %d", c.name, f, payload, quiet, int(e))
				}
			}
		}
	}
}
