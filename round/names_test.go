package round

import (
	"strings"
	"testing"

	"numeral/api"
)

func TestP55Names(t *testing.T) {
	for mode, want := range []string{api.Even: "even", api.Away: "away", api.Zero: "zero", api.Up: "up", api.Down: "down"} {
		if got, e := Name(uint8(mode)); got != want || e != api.OK {
			t.Errorf("Name(%d): %q, error %d", mode, got, int(e))
		}
		if got, ok := Named(want); got != uint8(mode) || !ok {
			t.Errorf("Named(%q): %d, %v", want, got, ok)
		}
	}
}

func TestP55NoModes(t *testing.T) {
	for mode := 5; mode < 256; mode++ {
		if got, e := Name(uint8(mode)); got != "" || e != api.ErrMode {
			t.Errorf("Name(%d): %q, error %d", mode, got, int(e))
		}
	}
}

func TestP55NoNames(t *testing.T) {
	for _, s := range []string{"", " ", "Even", "EVEN", "even ", " even", "eve", "evene", "even\x00", "awa", "aways", "Zero", "zer0", "u", "ups", "Up", "UP", "dow", "down down", "evenaway", "0", "4", "nearest", "\xff", strings.Repeat("down", 1<<15)} {
		if got, ok := Named(s); got != 0 || ok {
			t.Errorf("Named(%.20q): %d, %v", s, got, ok)
		}
	}
}
