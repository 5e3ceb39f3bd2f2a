package hex

import (
	"strings"
	"testing"

	"numeral/api"
)

// What is handed in stays as it was, and the next call answers the same.
func TestP123P124NothingHandedInChanges(t *testing.T) {
	for _, s := range []string{"0x1.8P3", "-0X.00Ap-5", "0X7E01", "0x7e01", "0xFFFF", "1.5", "0x7g01", "\u22120x1_0"} {
		kept := strings.Clone(s)
		bits, flags, err := Read(half, s, api.Even)
		loaded, at, e := Load(half, s)
		if s != kept {
			t.Errorf("%s became %s", kept, s)
		}
		if b, f, second := Read(half, s, api.Even); b != bits || f != flags || (second == nil) != (err == nil) {
			t.Errorf("Read(Half, %s): %#x, flags %d, then %#x, flags %d", s, bits, flags, b, f)
		}
		if b, a, second := Load(half, s); b != loaded || a != at || second != e {
			t.Errorf("Load(Half, %s): %#x at %d, then %#x at %d", s, loaded, at, b, a)
		}
	}
}

// Each error is one of its own: changing the fault of one changes no other one.
func TestP123ErrorsAreNew(t *testing.T) {
	for _, s := range []string{"1.5", "x", "0x1g"} {
		_, _, first := Read(half, s, api.Even)
		_, _, second := Read(half, s, api.Even)
		one, other := faultOf(t, first), faultOf(t, second)
		kept := *other
		*one = api.Fault{Code: 99, At: 99}
		if *other != kept {
			t.Errorf("Read(Half, %s): two errors share a fault", s)
		}
		notRead(t, half, s, api.Even, kept.Code, kept.At)
	}
	_, _, first := Read(half, "0x1", 9)
	faultOf(t, first).Code = 99
	notRead(t, half, "0x1", 9, api.ErrMode, 0)
}
