package lex

// noughts are the digits 0 of the scripts; the other nine follow each.
var noughts = [...]rune{0x30, 0x660, 0x6F0, 0x7C0, 0x966, 0x9E6, 0xA66, 0xE50, 0x17E0, 0xFF10, 0x104A0, 0x1D7CE}

// Digit is what a rune is worth as a digit of some script.
func Digit(r rune) (int, bool) {
	for _, nought := range noughts {
		if nought <= r && r <= nought+9 {
			return int(r - nought), true
		}
	}
	return 0, false
}

// sixteen is what a rune is worth as a digit of sixteen. Digits of other scripts are none here.
func sixteen(r rune) (int, bool) {
	switch {
	case '0' <= r && r <= '9':
		return int(r - '0'), true
	case 'a' <= r && r <= 'f':
		return int(r-'a') + 10, true
	case 'A' <= r && r <= 'F':
		return int(r-'A') + 10, true
	}
	return 0, false
}
