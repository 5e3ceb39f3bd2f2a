package lex

import (
	"strings"
	"unicode/utf8"

	"numeral/api"
)

// minus is the sign that stands in printed texts.
const minus rune = 0x2212

// walk goes through a text from the left, as far as that is the beginning of a number's text. Where it meets a fault, it stays: nothing that may follow stands there, so that the steps behind take nothing more.
type walk struct {
	text  string
	at    int       // all ahead of this place has been gone through
	said  said      // what that says
	best  said      // what the longest beginning that is a number's text says; zero: there is none
	end   int       // where that ends
	fault api.Fault // what was met first
}

func through(s string) walk {
	w := walk{text: s}
	w.said.neg = w.sign()
	switch {
	case w.word("infinity"), w.word("inf"): // the longer one first
		w.said.kind = api.NumInf
		w.whole()
	case w.word("nan"):
		w.noNumber()
	case w.word("0x"):
		w.sixteens()
	default:
		w.decimal()
	}
	if w.at < len(w.text) {
		w.refuse(api.ErrTail)
	}
	return w
}

// whole notes that what has been gone through is a number's text.
func (w *walk) whole() { w.best, w.end = w.said, w.at }

// refuse keeps a fault, unless one came ahead of it. Where an underscore or a payload is refused, that itself stands there, and no broken byte.
func (w *walk) refuse(code api.Errno) {
	if w.fault.Code != api.OK {
		return
	}
	if r, size := utf8.DecodeRuneInString(w.text[w.at:]); r == utf8.RuneError && size == 1 {
		code = api.ErrUTF
	}
	w.fault = api.Fault{Code: code, At: w.at}
}

// sign takes a sign, if one stands there, and tells whether it is a minus.
func (w *walk) sign() bool {
	r, size := utf8.DecodeRuneInString(w.text[w.at:])
	switch r {
	case '+', '-', minus:
		w.at += size
	}
	return r == '-' || r == minus
}

// word takes a word, if it stands there, its letters great or small. (None of the letters that are asked for has a third shape beyond ASCII.)
func (w *walk) word(small string) bool {
	rest := w.text[w.at:]
	if len(rest) < len(small) || !strings.EqualFold(rest[:len(small)], small) {
		return false
	}
	w.at += len(small)
	return true
}

func (w *walk) decimal() {
	w.said.kind = api.NumDec
	w.amount(Digit, "e", api.ErrNumber)
}

// sixteens goes on behind 0x. If nothing comes of it, the nought alone is a number.
func (w *walk) sixteens() {
	w.said.kind = api.NumDec
	w.best, w.end = w.said, w.at-len("x")
	w.said.kind = api.NumHex
	w.amount(sixteen, "p", api.ErrDigits)
}

// amount goes through digits, with a point or without, and the exponent behind its letter. lack is the error where neither a digit nor a point stands.
func (w *walk) amount(worth func(rune) (int, bool), letter string, lack api.Errno) {
	digits := w.row(nil, worth)
	ahead := len(digits)
	if w.word(".") {
		digits = w.row(digits, worth)
		lack = api.ErrDigits
	}
	if len(digits) == 0 {
		w.refuse(lack)
		return
	}
	w.said.digits, w.said.behind = digits, len(digits)-ahead
	w.whole()
	if w.word(letter) {
		w.exponent()
	}
}

func (w *walk) exponent() {
	below := w.sign()
	digits := w.row(nil, Digit)
	if len(digits) == 0 {
		w.refuse(api.ErrDigits)
		return
	}
	w.said.exp = int(upTo(beyond, digits))
	if below {
		w.said.exp = -w.said.exp
	}
	w.whole()
}

// row goes through a row, and puts what its digits are worth behind those that are given. Behind a digit one underscore is passed over, as a digit may follow; if none does, the walk stays ahead of the underscore.
func (w *walk) row(digits []byte, worth func(rune) (int, bool)) []byte {
	end := 0 // of the last digit
	for i, r := range w.text[w.at:] {
		if r == '_' && i == end && i > 0 {
			continue
		}
		d, ok := worth(r)
		if !ok {
			break
		}
		digits = append(digits, byte(d))
		end = i + utf8.RuneLen(r)
	}
	w.at += end
	if strings.HasPrefix(w.text[w.at:], "_") {
		w.refuse(api.ErrUnder)
	}
	return digits
}

// noNumber goes on behind nan.
func (w *walk) noNumber() {
	w.said.kind = api.NumNaN
	w.whole()
	if !w.word("(") {
		return
	}
	digits := plains(w.text[w.at:])
	payload := upTo(payloads, digits)
	switch {
	case len(digits) == 0:
		w.refuse(api.ErrDigits)
		return
	case payload == payloads:
		w.refuse(api.ErrPayload)
		return
	}
	w.at += len(digits)
	if !w.word(")") {
		w.refuse(api.ErrTail)
		return
	}
	w.said.payload = payload
	w.whole()
}

// plains are the digits that a text begins with, of the bytes 0 to 9 alone.
func plains(s string) (digits []byte) {
	for _, r := range s {
		if r < '0' || r > '9' {
			break
		}
		digits = append(digits, byte(r-'0'))
	}
	return digits
}
