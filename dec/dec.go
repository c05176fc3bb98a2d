// Package dec is layer 1, texts in UTF-8, byte by byte: see shared/doc/01-dec.md.
package dec

import (
	"strings"
	"unicode/utf8"

	"pentrough/api"
)

// The values between, both ends with them, are halves of pairs in UTF-16, and no scalar values.
const (
	firstHalf = 0xD800
	lastHalf  = 0xDFFF
)

// State is the beginning of a form that was met.
type State struct{ B string }

// Good: is it a scalar value?
func Good(r int) bool {
	return 0 <= r && r <= api.MaxRune && (r < firstHalf || lastHalf < r)
}

// Sane: may one be?
func Sane(s State) bool { return s.B == "" || begins(s.B) }

// begins: is b a beginning? The empty text has to be kept out by hand: the library counts it as one.
func begins(b string) bool { return b != "" && !utf8.FullRuneInString(b) }

// Feed is behind one byte more, and the values that it tells.
func Feed(s State, c byte) (State, []int) {
	if !Sane(s) {
		s = State{}
	}
	b := s.B + string([]byte{c})
	if begins(b) {
		return State{B: b}, nil
	}
	// The library takes one byte, and tells Repl, of what is no form: so of a
	// lone byte all is taken either way, and less than all only where c cannot
	// follow the beginning.
	if r, n := utf8.DecodeRuneInString(b); n == len(b) {
		return State{}, []int{int(r)}
	}
	next, told := Feed(State{}, c)
	return next, append([]int{api.Repl}, told...)
}

// End is what the end tells.
func End(s State) []int {
	if begins(s.B) {
		return []int{api.Repl}
	}
	return nil
}

// All is a text's values.
func All(b []byte) []int {
	var s State
	var l, told []int
	for _, c := range b {
		s, told = Feed(s, c)
		l = append(l, told...)
	}
	return append(l, End(s)...)
}

// Text is values' text.
func Text(l []int) string {
	var t strings.Builder
	for _, r := range l {
		t.WriteRune(written(r))
	}
	return t.String()
}

// written is the rune that is written of a number. Good is asked ahead of the
// conversion, for a rune has 32 bits: a greater number would come round to
// another one's form.
func written(r int) rune {
	if !Good(r) {
		return api.Repl
	}
	return rune(r)
}
