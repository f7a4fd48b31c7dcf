// Package words splits a text into its tokens.
package words

import (
	"strings"

	"tailor/api"
)

// Sort of a token.
type Sort int

const (
	End Sort = iota // stands behind the last token
	Name
	Int
	Let
	Rec
	In
	Fun
	If
	Then
	Else
	True
	False
	Fst
	Snd
	Arrow
	Equal
	Open
	Close
	Comma
	Plus
	Minus
	Times
	Over
	Less
)

const maxDigits = 9

// Token is a token's sort and its bytes: from From on, To is behind them.
type Token struct {
	Sort     Sort
	From, To int
}

// Split gives the text's tokens, and End at the text's length; or the place of the first byte that begins no token, comment or blank, and false.
func Split(text string) ([]Token, int, bool) {
	var tokens []Token
	at := 0
	for at < len(text) {
		if length := gap(text[at:]); length > 0 {
			at += length
			continue
		}
		sort, length := first(text[at:])
		if length == 0 {
			return nil, at, false
		}
		tokens = append(tokens, Token{Sort: sort, From: at, To: at + length})
		at += length
	}
	return append(tokens, Token{Sort: End, From: at, To: at}), 0, true
}

// IsName tells whether the text is a NAME, from its first byte to its last one.
func IsName(text string) bool {
	if text == "" {
		return false
	}
	sort, length := first(text)
	return sort == Name && length == len(text)
}

// gap is the length of the blank or comment that rest begins with, 0 if it begins with none (a comment that does not end is none).
func gap(rest string) int {
	switch rest[0] {
	case ' ', '\t', '\n':
		return 1
	case '{':
		return strings.IndexByte(rest, '}') + 1
	}
	return 0
}

// first is the token that rest begins with, and its length: 0 if it begins with none.
func first(rest string) (Sort, int) {
	switch {
	case isSmall(rest[0]):
		return word(run(rest, isWordByte))
	case IsDigit(rest[0]):
		return number(run(rest, IsDigit))
	case strings.HasPrefix(rest, "->"):
		return Arrow, len("->")
	}
	return sign(rest[0])
}

// run is the longest beginning of rest that has only such bytes.
func run(rest string, such func(byte) bool) string {
	length := 0
	for length < len(rest) && such(rest[length]) {
		length++
	}
	return rest[:length]
}

func word(letters string) (Sort, int) {
	if len(letters) > api.MaxName {
		return End, 0
	}
	return wordSort(letters), len(letters)
}

func wordSort(letters string) Sort {
	switch letters {
	case "let":
		return Let
	case "rec":
		return Rec
	case "in":
		return In
	case "fun":
		return Fun
	case "if":
		return If
	case "then":
		return Then
	case "else":
		return Else
	case "true":
		return True
	case "false":
		return False
	case "fst":
		return Fst
	case "snd":
		return Snd
	}
	return Name
}

func number(digits string) (Sort, int) {
	if len(digits) > maxDigits {
		return End, 0
	}
	return Int, len(digits)
}

func sign(c byte) (Sort, int) {
	switch c {
	case '=':
		return Equal, 1
	case '(':
		return Open, 1
	case ')':
		return Close, 1
	case ',':
		return Comma, 1
	case '+':
		return Plus, 1
	case '-':
		return Minus, 1
	case '*':
		return Times, 1
	case '/':
		return Over, 1
	case '<':
		return Less, 1
	}
	return End, 0
}

func isSmall(c byte) bool { return 'a' <= c && c <= 'z' }

// IsDigit tells whether the byte is one of an INT.
func IsDigit(c byte) bool { return '0' <= c && c <= '9' }

func isWordByte(c byte) bool { return isSmall(c) || IsDigit(c) }
