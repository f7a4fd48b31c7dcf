package words

import (
	"fmt"
	"strings"
	"testing"
)

func TestSplit(t *testing.T) {
	for _, c := range []struct{ text, want string }{
		{"", "[{0 0 0}]"},
		{" \t\n{a b}{}", fmt.Sprint([]Token{{End, 10, 10}})},
		{"x", fmt.Sprint([]Token{{Name, 0, 1}, {End, 1, 1}})},
		{"1in2", fmt.Sprint([]Token{{Int, 0, 1}, {Name, 1, 4}, {End, 4, 4}})},
		{"1in 2", fmt.Sprint([]Token{{Int, 0, 1}, {In, 1, 3}, {Int, 4, 5}, {End, 5, 5}})},
		{"a->-<-", fmt.Sprint([]Token{{Name, 0, 1}, {Arrow, 1, 3}, {Minus, 3, 4}, {Less, 4, 5}, {Minus, 5, 6}, {End, 6, 6}})},
		{"-->", fmt.Sprint([]Token{{Minus, 0, 1}, {Arrow, 1, 3}, {End, 3, 3}})},
		{"let{}x", fmt.Sprint([]Token{{Let, 0, 3}, {Name, 5, 6}, {End, 6, 6}})},
		{"letx let1", fmt.Sprint([]Token{{Name, 0, 4}, {Name, 5, 9}, {End, 9, 9}})},
		{"{->{\r\xff\x00}abcdef 123456789", fmt.Sprint([]Token{{Name, 8, 14}, {Int, 15, 24}, {End, 24, 24}})},
	} {
		tokens, at, ok := Split(c.text)
		if got := fmt.Sprint(tokens); got != c.want || at != 0 || !ok {
			t.Errorf("Split(%q) = %s, %d, %v, want %s", c.text, got, at, ok, c.want)
		}
	}
}

func TestSortsOfWordsAndSigns(t *testing.T) {
	text := "name 1 let rec in fun if then else true false fst snd -> = ( ) , + - * / <"
	tokens, _, ok := Split(text)
	if !ok || len(tokens) != int(Less)+1 {
		t.Fatalf("Split(%q) = %v, %v", text, tokens, ok)
	}
	spelt := strings.Fields(text)
	for i, token := range tokens[:len(tokens)-1] {
		if token.Sort != Sort(i+1) || text[token.From:token.To] != spelt[i] {
			t.Errorf("token %d of %q is %v", i, text, token)
		}
	}
}

func TestNoToken(t *testing.T) {
	for text, want := range map[string]int{
		"A": 0, "aB": 1, "x_": 1, "_": 0, "1.5": 1, ">": 0, "- >": 2, "->>": 2, "!": 0, "\r": 0, "1\v": 1, "1\x00": 1, "\xff": 0, "é": 0, "1 \u00a0": 2,
		"{": 0, "1{}{": 3, "{{}}": 3, "}": 0, "1 }": 2, "[": 0, ";": 0, "1 ; ;": 2,
		"abcdefg": 0, "a abcdef1": 2, "1abcdefg": 1, "1234567890": 0, "x 0000000000": 2, "then12x": 0,
	} {
		if tokens, at, ok := Split(text); tokens != nil || at != want || ok {
			t.Errorf("Split(%q) = %v, %d, %v, want place %d", text, tokens, at, ok, want)
		}
	}
}

func TestIsName(t *testing.T) {
	for _, name := range []string{"a", "z9", "abcdef", "letx", "i", "fst1"} {
		if !IsName(name) {
			t.Errorf("%q is a NAME", name)
		}
	}
	for _, none := range []string{"", "let", "snd", "abcdefg", "abcde12", "1", "1a", "A", "aA", "a b", " a", "a ", "a{}", "{}a", "a-", "->", "\xff", "a\xff"} {
		if IsName(none) {
			t.Errorf("%q is no NAME", none)
		}
	}
}
