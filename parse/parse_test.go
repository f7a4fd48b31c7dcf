package parse

import (
	"fmt"
	"strings"
	"testing"

	"tailor/tree"
	"tailor/words"
)

func parse(t *testing.T, text string) (tree.Node, int, bool) {
	t.Helper()
	tokens, at, ok := words.Split(text)
	if !ok {
		t.Fatalf("%q: no token at %d", text, at)
	}
	return Text(text, tokens)
}

var signs = map[words.Sort]string{words.Plus: "+", words.Minus: "-", words.Times: "*", words.Over: "/", words.Less: "<", words.Equal: "="}

// outline shows a tree with the sort of each node, in square brackets.
func outline(n tree.Node) string {
	show := func(word string, parts ...tree.Node) string {
		for _, part := range parts {
			word += " " + outline(part)
		}
		return "[" + word + "]"
	}
	switch n := n.(type) {
	case *tree.Name:
		return n.Text
	case *tree.Int:
		return fmt.Sprint(n.Value)
	case *tree.Truth:
		return fmt.Sprint(n.Value)
	case *tree.Side:
		return map[bool]string{false: "fst", true: "snd"}[n.Second]
	case *tree.Bracket:
		return show("()", n.Inner)
	case *tree.Pair:
		return show(",", n.Left, n.Right)
	case *tree.Call:
		return show("call", n.Func, n.Arg)
	case *tree.Binary:
		return show(signs[n.Sign], n.Left, n.Right)
	case *tree.If:
		return show("if", n.Truth, n.Then, n.Else)
	case *tree.Fun:
		return show(fmt.Sprintf("fun %s@%d", n.Bound.Name, n.Bound.At), n.Body)
	case *tree.Let:
		word := map[bool]string{false: "let", true: "rec"}[n.Rec]
		return show(fmt.Sprintf("%s %s@%d", word, n.Bound.Name, n.Bound.At), n.Def, n.Body)
	}
	return fmt.Sprintf("%T", n)
}

func TestTrees(t *testing.T) {
	for text, want := range map[string]string{
		"x": "x", "007": "7", "999999999": "999999999", "true": "true", "false": "false", "fst": "fst", "snd": "snd",
		"(1)": "[() 1]", "((1), 2)": "[, [() 1] 2]",
		"a b c":                  "[call [call a b] c]",
		"a + b - c":              "[- [+ a b] c]",
		"a * b / c":              "[/ [* a b] c]",
		"a + b * c d < e":        "[< [+ a [* b [call c d]]] e]",
		"a = b - c":              "[= a [- b c]]",
		"fun x -> x < fun1":      "[fun x@4 [< x fun1]]",
		"let x = 1 = 2 in x":     "[let x@4 [= 1 2] x]",
		"let rec f = f in f 1":   "[rec f@8 f [call f 1]]",
		"if a then b else c + d": "[if a b [+ c d]]",
		"if if a then b else c then fun x -> x else let x = 1 in x": "[if [if a b c] [fun x@31 x] [let x@47 1 x]]",
		"f (fun x -> x, y) snd": "[call [call f [, [fun x@7 x] y]] snd]",
	} {
		root, at, ok := parse(t, text)
		if !ok || at != 0 || outline(root) != want {
			t.Errorf("tree of %q = %s, %d, %v, want %s", text, outline(root), at, ok, want)
		}
	}
}

func TestPlaces(t *testing.T) {
	text := " {c} let f = (fun x -> x + 1 ) {c} in f (2 , f) * 3 {c}"
	root, _, _ := parse(t, text)
	bytes := func(n tree.Node) string { return text[n.Place().From:n.Place().To] }
	let := root.(*tree.Let)
	def := let.Def.(*tree.Bracket)
	body := let.Body.(*tree.Binary)
	call := body.Left.(*tree.Call)
	for want, n := range map[string]tree.Node{
		"let f = (fun x -> x + 1 ) {c} in f (2 , f) * 3": let,
		"(fun x -> x + 1 )": def,
		"fun x -> x + 1":    def.Inner,
		"x + 1":             def.Inner.(*tree.Fun).Body,
		"f (2 , f) * 3":     body,
		"f (2 , f)":         call,
		"f":                 call.Func,
		"(2 , f)":           call.Arg,
		"2":                 call.Arg.(*tree.Pair).Left,
		"3":                 body.Right,
	} {
		if bytes(n) != want {
			t.Errorf("a node covers %q, want %q", bytes(n), want)
		}
	}
}

func TestFaults(t *testing.T) {
	for text, want := range map[string]int{
		"": 0, "{c} ": 4, "1 + ": 4, "(": 1, "(1,": 3, ")": 0, "1)": 1, "1 in": 2, "()": 1, "(1 2": 4, "(1, 2, 3)": 5, "(1 then": 3,
		"let": 3, "let 1": 4, "let rec rec": 8, "rec": 0, "let x 1": 6, "let x = in": 8, "let x = 1 then": 10, "let x = 1 in": 12, "let x = 1 in in": 13,
		"fun": 3, "fun (": 4, "fun x = 1": 6, "fun x ->": 8, "fun x y -> x": 6,
		"if": 2, "if 1 2": 6, "if 1 else": 5, "if 1 then 2 3": 13, "if 1 then 2 in": 12, "if 1 then 2 else": 16,
		"1 fun x -> x": 2, "1 * if 1 then 1 else 1": 4, "- 1": 0, "1 + + 1": 4, "1 * / 1": 4, "1 < 2 = 3": 6, "< 1": 0, "1 -> 2": 2, ", 1": 0,
	} {
		if root, at, ok := parse(t, text); root != nil || at != want || ok {
			t.Errorf("Text(%q) = %v, %d, %v, want place %d", text, root, at, ok, want)
		}
	}
}

func TestDepth(t *testing.T) {
	nested := func(head, tail string, times int) string {
		return strings.Repeat(head, times) + "1" + strings.Repeat(tail, times)
	}
	for _, c := range []struct {
		text string
		at   int
		ok   bool
	}{
		{nested("(", ")", 40), 0, true}, {nested("(", ")", 41), 40, false},
		{nested("(1,", ")", 40), 0, true}, {nested("(1,", ")", 41), 120, false},
		{nested("fun x->", "", 40), 0, true}, {nested("fun x->", "", 41), 280, false},
		{nested("let x=", "in 1", 40), 0, true}, {nested("let x=", "in 1", 41), 240, false},
		{nested("let x=1in ", "", 40), 0, true}, {nested("let x=1in ", "", 41), 400, false},
		{nested("let rec x=1in ", "", 40), 0, true}, {nested("let rec x=1in ", "", 41), 560, false},
		{nested("if ", "then 1 else 1 ", 40), 0, true}, {nested("if ", "then 1 else 1 ", 41), 120, false},
		{nested("if 1then ", " else 1 ", 40), 0, true}, {nested("if 1then ", "else 1 ", 41), 360, false},
		{nested("if 1then 1else ", "", 40), 0, true}, {nested("if 1then 1else ", "", 41), 600, false},
		{nested("(let x=1in if 1then 1else fun x->", ")", 10), 0, true},
		{nested("(let x=1in if 1then 1else fun x->", ")", 10) + "(1)", 0, true},
		{nested("(let x=1in if 1then 1else fun x->", ")", 11), 330, false},
		{strings.Repeat("(1)", 100), 0, true},
		{strings.Repeat("(fun x->1)", 100), 0, true},
		{"let x=" + nested("(", ")", 39) + "in " + nested("(", ")", 39), 0, true},
		{"let x=fun y->y in " + nested("(", ")", 39), 0, true},
		{"let x=fun y->y in " + nested("(", ")", 40), 57, false},
		{strings.Repeat("(", 300), 40, false},
		{strings.Repeat("(", 40) + ")", 40, false},
		{strings.Repeat("(", 40) + "1 fun", 42, false},
	} {
		if root, at, ok := parse(t, c.text); (root != nil) != c.ok || at != c.at || ok != c.ok {
			t.Errorf("Text(%q) = %v, %d, %v, want %d, %v", c.text, root != nil, at, ok, c.at, c.ok)
		}
	}
}
