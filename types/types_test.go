package types_test

import (
	"strings"
	"testing"

	"tailor/parse"
	"tailor/tree"
	"tailor/types"
	"tailor/words"
)

func read(t *testing.T, text string) tree.Node {
	t.Helper()
	tokens, _, _ := words.Split(text)
	root, at, ok := parse.Text(text, tokens)
	if !ok {
		t.Fatalf("%q is no text: %d", text, at)
	}
	return root
}

func TestShown(t *testing.T) {
	for text, want := range map[string]string{
		"1": "int", "true": "bool", "false": "bool", "fst": "'a * 'b -> 'a", "snd": "'a * 'b -> 'b", "(fst)": "'a * 'b -> 'a",
		"1 + 2 - 3 * 4 / 5": "int", "1 < 2": "bool", "1 = 2": "bool",
		"(fst, snd)": "('a * 'b -> 'a) * ('c * 'd -> 'd)",
		"fun x -> x": "'a -> 'a", "fun x -> fun y -> y": "'a -> 'b -> 'b",
		"fun f -> f 1":                                                 "(int -> 'a) -> 'a",
		"fun f -> fun g -> f (g true)":                                 "('a -> 'b) -> (bool -> 'a) -> 'b",
		"fun f -> f (fun x -> x + 1)":                                  "((int -> int) -> 'a) -> 'a",
		"fun x -> (x, fun y -> (y, x))":                                "'a -> 'a * ('b -> 'b * 'a)",
		"((1, 2), 3)":                                                  "(int * int) * int",
		"(1, (2, 3))":                                                  "int * (int * int)",
		"fun p -> fst (fst p)":                                         "('a * 'b) * 'c -> 'a",
		"fun p -> snd (snd p) < 1":                                     "'a * ('b * int) -> bool",
		"fun a -> fun b -> if a then b else (1,b)":                     "",
		"fun a -> fun b -> if a then b else (1,2)":                     "bool -> int * int -> int * int",
		"let k = fun x -> fun y -> x in (k 1 true, k true 1)":          "int * bool",
		"fun y -> let f = fun x -> (x, y) in (f 1, f true)":            "'a -> (int * 'a) * (bool * 'a)",
		"fun y -> let f = fun x -> x y in (f (fun z -> z + 1), f fst)": "",
		"fun y -> let f = y in (f 1, f 2)":                             "(int -> 'a) -> 'a * 'a",
		"let id = fun x -> x in let j = id id in (j 1, j true)":        "int * bool",
		"let p = (fun x -> x, 1) in (fst p true, fst p 2)":             "bool * int",
		"let rec f = fun x -> f x in (f 1, f true)":                    "'a * 'b",
		"let rec f = fun x -> fun y -> if x = 0 then y else f (x-1) y in (f 1 true, f 1 2)": "bool * int",
		"let rec x = (x, 1) in 1":                                      "",
		"let rec x = fst (x, 1) in x":                                  "'a",
		"let rec f = fun x -> let g = fun y -> f y in (x, g x) in 1":   "",
		"let rec f = fun x -> let g = fun y -> f y in g x in (f, f 1)": "('a -> 'b) * 'c",
		"let x = 1 in let x = (x, x) in let x = (x, true) in x":        "(int * int) * bool",
		"fun x -> let x = x 1 in let x = x true in x":                  "(int -> bool -> 'a) -> 'a",
	} {
		shown, ok := types.Of(read(t, text))
		if shown != want || ok != (want != "") {
			t.Errorf("type of %q = %q, %v, want %q", text, shown, ok, want)
		}
	}
}

func TestNone(t *testing.T) {
	for _, text := range []string{
		"1 1", "true 1", "(1, 2) 1", "1 + true", "true * 1", "1 < true", "true < 1", "true = 1", "1 = true", "fst = fst", "(1, 2) = (1, 2)", "fst + 1",
		"fst 1", "snd true", "fst (fun x -> x)", "fst fst", "if 1 then 2 else 3", "if true then 1 else true", "if true then 1 else (1, 1)", "if true then (1, 2) else fun x -> x",
		"fun x -> x x", "fun x -> x (x, 1)", "fun f -> (fun x -> f (x x)) (fun x -> f (x x))", "fun x -> fun y -> if true then x else (x, y)",
		"fun x -> fun y -> if true then (if true then x else (y, 1)) else fst (x, if true then y else (x, 1))",
		"let x = 1 1 in 2", "let x = fun y -> y y in 2", "let rec x = 1 x in 2", "let rec f = fun x -> f in 1", "let rec f = fun x -> (f 1, f true) in 1",
		"fun f -> let g = f in (g 1, g true)", "(fun f -> (f 1, f true)) (fun x -> x)", "(1, fun x -> 1 + (x, x))",
		"fun x -> let y = fun z -> x true in x 1",
	} {
		if shown, ok := types.Of(read(t, text)); shown != "" || ok {
			t.Errorf("type of %q = %q, want none", text, shown)
		}
	}
}

func TestVariablesInOrder(t *testing.T) {
	want := ""
	for i := range 40 {
		want += "'" + string(rune('a'+i%26)) + strings.Repeat("1", i/26) + " -> "
	}
	text := strings.Repeat("fun x->", 40) + "1"
	if shown, _ := types.Of(read(t, text)); shown != want+"int" {
		t.Errorf("type of 40 functions = %q", shown)
	}
	text = "(" + strings.Repeat("(fst,", 15) + "fst" + strings.Repeat(")", 15) + ", 1)"
	shown, _ := types.Of(read(t, text))
	for _, name := range []string{"'z ", "'a1 ", "'f1 "} {
		if !strings.Contains(shown, name) {
			t.Errorf("no %sin %q", name, shown)
		}
	}
}

// Written out, these types have more parts than any machine could count.
func TestGreatTypes(t *testing.T) {
	head := "let p=fun x->(x,x)in let q=fun x->p(p(p(p(p x))))in let r=fun x->q(q(q(q(q x))))in "
	for text, want := range map[string]string{
		head + "r(r(r 1))": "...",
		head + "if 1<2 then r(r(r 1)) else r(r(r 1))":                                                      "...",
		head + "if 1<2 then r(r(r 1)) else r(r(r true))":                                                   "",
		head + "fun x->if 1<2 then r(r x) else r(r 1)":                                                     "...",
		head + "fun x->if 1<2 then r(r x) else x":                                                          "",
		head + "fst(1,r(r(r 1)))":                                                                          "int",
		"let p=fun x->fun y->(y x,x)in fun x->" + strings.Repeat("p(", 20) + "x" + strings.Repeat(")", 20): "...",
	} {
		shown, ok := types.Of(read(t, text))
		if shown != want || ok != (want != "") {
			t.Errorf("type of %q = %q, %v, want %q", text, shown, ok, want)
		}
	}
}
