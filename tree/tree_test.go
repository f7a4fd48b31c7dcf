package tree_test

import (
	"fmt"
	"strings"
	"testing"

	"tailor/api"
	"tailor/parse"
	"tailor/tree"
	"tailor/words"
)

func read(t *testing.T, text string) tree.Node {
	t.Helper()
	tokens, _, _ := words.Split(text)
	root, at, ok := parse.Text(text, tokens)
	if !ok {
		t.Fatalf("%q is no text: %d", text, at)
	}
	return root
}

func TestNames(t *testing.T) {
	for text, want := range map[string]string{
		"1":                   "",
		"x":                   "x0:free ",
		"let x = x in x y":    "x8:free x13:4 y15:free ",
		"let rec x = x in x":  "x12:8 x17:8 ",
		"fun x -> fun x -> x": "x18:13 ",
		"(fun x -> x) x":      "x10:5 x13:free ",
		"let x = 1 in let x = x in (x, if x then x else x * x)": "x21:4 x27:17 x33:17 x40:17 x47:17 x51:17 ",
		"let rec f = fun f -> f in f":                           "f21:16 f26:8 ",
	} {
		got := ""
		for name, binder := range tree.Names(read(t, text)) {
			by := "free"
			if binder != nil {
				by = fmt.Sprint(binder.At)
			}
			got += fmt.Sprintf("%s%d:%s ", name.Text, name.From, by)
		}
		if got != want {
			t.Errorf("Names of %q: %s, want %s", text, got, want)
		}
	}
}

func TestBindersAndUses(t *testing.T) {
	root := read(t, "let f = fun x -> x in let rec g = fun y -> g (f y) in (f 1, (fun g -> g) g)")
	got := ""
	for binder := range tree.Binders(root) {
		got += fmt.Sprintf("%s%d", binder.Name, binder.At)
		for use := range tree.Uses(root, binder) {
			got += fmt.Sprintf(" %d", use.From)
		}
		got += "; "
	}
	if want := "f4 46 55; x12 17; g30 43 73; y38 48; g65 70; "; got != want {
		t.Errorf("Binders: %s, want %s", got, want)
	}
}

func TestNodes(t *testing.T) {
	got := ""
	for n := range tree.Nodes(read(t, "let f = (1, fun x -> x) in if true then (snd) f else 1 + 2")) {
		got += fmt.Sprintf("%T%d ", n, n.Place().From)
	}
	want := "*tree.Let0 *tree.Pair8 *tree.Int9 *tree.Fun12 *tree.Name21 *tree.If27 *tree.Truth30 *tree.Call40 *tree.Bracket40 *tree.Side41 *tree.Name46 *tree.Binary53 *tree.Int53 *tree.Int57 "
	if got != want {
		t.Errorf("Nodes: %s, want %s", got, want)
	}
}

func TestFree(t *testing.T) {
	for text, want := range map[string]string{
		"1":                            "",
		"fun x -> x":                   "",
		"fun x -> y":                   "y9:x ",
		"let x = x in y x":             "x8: y13:x ",
		"let rec x = x y in z":         "y14:x z19:x ",
		"(fun x -> fun z -> y, y) x":   "y19:xz y22: x25: ",
		"let x = fun y -> x in x y":    "x17:y y24:x ",
		"let z = 1 in fun y -> (z, x)": "x26:yz ",
	} {
		got := ""
		for name, bound := range tree.Free(read(t, text)) {
			got += fmt.Sprintf("%s%d:", name.Text, name.From)
			for _, other := range []string{"x", "y", "z"} {
				if _, ok := bound.Find(other); ok {
					got += other
				}
			}
			got += " "
		}
		if got != want {
			t.Errorf("Free of %q: %s, want %s", text, got, want)
		}
	}
}

func TestReach(t *testing.T) {
	for text, want := range map[string]string{
		"1": "", "x y": "", "(fun x -> x)": "", "fun x -> 1": "9", "let x = 1 in 2": "13", "let rec x = 1 in 2": "12 17",
	} {
		var places []string
		for _, part := range tree.Reach(read(t, text)) {
			places = append(places, fmt.Sprint(part.Place().From))
		}
		if got := strings.Join(places, " "); got != want {
			t.Errorf("Reach of %q: %s, want %s", text, got, want)
		}
	}
}

// A loop that ends early panics if a function over yield goes on.
func TestLoopsMayEndEarly(t *testing.T) {
	root := read(t, "let f = fun x -> (x, if x then x else x x * x) in let rec g = f in g (fun y -> f f g y)")
	names, binders, uses := 0, 0, 0
	for range tree.Names(root) {
		names++
	}
	for binder := range tree.Binders(root) {
		binders++
		for range tree.Uses(root, binder) {
			uses++
		}
	}
	if names != uses || binders != 4 {
		t.Fatalf("%d names, %d uses, %d binders", names, uses, binders)
	}
	for stop := range names {
		left := stop
		for range tree.Names(root) {
			if left--; left < 0 {
				break
			}
		}
		left = stop
		for range tree.Nodes(root) {
			if left--; left < 0 {
				break
			}
		}
	}
	for range tree.Free(read(t, "(x, if x then x else x x * x)")) {
		break
	}
	for stop := range binders {
		left := stop
		for binder := range tree.Binders(root) {
			for range tree.Uses(root, binder) {
				break
			}
			if left--; left < 0 {
				break
			}
		}
	}
}

func TestWeight(t *testing.T) {
	for text, want := range map[string]int{
		"1": 1, "true": 1, "fst": 1, "(1)": 2, "((1))": 3, "(1, 2)": 3, "((1), (2))": 5, "1 + 2": 3, "1 + 2 + 3": 5, "1 + 2 - 3 * 4 / 5": 9,
		"1 < 2": 3, "1 + 2 = 3": 5, "fst snd 1 2": 7, "if 1 then 2 else 3": 4,
		"fun x -> x": 2, "fun x -> x x": 4, "fun x -> (x)": 3,
		"let x = 1 in 2":                         3,
		"let x = 1 in x":                         3,
		"let x = 1 + 2 in x":                     7,
		"let x = 1 + 2 in x + x":                 11,
		"let x = (1) in fun x -> x":              5,
		"let x = (1) in let x = x in x":          8,
		"let x = 1 2 in let y = x x in y y":      27,
		"let rec x = x in x":                     3,
		"let rec x = x x in x":                   7,
		"let rec x = x x in x x":                 11,
		"let x = 1 2 in let rec x = x x in x":    11,
		"let rec f = fun x -> f x in fun f -> f": 7,
		"let rec f = let g = f f in g in f":      15,
	} {
		if got := tree.Weight(read(t, text)); got != want {
			t.Errorf("Weight of %q = %d, want %d", text, got, want)
		}
	}
}

// Weights that were not cut off would wrap round here.
func TestWeightOfTheHeaviest(t *testing.T) {
	root := read(t, "let x=1in "+strings.Repeat("let x=x x x x x x x x x x in ", 39)+"x")
	if got := tree.Weight(root); got != api.MaxWeight+1 {
		t.Errorf("Weight = %d", got)
	}
}
