package tailor_test

import (
	"fmt"
	"math"
	"strings"
	"testing"

	"tailor/api"
	"tailor/tailor"
)

// request is asked of a text; it has a name that tells which one it is.
type request struct {
	name string
	ask  func(x *tailor.Text) api.Kind
}

func rename(at int, name string) request {
	return request{fmt.Sprintf("Rename(%d, %.20q)", at, name), func(x *tailor.Text) api.Kind { return x.Rename(at, name) }}
}

func inline(at int) request {
	return request{fmt.Sprintf("Inline(%d)", at), func(x *tailor.Text) api.Kind { return x.Inline(at) }}
}

// tell is all that a text tells of itself.
func tell(x *tailor.Text) string {
	return fmt.Sprintln(x.Source(), x.Type(), x.Binders()) + runs(x)
}

// runs is what Run tells at several budgets.
func runs(x *tailor.Text) string {
	told := ""
	for _, budget := range []int{math.MinInt, 0, 1, 2, 3, 5, 9, 100, api.MaxSteps, math.MaxInt} {
		told += fmt.Sprintln(x.Run(budget))
	}
	return told
}

func refuse(t *testing.T, text string, r request, kind api.Kind) {
	t.Helper()
	x := open(t, text)
	told := tell(x)
	if got := r.ask(x); got != kind {
		t.Errorf("%s of %q = %d, want %d", r.name, text, got, kind)
	}
	if tell(x) != told {
		t.Errorf("%s of %q, refused, has changed it: %s", r.name, text, tell(x))
	}
}

// become holds the text behind a request against want and this type, and against what is promised of it.
func become(t *testing.T, text string, r request, want, typ string) {
	t.Helper()
	x := open(t, text)
	told := runs(x)
	if kind := r.ask(x); kind != api.Fine || x.Source() != want || x.Type() != typ {
		t.Errorf("%s of %q = %d, %q of type %s, want %q of type %s", r.name, text, kind, x.Source(), x.Type(), want, typ)
		return
	}
	if runs(x) != told {
		t.Errorf("%s of %q: runs to %s ahead to %s", r.name, text, runs(x), told)
	}
	if y := open(t, want); tell(y) != tell(x) {
		t.Errorf("%s of %q: %s opened anew %s", r.name, text, tell(x), tell(y))
	}
}

// renamed holds a Rename that must leave the type as it was.
func renamed(t *testing.T, text string, at int, name, want string) {
	t.Helper()
	become(t, text, rename(at, name), want, open(t, text).Type())
}

// inlined holds an Inline that leaves the type as it was, as nearly all do.
func inlined(t *testing.T, text string, at int, want string) {
	t.Helper()
	become(t, text, inline(at), want, open(t, text).Type())
}

func TestRename(t *testing.T) {
	const id = "let id = fun x -> x in (id 3, id true)"
	renamed(t, id, 4, "i", "let i = fun x -> x in (i 3, i true)")
	renamed(t, id, 5, "abcdef", "let abcdef = fun x -> x in (abcdef 3, abcdef true)")
	renamed(t, id, 13, "id", "let id = fun id -> id in (id 3, id true)")
	const sum = "let rec f = fun n -> if n < 1 then 0 else n + f (n - 1) in f 4"
	renamed(t, sum, 8, "sum", "let rec sum = fun n -> if n < 1 then 0 else n + sum (n - 1) in sum 4")
	renamed(t, sum, 16, "n1", "let rec f = fun n1 -> if n1 < 1 then 0 else n1 + f (n1 - 1) in f 4")
	renamed(t, "fun x -> (fun x -> x) x", 4, "y", "fun y -> (fun x -> x) y")
	renamed(t, "fun x -> (fun x -> x) x", 14, "y", "fun x -> (fun y -> y) x")
	renamed(t, "let x = 1 in let x = x in x", 4, "y", "let y = 1 in let x = y in x")
	renamed(t, "let x = 1 in let x = x in x", 17, "y", "let x = 1 in let y = x in y")
	renamed(t, "fun x -> 1", 4, "y", "fun y -> 1")
}

func TestRenameKeepsAllOtherBytes(t *testing.T) {
	renamed(t, "\t{x}fun{x}\nx{x}->{x}(x,x)\n{x\xff}", 11, "yy", "\t{x}fun{x}\nyy{x}->{x}(yy,yy)\n{x\xff}")
	renamed(t, "fun abc->let d=abc in(abc,d)", 4, "e", "fun e->let d=e in(e,d)")
	renamed(t, "fun f->fun x->f 1x", 11, "e9", "fun f->fun e9->f 1e9")
}

func TestRenamePlaces(t *testing.T) {
	const text = "let rec abc = fun d -> abc d in let ef = abc in fun g -> ef g"
	for at := -3; at < len(text)+3; at++ {
		switch {
		case 8 <= at && at <= 10:
			renamed(t, text, at, "new", "let rec new = fun d -> new d in let ef = new in fun g -> ef g")
		case at == 18:
			renamed(t, text, at, "new", "let rec abc = fun new -> abc new in let ef = abc in fun g -> ef g")
		case at == 36 || at == 37:
			renamed(t, text, at, "new", "let rec abc = fun d -> abc d in let new = abc in fun g -> new g")
		case at == 52:
			renamed(t, text, at, "new", "let rec abc = fun d -> abc d in let ef = abc in fun new -> ef new")
		default:
			refuse(t, text, rename(at, "new"), api.NoTarget)
		}
	}
	refuse(t, text, rename(math.MinInt, "new"), api.NoTarget)
	refuse(t, text, rename(math.MaxInt, "new"), api.NoTarget)
	refuse(t, "1", rename(0, "new"), api.NoTarget)
}

func TestRenameNames(t *testing.T) {
	for _, name := range []string{"a", "z", "a1", "a00000", "abcdef", "zzzzz9", "i", "inn", "lets", "funs", "rec1", "fs", "x"} {
		renamed(t, "fun x -> (x, 1)", 4, name, "fun "+name+" -> ("+name+", 1)")
	}
	for _, name := range []string{
		"", "let", "rec", "in", "fun", "if", "then", "else", "true", "false", "fst", "snd",
		"abcdefg", "a000000", strings.Repeat("a", 1<<20), "A", "aB", "a_", "1", "1a", "a-", "->", "=", "(", "a b", " a", "a ", "a\n", "{}a", "a{}", "{", "\x00", "a\x00", "\xff", "\xc3\xa9", "a\xc3\xa9",
	} {
		refuse(t, "fun x -> (x, 1)", rename(4, name), api.BadName)
		refuse(t, "fun x -> (x, 1)", rename(3, name), api.NoTarget)
	}
}

func TestRenameWouldBeCapturedWithin(t *testing.T) {
	for text, at := range map[string]int{
		"fun x -> fun y -> x":                              4,
		"fun x -> let y = 1 in x + y":                      4,
		"fun x -> let y = 1 in x":                          4,
		"fun x -> let rec y = fun n -> x in 1":             4,
		"fun x -> let rec y = 1 in x":                      4,
		"let x = 1 in (x, fun y -> (1, (2, x)))":           4,
		"let rec x = fun n -> fun y -> x n y in 1":         8,
		"let rec x = fun n -> x n in fun y -> x":           8,
		"fun x -> if true then x else (fun y -> y + x) x":  4,
		"fun x -> fun y -> let z = fun y -> y in (x, z y)": 4,
	} {
		refuse(t, text, rename(at, "y"), api.Captured)
	}
	renamed(t, "fun x -> (x, fun y -> y)", 4, "y", "fun y -> (y, fun y -> y)")
	renamed(t, "fun x -> let y = x in y", 4, "y", "fun y -> let y = y in y")
	renamed(t, "fun x -> let y = x in fun x -> (x, y)", 26, "z", "fun x -> let y = x in fun z -> (z, y)")
	renamed(t, "fun x -> fun y -> fun x -> x", 4, "y", "fun y -> fun y -> fun x -> x")
	renamed(t, "let x = fun y -> y in x", 4, "y", "let y = fun y -> y in y")
	renamed(t, "fun z -> fun x -> (x, fun y -> z)", 13, "y", "fun z -> fun y -> (y, fun y -> z)")
}

func TestRenameWouldCapture(t *testing.T) {
	for text, at := range map[string]int{
		"fun y -> fun x -> y":                          13,
		"fun y -> fun x -> (x, y)":                     13,
		"let y = 1 in let x = 2 in y":                  17,
		"let y = 1 in let x = 2 in x + y":              17,
		"let y = 1 in let rec x = fun n -> y in 1":     21,
		"let y = 1 in let rec x = fun n -> n in y":     21,
		"let rec y = fun x -> y x in 1":                16,
		"fun y -> fun x -> fun z -> (fun y -> y) y":    13,
		"fun y -> let x = 1 in let y = y in y":         13,
		"fun y -> fun x -> (let x = 1 in fun z -> y)":  13,
		"fun y -> fun x -> if true then (1, y) else x": 13,
	} {
		refuse(t, text, rename(at, "y"), api.Captured)
	}
	renamed(t, "let y = 1 in let x = y in x", 17, "y", "let y = 1 in let y = y in y")
	renamed(t, "let y = 1 in (let x = 2 in x) + y", 18, "y", "let y = 1 in (let y = 2 in y) + y")
	renamed(t, "fun y -> (fun x -> x) y", 14, "y", "fun y -> (fun y -> y) y")
	renamed(t, "fun y -> fun x -> fun y -> y", 13, "y", "fun y -> fun y -> fun y -> y")
	renamed(t, "fun y -> fun x -> let y = 1 in y", 13, "y", "fun y -> fun y -> let y = 1 in y")
	renamed(t, "fun y -> let rec x = fun n -> x n in x", 17, "y", "fun y -> let rec y = fun n -> y n in y")
}

func TestRenameToTheSameName(t *testing.T) {
	const text = "{x} let x = fun x -> x in let rec x = fun n -> x n in (x, fun x -> x)"
	for _, b := range open(t, text).Binders() {
		renamed(t, text, b.At, b.Name, text)
	}
}

func TestRenameLong(t *testing.T) {
	text := "fun x->" + strings.Repeat("let z=x in ", 20) + strings.Repeat(" ", 51) + "1" // the binder and 20 uses have a byte each
	renamed(t, text, 4, "ab", strings.ReplaceAll(text, "x", "ab"))
	refuse(t, text, rename(4, "abc"), api.Long)
	refuse(t, text+" ", rename(4, "ab"), api.Long)
	refuse(t, text+" ", rename(4, "AB"), api.BadName)
	refuse(t, text+" ", rename(5, "ab"), api.NoTarget)
	whole := text + strings.Repeat(" ", 21)
	renamed(t, whole, 4, "y", strings.ReplaceAll(whole, "x", "y"))
	refuse(t, "fun x->fun abcdef->(x,1)"+strings.Repeat(" ", 270), rename(4, "abcdef"), api.Captured)
	refuse(t, "fun abcdef->fun x->(abcdef,x)"+strings.Repeat(" ", 270), rename(16, "abcdef"), api.Captured)
}

func TestInline(t *testing.T) {
	const id = "let id = fun x -> x in (id 3, id true)"
	inlined(t, id, 4, "((fun x -> x) 3, (fun x -> x) true)")
	inlined(t, id, 5, "((fun x -> x) 3, (fun x -> x) true)")
	inlined(t, "fun p -> let x = fst in x p", 13, "fun p -> fst p")
	inlined(t, "let a = 1 in let b = a in let c = b in c", 4, "let b = 1 in let c = b in c")
	inlined(t, "let a = 1 in let b = a in let c = b in c", 17, "let a = 1 in let c = a in c")
	inlined(t, "let a = 1 in let b = a in let c = b in c", 30, "let a = 1 in let b = a in b")
	inlined(t, "(let x = 1 in x, let x = 2 in x)", 5, "(1, let x = 2 in x)")
	inlined(t, "(let x = 1 in x, let x = 2 in x)", 21, "(let x = 1 in x, 2)")
	inlined(t, "if let t = true in t then let a = 1 in a else let b = 2 in b", 7, "if true then let a = 1 in a else let b = 2 in b")
	inlined(t, "if let t = true in t then let a = 1 in a else let b = 2 in b", 30, "if let t = true in t then 1 else let b = 2 in b")
	inlined(t, "if let t = true in t then let a = 1 in a else let b = 2 in b", 50, "if let t = true in t then let a = 1 in a else 2")
	inlined(t, "let x = let y = 1 in y = y in x", 12, "let x = 1 = 1 in x")
	inlined(t, "let x = 5 in let y = x in fun x -> y + x", 4, "let y = 5 in fun x -> y + x")
	inlined(t, "let f = fun n -> n - 1 in let rec g = fun n -> if n = 0 then 0 else g (f n) in g 3", 4, "let rec g = fun n -> if n = 0 then 0 else g ((fun n -> n - 1) n) in g 3")
}

func TestInlineUsedNowhere(t *testing.T) {
	inlined(t, "let f = fun y -> y in 7", 4, "7")
	inlined(t, "let x = 1 in fun x -> x", 4, "fun x -> x")
	inlined(t, "let x = 1 in let x = true in x", 4, "let x = true in x")
	inlined(t, "fun y -> let x = y in fun y -> y", 13, "fun y -> fun y -> y")
	become(t, "fun y -> let x = fun z -> y + z in y", inline(13), "fun y -> y", "'a -> 'a")
	become(t, "fun f -> let x = fun y -> f (f y) in f", inline(13), "fun f -> f", "'a -> 'a")
	become(t, "fun f -> let x = fun y -> f (f y) in x", inline(13), "fun f -> (fun y -> f (f y))", "('a -> 'a) -> 'a -> 'a")
}

func TestInlinePlaces(t *testing.T) {
	const text = "let rec abc = fun d -> abc d in let ef = abc in fun g -> ef g"
	for at := -3; at < len(text)+3; at++ {
		if at == 36 || at == 37 {
			inlined(t, text, at, "let rec abc = fun d -> abc d in fun g -> abc g")
			continue
		}
		refuse(t, text, inline(at), api.NoTarget)
	}
	refuse(t, text, inline(math.MinInt), api.NoTarget)
	refuse(t, text, inline(math.MaxInt), api.NoTarget)
	refuse(t, "1", inline(0), api.NoTarget)
	refuse(t, "let rec x = 1 in x", inline(8), api.NoTarget)
	refuse(t, "let rec x = 1 / 0 in x", inline(8), api.NoTarget)
}

func TestInlineValues(t *testing.T) {
	for _, value := range []string{
		"1", "000000000", "true", "false", "fst", "snd", "v", "w", "(1)", "((fst))", "(1, 2)", "(v, (w, v))", "((v), (fun x -> x))",
		"(fun x -> 1 / 0)", "(fun x -> if x then v 1 else let y = v 2 in y)", "(fst, snd)", "( 1 , ( true,false ) )", "({a}v{b})",
	} {
		inlined(t, "fun v -> let w = v 1 in let x = "+value+" in (x, x)", 28, "fun v -> let w = v 1 in ("+value+", "+value+")")
	}
	for _, value := range []string{"fun x -> x", "fun x -> fun y -> (x, y) ", "fun x -> (1, 2)", "fun x -> v x"} {
		inBrackets := "(" + strings.TrimSpace(value) + ")"
		inlined(t, "fun v -> let w = v 1 in let x = "+value+" in (x, x)", 28, "fun v -> let w = v 1 in ("+inBrackets+", "+inBrackets+")")
	}
	for _, none := range []string{
		"1 + 1", "1 - 1", "1 * 1", "1 / 1", "1 < 1", "1 = 1", "v 1", "fst (1, 2)", "(v) (1)", "(fst) (1, 2)", "(fun x -> x) (fun x -> x)", "(fun x -> x) 1", "if true then 1 else 2",
		"let y = 1 in y", "let rec y = 1 in y", "(1 + 1)", "((v 1))", "(1, 1 + 1)", "(v 1, 1)", "(1, (2, (3, v 1)))", "((fst (1, 2), 1), 1)", "(let y = 1 in y, 1)", "(if true then 1 else 2)", "(1) + (2)",
	} {
		refuse(t, "fun v -> let w = v 1 in let x = "+none+" in (x, x)", inline(28), api.NotValue)
	}
}

func TestInlineNamesOfLetRec(t *testing.T) {
	for text, at := range map[string]int{
		"let rec f = (let g = f in fun n -> g n) in 1":                              17,
		"let rec f = fun n -> let g = f in g n in 1":                                25,
		"let rec f = fun n -> let g = (1, (f)) in snd g n in 1":                     25,
		"let rec f = fun n -> let g = (f, 1) in fst g n in 1":                       25,
		"let rec f = fun n -> fun m -> if true then 1 else let g = f in g n m in 1": 54,
		"let rec f = fun n -> let rec h = fun m -> let g = f in g n in h 1 in 1":    46,
	} {
		refuse(t, text, inline(at), api.NotValue)
	}
	inlined(t, "let rec f = fun n -> n in let g = f in g 1", 30, "let rec f = fun n -> n in f 1")
	inlined(t, "let rec f = fun n -> n in let g = (1, (f)) in snd g 1", 30, "let rec f = fun n -> n in snd (1, (f)) 1")
	inlined(t, "let rec f = fun n -> n in let rec h = fun m -> let g = f in g m in h 1", 51, "let rec f = fun n -> n in let rec h = fun m -> f m in h 1")
	inlined(t, "let rec f = fun n -> let g = n in g in f 1", 25, "let rec f = fun n -> n in f 1")
	inlined(t, "let rec f = fun f -> let g = f in g in f 1", 25, "let rec f = fun f -> f in f 1")
	inlined(t, "let rec f = let f = 1 in let g = f in g in f", 29, "let rec f = let f = 1 in f in f")
	inlined(t, "let rec f = fun n -> let g = fun m -> f m in g n in 1", 25, "let rec f = fun n -> (fun m -> f m) n in 1")
	inlined(t, "let rec f = (let g = fun n -> f n in g) in 1", 17, "let rec f = ((fun n -> f n)) in 1")
	inlined(t, "let f = fun n -> n in let rec g = fun m -> let h = f in h m in g 1", 47, "let f = fun n -> n in let rec g = fun m -> f m in g 1")
	inlined(t, "let rec f = fun n -> n in let f = f in f 1", 30, "let rec f = fun n -> n in f 1")
}

func TestInlineBrackets(t *testing.T) {
	inlined(t, "let f = fun x -> x in f", 4, "(fun x -> x)")
	inlined(t, "let f = fun x -> (x) in f f f 1", 4, "(fun x -> (x)) (fun x -> (x)) (fun x -> (x)) 1")
	inlined(t, "let f = (fun x -> x) in f f 1", 4, "(fun x -> x) (fun x -> x) 1")
	inlined(t, "let f = ((fun x -> x)) in f(1)", 4, "((fun x -> x))(1)")
	inlined(t, "let f = (fst) in f (1, 2)", 4, "(fst) (1, 2)")
	inlined(t, "let f = (1, 2) in (f, f)", 4, "((1, 2), (1, 2))")
	inlined(t, "let f = ((1), (2)) in f", 4, "((1), (2))")
	inlined(t, "let f = 1 in (f)", 4, "(1)")
	refuse(t, "let f = (fst) (1, (2)) in f", inline(4), api.NotValue)
	refuse(t, "let f = (1) * (2) in f", inline(4), api.NotValue)
}

func TestInlineBehindADigit(t *testing.T) {
	inlined(t, "fun f -> let x = 2 in f 1x x 0x", 13, "fun f -> f 1(2) 2 0(2)")
	inlined(t, "fun f -> let x = 999999999 in f 1x", 13, "fun f -> f 1(999999999)")
	inlined(t, "fun f -> let x = 2 in f 1{}x", 13, "fun f -> f 1{}2")
	inlined(t, "fun f -> let x = 2 in f(x)x{1}x", 13, "fun f -> f(2)2{1}2")
	inlined(t, "fun f -> let x = (2) in f 1x", 13, "fun f -> f 1(2)")
	inlined(t, "fun f -> let x = true in f 1x", 13, "fun f -> f 1true")
	inlined(t, "fun f -> let x = snd in f 1x", 13, "fun f -> f 1snd")
	inlined(t, "fun e9 -> let x = e9 in fun f -> f 1x", 14, "fun e9 -> fun f -> f 1e9")
	inlined(t, "fun f -> let x = fun y -> y in f 1x", 13, "fun f -> f 1(fun y -> y)")
	inlined(t, "fun a1 -> let x = 2 in a1 x", 14, "fun a1 -> a1 2")
}

func TestInlineGaps(t *testing.T) {
	inlined(t, "{a}let{b}x{c}={d}5{e}in{f}x{g}+ x{h}", 9, "{a}5{g}+ 5{h}")
	inlined(t, " let f = {a} fun x -> {b} x {c} in \n f 1\t", 5, " (fun x -> {b} x) 1\t")
	inlined(t, "let f = ({a} 1{b}) in f{c}", 4, "({a} 1{b}){c}")
	inlined(t, "let x=1in(x)", 4, "(1)")
	inlined(t, "(let x=1in x+x,(let x=2in x))", 5, "(1+1,(let x=2in x))")
	inlined(t, "fun a->let x=a in x", 11, "fun a->a")
	inlined(t, "if true then{1}let x=1in x{2}else{3}2", 19, "if true then{1}1{2}else{3}2")
	inlined(t, "let y=let x=1in x in y", 10, "let y=1 in y")
	inlined(t, "let x = 1 in {x}let y = {x}x{x}in{x} x{x}", 4, "let y = {x}1{x}in{x} 1{x}")
}

func TestInlineCaptured(t *testing.T) {
	for text, at := range map[string]int{
		"fun y -> let x = y in fun y -> x":                                      13,
		"fun y -> let x = (y, 1) in (x, let y = 2 in x)":                        13,
		"fun y -> let x = y in let rec y = fun n -> x in y":                     13,
		"fun y -> let x = y in let rec y = fun n -> n in x":                     13,
		"fun y -> let x = fun z -> y in fun y -> x":                             13,
		"fun y -> let x = fun z -> (z, (fun y -> y) y) in (x, fun y -> (1, x))": 13,
		"fun y -> let x = (1, ((2), y)) in if true then x else (fun y -> x) 1":  13,
		"let rec y = fun n -> n in let x = y in fun y -> x y":                   30,
		"let y = 1 in let x = y in (x, fun y -> fun z -> x)":                    17,
		"fun y -> fun z -> let x = (y, z) in fun z -> x":                        22,
		"fun x -> let x = fun z -> x in let z = x in fun y -> fun x -> z":       35,
	} {
		refuse(t, text, inline(at), api.Captured)
	}
	refuse(t, "fun y -> let x = y + 1 in fun y -> x", inline(13), api.NotValue)
	inlined(t, "fun y -> let x = y in fun z -> x", 13, "fun y -> fun z -> y")
	inlined(t, "fun w -> fun y -> let x = y in (x, fun y -> w)", 22, "fun w -> fun y -> (y, fun y -> w)")
	inlined(t, "fun y -> let x = fun z -> (y, z) in fun z -> x z", 13, "fun y -> fun z -> (fun z -> (y, z)) z")
	inlined(t, "fun y -> let x = (y, 1) in (x, let y = fst x in y)", 13, "fun y -> ((y, 1), let y = fst (y, 1) in y)")
	inlined(t, "fun y -> let x = y in (x, fun y -> y)", 13, "fun y -> (y, fun y -> y)")
	inlined(t, "fun y -> let x = y in fun y -> fun x -> x", 13, "fun y -> fun y -> fun x -> x")
	inlined(t, "let x = fun y -> y in fun y -> x y", 4, "fun y -> (fun y -> y) y")
	inlined(t, "fun x -> let x = x in x", 13, "fun x -> x")
	inlined(t, "fun x -> let x = (x, x) in let x = x in x", 13, "fun x -> let x = (x, x) in x")
	inlined(t, "fun x -> let x = (x, x) in let x = x in x", 31, "fun x -> let x = (x, x) in x")
	inlined(t, "fun x -> let x = fun y -> x in fun y -> x y", 13, "fun x -> fun y -> (fun y -> x) y")
}

// bracketed is the text in so many brackets.
func bracketed(text string, times int) string {
	return strings.Repeat("(", times) + text + strings.Repeat(")", times)
}

func TestInlineLong(t *testing.T) {
	pad := strings.Repeat(" ", 220)
	const text = "let x = (123456789, true) in (x, (x, (x, x)))"
	inlined(t, text+pad, 4, strings.ReplaceAll("(x, (x, (x, x)))", "x", "(123456789, true)")+pad) // just MaxText bytes
	refuse(t, text+pad+" ", inline(4), api.Long)
	refuse(t, "let x = (123456789, 1 + 1) in (x, (x, (x, (x, x))))"+pad, inline(4), api.NotValue)
	refuse(t, "fun y -> let x = (12345678, y) in (x, (x, (x, fun y -> x)))"+pad, inline(13), api.Captured)
	refuse(t, "fun y -> let x = (12345678, y) in (x, (x, (x, fun z -> x)))"+pad, inline(13), api.Long)
	inlined(t, "let x = 1 in 1"+pad+strings.Repeat(" ", 66), 4, "1"+pad+strings.Repeat(" ", 66))
}

func TestInlineTooDeep(t *testing.T) {
	inlined(t, "let f = fun x -> x in "+bracketed("f", 38), 4, bracketed("(fun x -> x)", 38))
	refuse(t, "let f = fun x -> x in "+bracketed("f", 39), inline(4), api.Form)
	inlined(t, "let f = (1, 2) in "+bracketed("f", 39), 4, bracketed("(1, 2)", 39))
	refuse(t, "let f = (1, (2)) in "+bracketed("f", 39), inline(4), api.Form)
	refuse(t, "let f = (1, (2)) in (f, "+bracketed("f", 38)+")", inline(4), api.Form)
	refuse(t, "fun y -> let f = (1, (y)) in "+bracketed("(f, fun y -> f)", 36), inline(13), api.Captured)
	refuse(t, "let f = ((123456789)) in "+strings.Repeat("(f,", 39)+"1"+strings.Repeat(")", 39), inline(4), api.Long)
	inlined(t, "let f = (((1))) in "+bracketed("1", 39), 4, bracketed("1", 39))
}

// Each f that becomes `(fun x->x)` weighs one more by its brackets, and there are as many of them as a and b are used.
func TestInlineHeavy(t *testing.T) {
	const head = "let f=fun x->x in let a=f f f f f in let b=a a a a a a a a a in "
	const behindIn = "b b b b b b b b b b"
	inlined(t, head+bracketed(behindIn, 1), 4, "let a=(fun x->x) (fun x->x) (fun x->x) (fun x->x) (fun x->x) in let b=a a a a a a a a a in ("+behindIn+")") // weighs just MaxWeight
	refuse(t, head+bracketed(behindIn, 2), inline(4), api.Heavy)
	refuse(t, head+bracketed(behindIn+" f", 37), inline(4), api.Form)
	refuse(t, head+bracketed(behindIn, 2)+strings.Repeat(" ", 190), inline(4), api.Long)
}

func TestRequestsBehindOneAnother(t *testing.T) {
	x := open(t, "let id = fun x -> x in let two = 2 in (id two, id true)")
	told := runs(x)
	for _, step := range []struct {
		request
		kind api.Kind
		want string
	}{
		{rename(4, "i"), api.Fine, "let i = fun x -> x in let two = 2 in (i two, i true)"},
		{rename(29, "i"), api.NoTarget, ""},
		{rename(26, "i"), api.Captured, ""},
		{rename(12, "two"), api.Fine, "let i = fun two -> two in let two = 2 in (i two, i true)"},
		{inline(30), api.Fine, "let i = fun two -> two in (i 2, i true)"},
		{inline(30), api.NoTarget, ""},
		{inline(12), api.NoTarget, ""},
		{rename(4, "two"), api.Fine, "let two = fun two -> two in (two 2, two true)"},
		{inline(6), api.Fine, "((fun two -> two) 2, (fun two -> two) true)"},
		{inline(6), api.NoTarget, ""},
		{rename(6, "a"), api.Fine, "((fun a -> a) 2, (fun two -> two) true)"},
		{rename(22, "abcdef"), api.Fine, "((fun a -> a) 2, (fun abcdef -> abcdef) true)"},
	} {
		if step.want == "" {
			step.want = x.Source()
		}
		if kind := step.ask(x); kind != step.kind || x.Source() != step.want {
			t.Fatalf("%s = %d, %q, want %d, %q", step.name, kind, x.Source(), step.kind, step.want)
		}
		if y := open(t, step.want); tell(x) != tell(y) || x.Type() != "int * bool" || runs(x) != told {
			t.Fatalf("behind %s: %s opened anew %s", step.name, tell(x), tell(y))
		}
	}
}

func TestRequestsOfTextsBesideOneAnother(t *testing.T) {
	const text = "let f = fun x -> x in f f 1"
	texts := [...]*tailor.Text{open(t, text), open(t, text), open(t, text), open(t, text)}
	binders := texts[0].Binders()
	told := fmt.Sprint(binders)
	texts[1].Rename(4, "g")
	texts[2].Inline(4)
	texts[3].Rename(12, "f")
	texts[1].Rename(12, "y")
	for n, want := range []string{text, "let g = fun y -> y in g g 1", "(fun x -> x) (fun x -> x) 1", "let f = fun f -> f in f f 1"} {
		if got := texts[n]; got.Source() != want || tell(got) != tell(open(t, want)) {
			t.Errorf("text %d: %s", n, tell(got))
		}
	}
	if texts[0].Inline(4); fmt.Sprint(binders) != told {
		t.Errorf("an answer was changed by a request: %v, was %s", binders, told)
	}
}

func TestRenameAndBack(t *testing.T) {
	for _, text := range []string{
		"let rec f = fun n -> if n < 1 then 0 else n + f (n - 1) in let n = 3 in f n",
		"let x = 1 in let x = x in {x}fun x -> (let rec x = fun y -> x y in x, x)",
		"fun abcdef->fun a->fun f->f abcdef(f a abcdef)",
		"fun f->fun x->f 1x",
	} {
		for _, b := range open(t, text).Binders() {
			for _, name := range []string{"q", "qq", "q12345"} {
				x := open(t, text)
				if there, back := x.Rename(b.At, name), x.Rename(b.At, b.Name); there != api.Fine || back != api.Fine || x.Source() != text || tell(x) != tell(open(t, text)) {
					t.Errorf("%q: %s at %d to %s and back: %d, %d, %q", text, b.Name, b.At, name, there, back, x.Source())
				}
			}
		}
	}
}

// Inline leaves each outcome of a run, and the steps ahead of it, as they were.
func TestInlineKeepsOutcomes(t *testing.T) {
	inlined(t, "let f = fun x -> 1 / x in let g = fun x -> x in (g 1, f (g 0))", 4, "let g = fun x -> x in (g 1, (fun x -> 1 / x) (g 0))")
	inlined(t, "let g = fun x -> x in let rec f = fun n -> f (g n) in f 0", 4, "let rec f = fun n -> f ((fun x -> x) n) in f 0")
	inlined(t, "let z = 0 in (fun x -> x) 1 / z", 4, "(fun x -> x) 1 / 0")
	inlined(t, "let rec x = (let g = fun n -> x in g 1) in 2", 17, "let rec x = ((fun n -> x) 1) in 2")
	inlined(t, "let p=fun x->(x,x)in let q=fun x->p(p(p x))in q(q(q(q 1)))", 4, "let q=fun x->(fun x->(x,x))((fun x->(x,x))((fun x->(x,x)) x))in q(q(q(q 1)))")
}
