package tailor_test

import (
	"fmt"
	"reflect"
	"strings"
	"testing"

	"tailor/api"
	"tailor/tailor"
)

func open(t *testing.T, text string) *tailor.Text {
	t.Helper()
	x, kind, at := tailor.Open(text)
	if x == nil || kind != api.Fine || at != 0 {
		t.Fatalf("Open(%q) = %v, %d, %d", text, x != nil, kind, at)
	}
	return x
}

type fault struct {
	text string
	kind api.Kind
	at   int
}

func hold(t *testing.T, faults []fault) {
	t.Helper()
	for _, f := range faults {
		x, kind, at := tailor.Open(f.text)
		if (x != nil) != (f.kind == api.Fine) || kind != f.kind || at != f.at {
			t.Errorf("Open(%q) = %v, %d, %d, want %d, %d", f.text, x != nil, kind, at, f.kind, f.at)
		}
	}
}

func TestLong(t *testing.T) {
	hold(t, []fault{
		{strings.Repeat(" ", 299) + "1", api.Fine, 0},
		{"1{" + strings.Repeat("\xff", 297) + "}", api.Fine, 0},
		{strings.Repeat(" ", 300) + "1", api.Long, 0},
		{"1" + strings.Repeat(" ", 300), api.Long, 0},
		{strings.Repeat("(", 301), api.Long, 0},
		{strings.Repeat("A", 100000), api.Long, 0},
		{strings.Repeat("A", 300), api.Token, 0},
		{strings.Repeat(" ", 300), api.Form, 300},
	})
}

func TestToken(t *testing.T) {
	hold(t, []fault{
		{"fun abcdef -> abcdef", api.Fine, 0},
		{"fun abcde1 -> abcde1", api.Fine, 0},
		{"fun abcdefg -> 1", api.Token, 4},
		{"fun abcdef -> abcdef1", api.Token, 14},
		{"123456789", api.Fine, 0},
		{"000000000", api.Fine, 0},
		{"1234567890", api.Token, 0},
		{"1 + 0000000000", api.Token, 4},
		{"1 {", api.Token, 2},
		{"1 {{}}", api.Token, 5},
		{"x A", api.Token, 2},
		{"1\r\n", api.Token, 1},
		{"\x00", api.Token, 0},
		{"+ + ?", api.Token, 4},
		{"{A?\r\n{}1\t\n", api.Fine, 0},
	})
}

func TestForm(t *testing.T) {
	hold(t, []fault{
		{"", api.Form, 0},
		{" {} ", api.Form, 4},
		{"(1, x {} ", api.Form, 9},
		{"let x = y", api.Form, 9},
		{"x y in z", api.Form, 4},
		{"1 + let x = 2 in x", api.Form, 4},
		{"let fst = 1 in 1", api.Form, 4},
		{strings.Repeat("(", 40) + "1" + strings.Repeat(")", 40), api.Fine, 0},
		{strings.Repeat("(", 41) + "1" + strings.Repeat(")", 41), api.Form, 40},
		{strings.Repeat("fun x->", 40) + "x", api.Fine, 0},
		{strings.Repeat("fun x->", 40) + "(x)", api.Form, 280},
		{strings.Repeat("(1)-", 74) + "(1)", api.Fine, 0},
		{strings.Repeat("(", 41) + "x", api.Form, 40},
	})
}

func TestUnbound(t *testing.T) {
	hold(t, []fault{
		{" x", api.Unbound, 1},
		{"let x = x in x", api.Unbound, 8},
		{"let rec x = y in z", api.Unbound, 12},
		{"(fun x -> x) (x, y)", api.Unbound, 14},
		{"1 1 (let x = 1 in x) x", api.Unbound, 21},
		{"if 1 then (fun x -> x) else x", api.Unbound, 28},
	})
}

// weighing gives a text of ints that weighs 109 and 100 for each of hundreds, 10 for each of tens, 1 for each of ones.
func weighing(hundreds, tens, ones int) string {
	return "let a=1+1+1+1+1 in let b=a+a+a+a+a+a+a+a+a+a in " + strings.Repeat("(", ones) + "b" + strings.Repeat(")", ones) +
		strings.Repeat("+b", hundreds-1) + strings.Repeat("+a", tens)
}

func TestHeavy(t *testing.T) {
	hold(t, []fault{
		{weighing(18, 9, 1), api.Fine, 0},
		{weighing(18, 9, 2), api.Heavy, 0},
		{weighing(18, 9, 1) + "+x", api.Unbound, 104},
		{weighing(18, 9, 2) + "+true", api.Heavy, 0},
		{weighing(18, 9, 0) + " 1", api.Heavy, 0},
		{"let x=1in " + strings.Repeat("let x=x+x+x+x+x+x in ", 13) + "x", api.Heavy, 0},
	})
}

func TestTypes(t *testing.T) {
	hold(t, []fault{
		{"1 2", api.Types, 0},
		{"fun x -> x x", api.Types, 0},
		{"(let x = 2 in x) 3", api.Types, 0},
		{"true = true", api.Types, 0},
		{"let x = true + 1 in 2", api.Types, 0},
		{"fun f -> (f 1, f true)", api.Types, 0},
		{"let rec f = fun x -> f in 1", api.Types, 0},
		{"let id = fun x -> x in (id 1, id true)", api.Fine, 0},
	})
}

func TestSource(t *testing.T) {
	for _, text := range []string{"1", " {\xff\x00 a} (\t1 )\n{}", "let x=1in x", "fun f->f(1)(2)"} {
		if got := open(t, text).Source(); got != text {
			t.Errorf("Source() of %q = %q", text, got)
		}
	}
}

func TestType(t *testing.T) {
	for text, want := range map[string]string{
		"let id = fun x -> x in (id 3, id true)":                         "int * bool",
		"fun x -> fun y -> x":                                            "'a -> 'b -> 'a",
		"let rec f = fun n -> if n < 1 then 0 else n + f (n - 1) in f 4": "int",
		"fun y -> let x = y in fun y -> x":                               "'a -> 'b -> 'a",
		"fun p -> let x = fst in x p":                                    "'a * 'b -> 'a",
		"let x = 1 / 0 in 2":                                             "int",
		"fun f -> (f, (f 1, 2))":                                         "(int -> 'a) -> (int -> 'a) * ('a * int)",
	} {
		if got := open(t, text).Type(); got != want {
			t.Errorf("Type() of %q = %q, want %q", text, got, want)
		}
	}
}

func TestMaxShown(t *testing.T) {
	head := "let p=fun x->(x,x)in (p(p(p(p(p 1)))),(p(p(p(p 1))),fun x->fst x"
	if got := open(t, head+"+snd x))").Type(); len(got) != api.MaxShown || !strings.HasSuffix(got, ") * (int * int -> int))") {
		t.Errorf("a type of %d bytes: %q", len(got), got)
	}
	if got := open(t, head+"<snd x))").Type(); got != "..." {
		t.Errorf("a type of %d bytes: %q", len(got), got)
	}
}

func binder(name string, at int, uses ...int) api.Binder {
	return api.Binder{Name: name, At: at, Uses: uses}
}

func TestBinders(t *testing.T) {
	for _, c := range []struct {
		text string
		want []api.Binder
	}{
		{"1", nil},
		{"let id = fun x -> x in (id 3, id true)", []api.Binder{binder("id", 4, 24, 30), binder("x", 13, 18)}},
		{"let x = 1 in let x = x in x", []api.Binder{binder("x", 4, 21), binder("x", 17, 26)}},
		{"let rec abcdef = fun x -> abcdef x in abcdef", []api.Binder{binder("abcdef", 8, 26, 38), binder("x", 21, 33)}},
		{"(fun x -> fun x -> 1, fun x -> (x, x))", []api.Binder{binder("x", 5), binder("x", 14), binder("x", 26, 32, 35)}},
		{"{fun x}fun{x}x{x}->{x}if x then{x}x else x", []api.Binder{binder("x", 13, 25, 34, 41)}},
		{"fun x -> let y = fun x -> x in y x", []api.Binder{binder("x", 4, 33), binder("y", 13, 31), binder("x", 21, 26)}},
	} {
		got := open(t, c.text).Binders()
		if fmt.Sprint(got) != fmt.Sprint(c.want) {
			t.Errorf("Binders() of %q = %v, want %v", c.text, got, c.want)
		}
	}
}

func TestAnswersAreNew(t *testing.T) {
	text := open(t, "let id = fun x -> x in (id 3, (id 4, (id true, fun y -> (y, (y, y)))))")
	want := fmt.Sprint(text.Binders())
	first, second := text.Binders(), text.Binders()
	for i := range first {
		uses := first[i].Uses
		clear(uses)
		clear(uses[len(uses):cap(uses)])
		for j := len(uses); j < cap(uses); j++ {
			_ = append(uses[:j], 99)
		}
	}
	clear(first[:cap(first)])
	if got := fmt.Sprint(second); got != want {
		t.Errorf("an answer was changed with another one: %s, want %s", got, want)
	}
	if got := fmt.Sprint(text.Binders()); got != want {
		t.Errorf("the text was changed with an answer: %s, want %s", got, want)
	}
}

func TestListsOfAnAnswerShareNothing(t *testing.T) {
	binders := open(t, "fun x -> fun y -> (x, (x, (x, (y, (y, y)))))").Binders()
	_ = append(binders[0].Uses, 97, 98, 99)
	_ = append(binders[1].Uses, 97, 98, 99)
	if want := []api.Binder{binder("x", 4, 19, 23, 27), binder("y", 13, 31, 35, 38)}; !reflect.DeepEqual(binders, want) {
		t.Errorf("Binders() = %v, want %v", binders, want)
	}
}

func TestTextsKnowNothingOfOneAnother(t *testing.T) {
	tell := func(x *tailor.Text) string { return fmt.Sprint(x.Source(), x.Type(), x.Binders()) }
	one := open(t, "fun x -> fun y -> x")
	told := tell(one)
	other := open(t, "let x = 1 in x")
	if tailor.Open("x"); tell(one) != told || tell(one) != told {
		t.Errorf("a text has changed: %s, was %s", tell(one), told)
	}
	if got := tell(other); got != "let x = 1 in xint[{x 4 [13]}]" {
		t.Errorf("the other text: %s", got)
	}
}
