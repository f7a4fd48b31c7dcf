package tailor_test

import (
	"fmt"
	"math"
	"strings"
	"testing"

	"tailor/api"
)

func done(steps int, shown string) api.Outcome {
	return api.Outcome{Kind: api.Done, Steps: steps, Shown: shown}
}

func broken(steps int) api.Outcome { return api.Outcome{Kind: api.Fault, Steps: steps} }

func short(steps int) api.Outcome { return api.Outcome{Kind: api.Steps, Steps: steps} }

type outcomes map[string]api.Outcome

func holdRuns(t *testing.T, budget int, runs outcomes) {
	t.Helper()
	for text, want := range runs {
		if got := open(t, text).Run(budget); got != want {
			t.Errorf("Run(%d) of %q = %+v, want %+v", budget, text, got, want)
		}
	}
}

func TestRunExamples(t *testing.T) {
	holdRuns(t, 9, outcomes{
		"let id = fun x -> x in (id 3, id true)":                         done(2, "(3, true)"),
		"let rec f = fun n -> if n < 1 then 0 else n + f (n - 1) in f 4": done(5, "10"),
		"let x = 1 / 0 in 2":          broken(0),
		"fun x -> fun y -> x":         done(0, "fun"),
		"fun p -> let x = fst in x p": done(0, "fun"),
	})
}

func TestRunInts(t *testing.T) {
	const least = "let m = 0 - 9223372 * 1000000 * 1000000 - 36854 * 1000000 - 775808 in "
	holdRuns(t, 0, outcomes{
		"7": done(0, "7"), "007": done(0, "7"), "000000000": done(0, "0"), "999999999": done(0, "999999999"), "0 - 1": done(0, "-1"),
		"10 - 2 - 3": done(0, "5"), "10 - (2 - 3)": done(0, "11"), "2 + 3 * 4": done(0, "14"), "(2 + 3) * 4": done(0, "20"), "100 / 10 / 2": done(0, "5"), "100 / 10 * 2": done(0, "20"),
		"7 / 2": done(0, "3"), "(0 - 7) / 2": done(0, "-3"), "7 / (0 - 2)": done(0, "-3"), "(0 - 7) / (0 - 2)": done(0, "3"), "(0 - 1) / 2": done(0, "0"), "0 / 7": done(0, "0"),
		"7 / 0": broken(0), "0 / 0": broken(0), "1 / (2 - 2)": broken(0), "0 * (1 / 0)": broken(0),
		least + "m":                done(0, "-9223372036854775808"),
		least + "m - 1":            done(0, "9223372036854775807"),
		least + "m - 1 + 1":        done(0, "-9223372036854775808"),
		least + "0 - m":            done(0, "-9223372036854775808"),
		least + "m * (0 - 1)":      done(0, "-9223372036854775808"),
		least + "m / (0 - 1)":      done(0, "-9223372036854775808"),
		least + "(m - 1) * 2":      done(0, "-2"),
		least + "m * 2":            done(0, "0"),
		least + "m / 2":            done(0, "-4611686018427387904"),
		least + "(m < m - 1, m<0)": done(0, "(true, true)"),
	})
}

func TestRunTruths(t *testing.T) {
	holdRuns(t, 0, outcomes{
		"(1 < 2, (2 < 1, 1 < 1))":                     done(0, "(true, (false, false))"),
		"(1 = 1, (1 = 2, 07 = 7))":                    done(0, "(true, (false, true))"),
		"(0 - 1 < 0, 0 < 0 - 1)":                      done(0, "(true, false)"),
		"if true then 1 else 1 / 0":                   done(0, "1"),
		"if false then 1 / 0 else 2":                  done(0, "2"),
		"if 2 < 1 then 1 else if 1 = 1 then 2 else 3": done(0, "2"),
		"if 1 / 0 = 0 then 1 else 2":                  broken(0),
		"if true then 1 / 0 else 2":                   broken(0),
	})
}

func TestRunFunctions(t *testing.T) {
	holdRuns(t, api.MaxSteps, outcomes{
		"fun x -> 1 / 0":                done(0, "fun"),
		"fst":                           done(0, "fun"),
		"(fst, (snd, fun x -> x))":      done(0, "(fun, (fun, fun))"),
		"fst (1, 2)":                    done(0, "1"),
		"snd (1, 2)":                    done(0, "2"),
		"snd (fst ((1, (2, true)), 3))": done(0, "(2, true)"),
		"let f = snd in f (1, f (2, fst)) (3, 4)":                                        done(0, "3"),
		"(fun f -> (f (1, 2), f (3, 4))) snd":                                            done(1, "(2, 4)"),
		"(if 1 < 2 then fst else snd) (1, 2)":                                            done(0, "1"),
		"(fun x -> fun x -> x) 1 2":                                                      done(2, "2"),
		"(fun x -> fun y -> x) 1 2":                                                      done(2, "1"),
		"(fun x -> fun y -> x) 1":                                                        done(1, "fun"),
		"let x = 1 in let f = fun y -> x in let x = 2 in (f x, x)":                       done(1, "(1, 2)"),
		"let x = 1 in let x = (x, x) in let x = (x, true) in x":                          done(0, "((1, 1), true)"),
		"let k = fun x -> fun y -> x in let a = k 1 in let b = k 2 in (a 9, (b 9, a 9))": done(5, "(1, (2, 1))"),
		"let two = fun f -> fun x -> f (f x) in two two (fun n -> n * 3) 1":              done(11, "81"),
		"(fun f -> 1) (fun x -> 1 / 0)":                                                  done(1, "1"),
		"(fun x -> 1 / x) 0":                                                             broken(1),
		"((fun x -> 1 / x) 0, (fun x -> x) 1)":                                           broken(1),
		"let f = fun x -> x in (f 1, f 2 / f 0)":                                         broken(3),
	})
}

func TestRunRec(t *testing.T) {
	holdRuns(t, api.MaxSteps, outcomes{
		"let rec x = 5 in x":                           done(0, "5"),
		"let rec x = fst (1, fun n -> x) in x":         done(0, "1"),
		"let rec x = x in 1":                           broken(0),
		"let rec x = x + 1 in 1":                       broken(0),
		"let rec x = if true then 1 else x in x":       done(0, "1"),
		"let rec f = fst (f, 1) in 2":                  broken(0),
		"let rec f = (let g = f in fun n -> 1) in f 2": broken(0),
		"let rec f = (let g = fun n -> f n in fun n -> if n = 0 then 7 else g (n - 1)) in f 2": done(5, "7"),
		"let rec f = (fun n -> f) 1 in 2":                                                                                                     broken(1),
		"let rec f = (let g = fun n -> f in fun n -> g 1) 1 in 2":                                                                             broken(2),
		"let rec f = (fun a -> fun n -> if n = 0 then a else f (n - 1)) 3 in f 2":                                                             done(4, "3"),
		"let rec f = fun n -> if n < 2 then n else f (n - 1) + f (n - 2) in f 10":                                                             done(177, "55"),
		"let f = fun n -> n + 1 in let rec f = fun n -> if n = 0 then 0 else f (n - 1) in f 3":                                                done(4, "0"),
		"let f = fun n -> n + 1 in let f = fun n -> if n = 0 then 0 else f (n - 1) in f 3":                                                    done(2, "3"),
		"let rec x = 1 in let rec x = (fun x -> x) x in 1":                                                                                    broken(0),
		"let rec p = (fun n -> if n = 0 then true else snd p (n - 1), fun n -> if n = 0 then false else fst p (n - 1)) in (fst p 4, fst p 3)": done(9, "(true, false)"),
		"let rec f = fun n -> let rec g = fun m -> if m = 0 then n else g (m - 1) in if n = 0 then 5 else g 2 * 10 + f (n - 1) in f 2":        done(9, "35"),
		"let rec f = fun n -> if n = 0 then fun x -> x else let g = f (n - 1) in fun x -> g x + n in f 3 0":                                   done(8, "6"),
	})
}

// With a budget of 0 the first step that is needed ends the run by Steps, and a Fault ahead of it by Fault.
func TestRunOrder(t *testing.T) {
	const step, byZero = "(fun x -> x) 1", "1 / 0"
	runs := outcomes{
		"(" + step + ", " + byZero + ")":                         short(0),
		"(" + byZero + ", " + step + ")":                         broken(0),
		"(fun y -> y) (" + byZero + ")":                          broken(0),
		"(fun y -> y) (" + step + ")":                            short(0),
		"fst (" + byZero + ", " + step + ")":                     broken(0),
		"snd (" + step + ", " + byZero + ")":                     short(0),
		"(fun x -> fun y -> y) 1 (" + byZero + ")":               short(0),
		"(let f = " + byZero + " in fun y -> y) (" + step + ")":  broken(0),
		"(if 1 / 0 < 1 then fst else snd) (" + step + ", 1)":     broken(0),
		"let x = " + step + " in " + byZero:                      short(0),
		"let x = " + byZero + " in " + step:                      broken(0),
		"let rec x = " + step + " in " + byZero:                  short(0),
		"let rec x = " + byZero + " in " + step:                  broken(0),
		"let rec x = fst (x, " + step + ") in 1":                 broken(0),
		"let rec x = snd (" + step + ", x) in 1":                 short(0),
		"if " + step + " < 1 then " + byZero + " else " + byZero: short(0),
		"if " + byZero + " < 1 then " + step + " else " + step:   broken(0),
	}
	for _, sign := range []string{"+", "-", "*", "/", "<", "="} {
		runs[step+" "+sign+" ("+byZero+")"] = short(0)
		runs["("+byZero+") "+sign+" "+step] = broken(0)
	}
	runs[step+" / 0"] = short(0)
	holdRuns(t, 0, runs)
}

func TestRunBudget(t *testing.T) {
	const count = "let rec f = fun n -> if n = 0 then 0 else f (n - 1) in f "
	for _, c := range []struct {
		text   string
		budget int
		want   api.Outcome
	}{
		{"(fun x -> x) 1", math.MinInt, short(0)},
		{"(fun x -> x) 1", -1, short(0)},
		{"(fun x -> x) 1", 0, short(0)},
		{"(fun x -> x) 1", 1, done(1, "1")},
		{"(fun x -> x) 1", math.MaxInt, done(1, "1")},
		{"1 + 2", math.MinInt, done(0, "3")},
		{"fst (snd, 1) (1, 2)", -1, done(0, "2")},
		{"1 / 0", -1, broken(0)},
		{"(fun x -> x) 1 / 0", 0, short(0)},
		{"(fun x -> x) 1 / 0", 1, broken(1)},
		{count + "4", 4, short(4)},
		{count + "4", 5, done(5, "0")},
		{count + "2999", api.MaxSteps - 1, short(2999)},
		{count + "2999", api.MaxSteps, done(3000, "0")},
		{count + "2999", api.MaxSteps + 1, done(3000, "0")},
		{count + "3000", api.MaxSteps, short(3000)},
		{count + "3000", api.MaxSteps + 1, short(3000)},
		{count + "3000", math.MaxInt, short(3000)},
		{count + "2999 / 0", api.MaxSteps, broken(3000)},
		{count + "3000 / 0", api.MaxSteps, short(3000)},
	} {
		if got := open(t, c.text).Run(c.budget); got != c.want {
			t.Errorf("Run(%d) of %q = %+v, want %+v", c.budget, c.text, got, c.want)
		}
	}
}

func TestMaxValue(t *testing.T) {
	head := "let x=12345678 in " + strings.Repeat("let x=(x,x)in ", 5)
	if got := open(t, head+"(x,99999999*99999999)").Run(0); len(got.Shown) != api.MaxValue || !strings.HasSuffix(got.Shown, "12345678))))), 9999999800000001)") {
		t.Errorf("a value of %d bytes: %+v", len(got.Shown), got)
	}
	holdRuns(t, 0, outcomes{
		head + "(x,0-99999999*99999999)": done(0, "..."),
		head + "fst(1,(x,x))":            done(0, "1"),
	})
}

// Written out, these values have more parts than any machine could count.
func TestGreatValues(t *testing.T) {
	double := "let p=fun x->(x,x)in let q=fun x->p(p(p(p(p x))))in let r=fun x->q(q(q(q(q x))))in "
	holdRuns(t, api.MaxSteps, outcomes{
		double + "r(r(r 1))":        done(93, "..."),
		double + "fst(1,r(r(r 1)))": done(93, "1"),
	})
}

func TestRunChangesNothing(t *testing.T) {
	for _, text := range []string{
		"let id = fun x -> x in (id 3, id true)",
		"let rec f = fun n -> if n < 1 then 0 else n + f (n - 1) in (f 4, f)",
		"let rec f = fun n -> f (n + 1) in f 0",
		"let rec x = (fun y -> x) 1 in 2",
		"(fun x -> 1 / x) 0",
	} {
		x := open(t, text)
		tell := func() string { return fmt.Sprint(x.Source(), x.Type(), x.Binders()) }
		told, first := tell(), x.Run(api.MaxSteps)
		x.Run(1)
		x.Run(-1)
		if again := x.Run(api.MaxSteps); again != first {
			t.Errorf("%q: a second Run tells %+v, the first %+v", text, again, first)
		}
		if tell() != told {
			t.Errorf("%q: %s behind Run, %s ahead", text, tell(), told)
		}
	}
}

// Each step of these goes as deep as a text can.
func TestRunLong(t *testing.T) {
	for _, text := range []string{
		"let rec f=fun n->f n" + strings.Repeat("-1", 130) + " in f 1",
		"let rec f=fun n->" + strings.Repeat("1+1*(", 38) + "f n" + strings.Repeat(")", 38) + " in f 1",
		"let rec f=fun n->" + strings.Repeat("(", 38) + "f n" + strings.Repeat("-1)", 38) + strings.Repeat("*1", 37) + " in f 1",
		"let rec f=fun n->" + strings.Repeat("fst(", 38) + "f n" + strings.Repeat(",1)", 38) + " in f 1",
		"let rec f=fun n->" + strings.Repeat("let x=", 24) + "f n" + strings.Repeat(" in 1", 24) + " in f 1",
		"let rec f = fun n -> f (n + 1) in f 0",
		"let rec f = fun n -> f n + f n in f 0",
	} {
		holdRuns(t, math.MaxInt, outcomes{text: short(api.MaxSteps)})
	}
}
