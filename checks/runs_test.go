package checks

import (
	"fmt"
	"math"
	"math/big"
	"testing"

	"tailor/api"
	"tailor/scope"
	"tailor/tailor"
	"tailor/tree"
	"tailor/words"
)

// term is an expr, or a value, of which every binder has a number of its own. A `knot` is what the name of a `let rec` stands for once its definition is a value: the value, in which the name stands for the knot.
type term struct {
	word   string
	number int64 // the binder's, or a name's, or an INT
	parts  []*term
}

// rewriter is a second opinion on runs: it puts values in the places of names, where the program looks names up.
type rewriter struct {
	numbers, budget, steps, work int64
}

// ended is how a run has ended; tooMuch is no outcome: the rewriting would take too long.
type ended int

const tooMuch ended = -1

func (r *rewriter) number() int64 {
	r.numbers++
	return r.numbers
}

func (r *rewriter) toil() {
	if r.work++; r.work > 30000 {
		panic(tooMuch)
	}
}

func (r *rewriter) term(n tree.Node, names *scope.Scope[int64]) *term {
	in := func(parts ...tree.Node) []*term {
		var all []*term
		for _, part := range parts {
			all = append(all, r.term(part, names))
		}
		return all
	}
	switch n := n.(type) {
	case *tree.Name:
		number, _ := names.Find(n.Text)
		return &term{word: "name", number: number}
	case *tree.Int:
		return &term{word: "int", number: n.Value}
	case *tree.Truth:
		return truthTerm(n.Value)
	case *tree.Side:
		if n.Second {
			return &term{word: "snd"}
		}
		return &term{word: "fst"}
	case *tree.Bracket:
		return r.term(n.Inner, names)
	case *tree.Pair:
		return &term{word: "pair", parts: in(n.Left, n.Right)}
	case *tree.Call:
		return &term{word: "call", parts: in(n.Func, n.Arg)}
	case *tree.Binary:
		return &term{word: "binary", number: int64(n.Sign), parts: in(n.Left, n.Right)}
	case *tree.If:
		return &term{word: "if", parts: in(n.Truth, n.Then, n.Else)}
	case *tree.Fun:
		number := r.number()
		return &term{word: "fun", number: number, parts: []*term{r.term(n.Body, names.With(n.Bound.Name, number))}}
	case *tree.Let:
		number := r.number()
		behindIn := names.With(n.Bound.Name, number)
		if n.Rec {
			return &term{word: "rec", number: number, parts: []*term{r.term(n.Def, behindIn), r.term(n.Body, behindIn)}}
		}
		return &term{word: "let", number: number, parts: []*term{r.term(n.Def, names), r.term(n.Body, behindIn)}}
	}
	panic("a node of no sort")
}

func truthTerm(holds bool) *term { return &term{word: fmt.Sprint(holds)} }

// put is t with the value in the places of the name.
func (r *rewriter) put(t *term, name int64, value *term) *term {
	r.toil()
	if t.word == "name" && t.number == name {
		return value
	}
	bindsItAnew := t.number == name && (t.word == "fun" || t.word == "let" || t.word == "rec" || t.word == "knot")
	anew := &term{word: t.word, number: t.number}
	for at, part := range t.parts {
		if !bindsItAnew || t.word == "let" && at == 0 {
			part = r.put(part, name, value)
		}
		anew.parts = append(anew.parts, part)
	}
	return anew
}

// value panics with how the run has ended, if it has.
func (r *rewriter) value(t *term) *term {
	r.toil()
	switch t.word {
	case "name":
		panic(ended(api.Fault))
	case "pair":
		left := r.value(t.parts[0])
		return &term{word: "pair", parts: []*term{left, r.value(t.parts[1])}}
	case "call":
		f := r.value(t.parts[0])
		return r.apply(f, r.value(t.parts[1]))
	case "binary":
		left := r.value(t.parts[0])
		return reckon(words.Sort(t.number), left.number, r.value(t.parts[1]).number)
	case "if":
		if r.value(t.parts[0]).word == "true" {
			return r.value(t.parts[1])
		}
		return r.value(t.parts[2])
	case "let":
		return r.value(r.put(t.parts[1], t.number, r.value(t.parts[0])))
	case "rec":
		own := &term{word: "name", number: r.number()}
		def := r.value(r.put(t.parts[0], t.number, own))
		return r.value(r.put(t.parts[1], t.number, &term{word: "knot", number: own.number, parts: []*term{def}}))
	case "knot":
		return r.put(t.parts[0], t.number, t)
	}
	return t
}

func (r *rewriter) apply(f, arg *term) *term {
	switch f.word {
	case "fst":
		return arg.parts[0]
	case "snd":
		return arg.parts[1]
	}
	if r.steps >= r.budget {
		panic(ended(api.Steps))
	}
	r.steps++
	return r.value(r.put(f.parts[0], f.number, arg))
}

// reckon reckons without bounds, and cuts the answer down to 64 bits.
func reckon(sign words.Sort, left, right int64) *term {
	a, b, whole := big.NewInt(left), big.NewInt(right), new(big.Int)
	switch sign {
	case words.Less:
		return truthTerm(a.Cmp(b) < 0)
	case words.Equal:
		return truthTerm(a.Cmp(b) == 0)
	case words.Plus:
		whole.Add(a, b)
	case words.Minus:
		whole.Sub(a, b)
	case words.Times:
		whole.Mul(a, b)
	case words.Over:
		if right == 0 {
			panic(ended(api.Fault))
		}
		whole.Quo(a, b)
	}
	low := new(big.Int).And(whole, new(big.Int).SetUint64(math.MaxUint64))
	return &term{word: "int", number: int64(low.Uint64())}
}

func (r *rewriter) shown(t *term) string {
	r.toil()
	switch t.word {
	case "int":
		return fmt.Sprint(t.number)
	case "pair":
		return fmt.Sprintf("(%s, %s)", r.shown(t.parts[0]), r.shown(t.parts[1]))
	case "true", "false":
		return t.word
	}
	return "fun"
}

// rewritten is how a run ends by rewriting; false, if that would take too long.
func rewritten(root tree.Node, budget int) (told api.Outcome, ok bool) {
	r := &rewriter{budget: int64(budget)}
	defer func() {
		switch end := recover().(type) {
		case nil:
		case ended:
			told, ok = api.Outcome{Kind: int(end), Steps: int(r.steps)}, end != tooMuch
		default:
			panic(end)
		}
	}()
	shown := r.shown(r.value(r.term(root, nil)))
	if len(shown) > api.MaxValue {
		shown = "..."
	}
	return api.Outcome{Kind: api.Done, Steps: int(r.steps), Shown: shown}, true
}

func TestRunsByRewriting(t *testing.T) {
	m := newMaker(4)
	seen := map[int]int{}
	far := 0
	for n := range 20000 {
		text := m.typed(m.typ(2), n%24, nil)
		x, kind, _ := tailor.Open(text)
		if kind == api.Long || kind == api.Form || kind == api.Heavy {
			continue
		}
		if kind != api.Fine {
			t.Fatalf("Open(%q) = %d", text, kind)
		}
		root, _, _ := read(text)
		for _, budget := range []int{0, m.Intn(20), api.MaxSteps} {
			want, ok := rewritten(root, budget)
			if !ok {
				continue
			}
			if got := x.Run(budget); got != want {
				t.Fatalf("Run(%d) of %q = %+v; by rewriting %+v", budget, text, got, want)
			}
			seen[want.Kind]++
			if want.Steps > 5 {
				far++
			}
		}
	}
	if seen[api.Done] < 1000 || seen[api.Fault] < 1000 || seen[api.Steps] < 1000 || far < 1000 {
		t.Errorf("runs by their outcomes: %v, long ones: %d: too few of a kind", seen, far)
	}
}
