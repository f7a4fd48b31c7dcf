package checks

import (
	"fmt"
	"testing"

	"tailor/api"
	"tailor/scope"
	"tailor/tree"
	"tailor/types"
	"tailor/words"
)

// typ is a type, written out: `int`, `bool`, `->`, `*`, or the variable of a number.
type typ struct {
	word        string
	left, right *typ
	number      int
}

// scheme: a type that is anew at each place in the variables of free.
type scheme struct {
	body *typ
	free map[int]bool
}

type schemes = *scope.Scope[scheme]

// second is a second opinion on types: it gives definitions the most general scheme, where the program looks at them anew at each use.
type second struct {
	known map[int]*typ
	count int
}

var intTyp, boolTyp = &typ{word: "int"}, &typ{word: "bool"}

func made(word string, left, right *typ) *typ { return &typ{word: word, left: left, right: right} }

func (s *second) fresh() *typ {
	s.count++
	return &typ{word: "variable", number: s.count}
}

// whole is the type with all that is known put in.
func (s *second) whole(t *typ) *typ {
	if t.left != nil {
		return made(t.word, s.whole(t.left), s.whole(t.right))
	}
	if to := s.known[t.number]; to != nil && t.word == "variable" {
		return s.whole(to)
	}
	return t
}

func variables(t *typ, into map[int]bool) map[int]bool {
	if t.left != nil {
		variables(t.left, into)
		variables(t.right, into)
	} else if t.word == "variable" {
		into[t.number] = true
	}
	return into
}

type noTypes struct{}

// same panics with noTypes where two types cannot be the same.
func (s *second) same(a, b *typ) {
	a, b = s.whole(a), s.whole(b)
	switch {
	case a.word == "variable" && b.word == "variable" && a.number == b.number:
	case a.word == "variable":
		if variables(b, map[int]bool{})[a.number] {
			panic(noTypes{})
		}
		s.known[a.number] = b
	case b.word == "variable":
		s.same(b, a)
	case a.word != b.word:
		panic(noTypes{})
	case a.left != nil:
		s.same(a.left, b.left)
		s.same(a.right, b.right)
	}
}

// general gives a definition's type its scheme; fixed are the types that names around it have.
func (s *second) general(t *typ, fixed []*typ) scheme {
	body := s.whole(t)
	free := variables(body, map[int]bool{})
	for _, f := range fixed {
		for number := range variables(s.whole(f), map[int]bool{}) {
			delete(free, number)
		}
	}
	return scheme{body, free}
}

func (s *second) anew(c scheme) *typ {
	fresh := map[int]*typ{}
	var copied func(t *typ) *typ
	copied = func(t *typ) *typ {
		switch {
		case t.left != nil:
			return made(t.word, copied(t.left), copied(t.right))
		case t.word == "variable" && c.free[t.number]:
			if fresh[t.number] == nil {
				fresh[t.number] = s.fresh()
			}
			return fresh[t.number]
		}
		return t
	}
	return copied(c.body)
}

func (s *second) of(n tree.Node, names schemes, fixed []*typ) *typ {
	in := func(n tree.Node) *typ { return s.of(n, names, fixed) }
	switch n := n.(type) {
	case *tree.Name:
		c, _ := names.Find(n.Text)
		return s.anew(c)
	case *tree.Int:
		return intTyp
	case *tree.Truth:
		return boolTyp
	case *tree.Side:
		a, b := s.fresh(), s.fresh()
		if n.Second {
			return made("->", made("*", a, b), b)
		}
		return made("->", made("*", a, b), a)
	case *tree.Bracket:
		return in(n.Inner)
	case *tree.Pair:
		return made("*", in(n.Left), in(n.Right))
	case *tree.Call:
		to := s.fresh()
		s.same(in(n.Func), made("->", in(n.Arg), to))
		return to
	case *tree.Binary:
		s.same(in(n.Left), intTyp)
		s.same(in(n.Right), intTyp)
		if n.Sign == words.Less || n.Sign == words.Equal {
			return boolTyp
		}
		return intTyp
	case *tree.If:
		s.same(in(n.Truth), boolTyp)
		whole := in(n.Then)
		s.same(in(n.Else), whole)
		return whole
	case *tree.Fun:
		from := s.fresh()
		return made("->", from, s.of(n.Body, names.With(n.Bound.Name, scheme{body: from}), append(fixed[:len(fixed):len(fixed)], from)))
	case *tree.Let:
		return s.let(n, names, fixed)
	}
	panic("a node of no sort")
}

func (s *second) let(n *tree.Let, names schemes, fixed []*typ) *typ {
	inDef, fixedInDef := names, fixed
	own := s.fresh()
	if n.Rec {
		inDef = names.With(n.Bound.Name, scheme{body: own})
		fixedInDef = append(fixed[:len(fixed):len(fixed)], own)
	}
	s.same(own, s.of(n.Def, inDef, fixedInDef))
	return s.of(n.Body, names.With(n.Bound.Name, s.general(own, fixed)), fixed)
}

func shown(t *typ, order map[int]int) string {
	part := func(t *typ, brackets bool) string {
		if brackets {
			return "(" + shown(t, order) + ")"
		}
		return shown(t, order)
	}
	switch t.word {
	case "variable":
		if _, ok := order[t.number]; !ok {
			order[t.number] = len(order)
		}
		name := fmt.Sprintf("'%c%d", 'a'+order[t.number]%26, order[t.number]/26)
		if order[t.number] < 26 {
			return name[:2]
		}
		return name
	case "->":
		left := part(t.left, t.left.word == "->")
		return left + " -> " + shown(t.right, order)
	case "*":
		left := part(t.left, t.left.left != nil)
		return left + " * " + part(t.right, t.right.left != nil)
	}
	return t.word
}

func secondOpinion(root tree.Node) (told string, ok bool) {
	defer func() {
		if r := recover(); r != nil {
			if _, none := r.(noTypes); !none {
				panic(r)
			}
			told, ok = "", false
		}
	}()
	s := &second{known: map[int]*typ{}}
	told = shown(s.whole(s.of(root, nil, nil)), map[int]int{})
	if len(told) > api.MaxShown {
		told = "..."
	}
	return told, true
}

func TestTypesBySecondOpinion(t *testing.T) {
	m := newMaker(2)
	typed, none := 0, 0
	for n := range 30000 {
		text := m.text(n % 15)
		root, _, ok := read(text)
		if !ok || tree.Weight(root) > api.MaxWeight {
			continue
		}
		got, ok := types.Of(root)
		want, wantOK := secondOpinion(root)
		if got != want || ok != wantOK {
			t.Fatalf("%q: %q, %v; by the second opinion %q, %v", text, got, ok, want, wantOK)
		}
		if ok {
			typed++
		} else {
			none++
		}
	}
	if typed < 3000 || none < 3000 {
		t.Errorf("%d texts with types, %d without: too few of a kind", typed, none)
	}
}
