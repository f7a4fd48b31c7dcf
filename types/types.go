// Package types tells the most general type of a text.
package types

import (
	"tailor/scope"
	"tailor/tree"
	"tailor/words"
)

// meaning of a name: the one type that it has wherever it stands; or, if let is not nil, its definition, and what the names around that mean.
type meaning struct {
	fixed ref
	let   *tree.Let
	outer *meanings
}

type meanings = scope.Scope[meaning]

// Of gives the type of the tree as it is shown, or false if there is none. Every name must be bound; it takes time by the tree's weight.
func Of(root tree.Node) (string, bool) {
	s := newSolver()
	whole := s.infer(root, nil)
	if s.clash || s.endless() {
		return "", false
	}
	return s.show(whole), true
}

// infer gives the type of n, and lays down what must hold within n.
func (s *solver) infer(n tree.Node, names *meanings) ref {
	switch n := n.(type) {
	case *tree.Name:
		return s.name(n, names)
	case *tree.Truth:
		return boolType
	case *tree.Side:
		return s.side(n)
	case *tree.Bracket:
		return s.infer(n.Inner, names)
	case *tree.Pair:
		left := s.infer(n.Left, names)
		return s.add(pair, left, s.infer(n.Right, names))
	case *tree.Call:
		return s.call(n, names)
	case *tree.Binary:
		return s.binary(n, names)
	case *tree.If:
		return s.choice(n, names)
	case *tree.Fun:
		from := s.fresh()
		to := s.infer(n.Body, names.With(n.Bound.Name, meaning{fixed: from}))
		return s.add(function, from, to)
	case *tree.Let:
		s.definition(n, names)
		return s.infer(n.Body, names.With(n.Bound.Name, meaning{let: n, outer: names}))
	}
	return intType
}

// name infers a definition anew at each of its uses, as though it stood there. The weight of a text counts just these.
func (s *solver) name(n *tree.Name, names *meanings) ref {
	m, _ := names.Find(n.Text)
	if m.let == nil {
		return m.fixed
	}
	return s.definition(m.let, m.outer)
}

func (s *solver) definition(n *tree.Let, names *meanings) ref {
	if !n.Rec {
		return s.infer(n.Def, names)
	}
	own := s.fresh()
	s.unify(own, s.infer(n.Def, names.With(n.Bound.Name, meaning{fixed: own})))
	return own
}

func (s *solver) side(n *tree.Side) ref {
	first, second := s.fresh(), s.fresh()
	to := first
	if n.Second {
		to = second
	}
	return s.add(function, s.add(pair, first, second), to)
}

func (s *solver) call(n *tree.Call, names *meanings) ref {
	f := s.infer(n.Func, names)
	arg := s.infer(n.Arg, names)
	to := s.fresh()
	s.unify(f, s.add(function, arg, to))
	return to
}

func (s *solver) binary(n *tree.Binary, names *meanings) ref {
	s.unify(s.infer(n.Left, names), intType)
	s.unify(s.infer(n.Right, names), intType)
	if n.Sign == words.Less || n.Sign == words.Equal {
		return boolType
	}
	return intType
}

func (s *solver) choice(n *tree.If, names *meanings) ref {
	s.unify(s.infer(n.Truth, names), boolType)
	whole := s.infer(n.Then, names)
	s.unify(whole, s.infer(n.Else, names))
	return whole
}
