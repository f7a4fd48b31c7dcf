package tree

import (
	"iter"

	"tailor/scope"
)

type bindings = *scope.Scope[*Binder]

// Binders yields the binders of the tree, by places.
func Binders(root Node) iter.Seq[*Binder] {
	return func(yield func(*Binder) bool) {
		eachBinder(root, yield)
	}
}

// eachBinder tells whether yield wants more.
func eachBinder(n Node, yield func(*Binder) bool) bool {
	if b := binderOf(n); b != nil && !yield(b) {
		return false
	}
	for _, part := range parts(n) {
		if !eachBinder(part, yield) {
			return false
		}
	}
	return true
}

func binderOf(n Node) *Binder {
	switch n := n.(type) {
	case *Fun:
		return &n.Bound
	case *Let:
		return &n.Bound
	}
	return nil
}

// Names yields each name that stands as an expr, by places, with its binder: nil if nothing binds it.
func Names(root Node) iter.Seq2[*Name, *Binder] {
	return func(yield func(*Name, *Binder) bool) {
		eachName(root, nil, yield)
	}
}

// eachName tells whether yield wants more.
func eachName(n Node, bound bindings, yield func(*Name, *Binder) bool) bool {
	switch n := n.(type) {
	case *Name:
		binder, _ := bound.Find(n.Text)
		return yield(n, binder)
	case *Fun:
		return eachName(n.Body, bound.With(n.Bound.Name, &n.Bound), yield)
	case *Let:
		behindIn := bound.With(n.Bound.Name, &n.Bound)
		inDef := bound
		if n.Rec {
			inDef = behindIn
		}
		return eachName(n.Def, inDef, yield) && eachName(n.Body, behindIn, yield)
	}
	for _, part := range parts(n) {
		if !eachName(part, bound, yield) {
			return false
		}
	}
	return true
}

// Uses yields the names of the tree that this binder of it binds, by places.
func Uses(root Node, binder *Binder) iter.Seq[*Name] {
	return func(yield func(*Name) bool) {
		for name, by := range Names(root) {
			if by == binder && !yield(name) {
				return
			}
		}
	}
}
