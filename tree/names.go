package tree

import (
	"iter"

	"tailor/scope"
)

// Bound is what binds names at a place.
type Bound = *scope.Scope[*Binder]

// Nodes yields the nodes of the tree, each one ahead of its parts, by places.
func Nodes(root Node) iter.Seq[Node] {
	return func(yield func(Node) bool) {
		eachNode(root, yield)
	}
}

// eachNode tells whether yield wants more.
func eachNode(n Node, yield func(Node) bool) bool {
	if !yield(n) {
		return false
	}
	for _, part := range parts(n) {
		if !eachNode(part, yield) {
			return false
		}
	}
	return true
}

// Binders yields the binders of the tree, by places.
func Binders(root Node) iter.Seq[*Binder] {
	return func(yield func(*Binder) bool) {
		for n := range Nodes(root) {
			if b := BinderOf(n); b != nil && !yield(b) {
				return
			}
		}
	}
}

// BinderOf is the binder that n itself has, nil if it has none.
func BinderOf(n Node) *Binder {
	switch n := n.(type) {
	case *Fun:
		return &n.Bound
	case *Let:
		return &n.Bound
	}
	return nil
}

// Reach is the parts of n in which n's own binder binds.
func Reach(n Node) []Node {
	switch n := n.(type) {
	case *Fun:
		return []Node{n.Body}
	case *Let:
		if n.Rec {
			return []Node{n.Def, n.Body}
		}
		return []Node{n.Body}
	}
	return nil
}

// Names yields each name that stands as an expr, by places, with its binder: nil if nothing binds it.
func Names(root Node) iter.Seq2[*Name, *Binder] {
	return func(yield func(*Name, *Binder) bool) {
		eachName(root, nil, func(name *Name, bound Bound) bool {
			binder, _ := bound.Find(name.Text)
			return yield(name, binder)
		})
	}
}

// Free yields each name in the part that nothing in it binds, by places, with what the part binds there.
func Free(part Node) iter.Seq2[*Name, Bound] {
	return func(yield func(*Name, Bound) bool) {
		eachName(part, nil, func(name *Name, bound Bound) bool {
			_, within := bound.Find(name.Text)
			return within || yield(name, bound)
		})
	}
}

// eachName tells whether yield wants more.
func eachName(n Node, bound Bound, yield func(*Name, Bound) bool) bool {
	switch n := n.(type) {
	case *Name:
		return yield(n, bound)
	case *Fun:
		return eachName(n.Body, bound.With(n.Bound.Name, &n.Bound), yield)
	case *Let:
		behindIn := bound.With(n.Bound.Name, &n.Bound)
		inDef := bound
		if n.Rec {
			inDef = behindIn
		}
		return eachName(n.Def, inDef, yield) && eachName(n.Body, behindIn, yield)
	}
	for _, part := range parts(n) {
		if !eachName(part, bound, yield) {
			return false
		}
	}
	return true
}

// Uses yields the names of the tree that this binder of it binds, by places.
func Uses(root Node, binder *Binder) iter.Seq[*Name] {
	return func(yield func(*Name) bool) {
		for name, by := range Names(root) {
			if by == binder && !yield(name) {
				return
			}
		}
	}
}
