// Package tree: the nodes of a text, what binds its names, and its weight.
package tree

import "tailor/words"

// Node is an expr of a text: one of the sorts below.
type Node interface {
	Place() Span
}

// Span is the bytes of an expr in its text, from its first token to its last one: from From on, To is behind them.
type Span struct {
	From, To int
}

// Place tells where the expr stands.
func (s Span) Place() Span { return s }

// Holds tells whether the place is within these bytes.
func (s Span) Holds(at int) bool { return s.From <= at && at < s.To }

// Binder is the name behind `let`, `rec` or `fun`, and its place.
type Binder struct {
	Name string
	At   int
}

// Span is the binder's bytes.
func (b *Binder) Span() Span { return Span{From: b.At, To: b.At + len(b.Name)} }

// Name is a name that stands as an expr.
type Name struct {
	Span
	Text string
}

// Int is an INT.
type Int struct {
	Span
	Value int64
}

// Truth is `true` or `false`.
type Truth struct {
	Span
	Value bool
}

// Side is `fst`, or `snd` if it is Second.
type Side struct {
	Span
	Second bool
}

// Bracket is one expr in brackets.
type Bracket struct {
	Span
	Inner Node
}

// Pair is `(Left, Right)`.
type Pair struct {
	Span
	Left, Right Node
}

// Call is Func applied to Arg.
type Call struct {
	Span
	Func, Arg Node
}

// Binary is Left and Right with one of + - * / < = between them.
type Binary struct {
	Span
	Sign        words.Sort
	Left, Right Node
}

// If is `if Truth then Then else Else`.
type If struct {
	Span
	Truth, Then, Else Node
}

// Fun is `fun Bound -> Body`.
type Fun struct {
	Span
	Bound Binder
	Body  Node
}

// Let is `let Bound = Def in Body`, or `let rec`.
type Let struct {
	Span
	Rec       bool
	Bound     Binder
	Def, Body Node
}

// parts are the exprs that an expr is put together of, by places.
func parts(n Node) []Node {
	switch n := n.(type) {
	case *Bracket:
		return []Node{n.Inner}
	case *Pair:
		return []Node{n.Left, n.Right}
	case *Call:
		return []Node{n.Func, n.Arg}
	case *Binary:
		return []Node{n.Left, n.Right}
	case *If:
		return []Node{n.Truth, n.Then, n.Else}
	case *Fun:
		return []Node{n.Body}
	case *Let:
		return []Node{n.Def, n.Body}
	}
	return nil
}
