// Package tailor: texts of a small language, altered without altering what they mean: see DOC.md.
package tailor

import (
	"tailor/alter"
	"tailor/api"
	"tailor/parse"
	"tailor/run"
	"tailor/tree"
	"tailor/types"
	"tailor/words"
)

// Text is a text that was opened.
type Text struct {
	source string
	root   tree.Node
}

// Open opens a text (P2).
func Open(text string) (*Text, api.Kind, int) {
	if len(text) > api.MaxText {
		return nil, api.Long, 0
	}
	source := string([]byte(text)) // a copy: what is handed in is not kept
	root, kind, at := read(source)
	if kind != api.Fine {
		return nil, kind, at
	}
	return &Text{source: source, root: root}, api.Fine, 0
}

// read gives the tree of a text that is not too long, or the first of its faults and the fault's place.
func read(text string) (tree.Node, api.Kind, int) {
	tokens, at, ok := words.Split(text)
	if !ok {
		return nil, api.Token, at
	}
	root, at, ok := parse.Text(text, tokens)
	if !ok {
		return nil, api.Form, at
	}
	for name, binder := range tree.Names(root) {
		if binder == nil {
			return nil, api.Unbound, name.From
		}
	}
	if tree.Weight(root) > api.MaxWeight {
		return nil, api.Heavy, 0
	}
	if _, ok := types.Of(root); !ok {
		return nil, api.Types, 0
	}
	return root, api.Fine, 0
}

// Source tells its bytes (P2).
func (t *Text) Source() string { return t.source }

// Type tells its type (P3).
func (t *Text) Type() string {
	shown, _ := types.Of(t.root)
	return shown
}

// Binders tells its binders (P4).
func (t *Text) Binders() []api.Binder {
	var binders []api.Binder
	for b := range tree.Binders(t.root) {
		var uses []int
		for name := range tree.Uses(t.root, b) {
			uses = append(uses, name.From)
		}
		binders = append(binders, api.Binder{Name: b.Name, At: b.At, Uses: uses})
	}
	return binders
}

// Run runs it (P5).
func (t *Text) Run(steps int) api.Outcome {
	return run.Text(t.root, min(max(steps, 0), api.MaxSteps))
}

// Rename gives a binder another name (P6).
func (t *Text) Rename(at int, name string) api.Kind {
	return t.become(alter.Rename(t.source, t.root, at, name))
}

// Inline puts a definition in the places of its uses (P6).
func (t *Text) Inline(at int) api.Kind {
	return t.become(alter.Inline(t.source, t.root, at))
}

// become changes the text to the one that a request has made, unless the request is refused. The faults that are left to a request are told in the order in which Open tells them.
func (t *Text) become(source string, kind api.Kind) api.Kind {
	if kind != api.Fine {
		return kind
	}
	anew, kind, _ := Open(source)
	if kind == api.Fine {
		*t = *anew
	}
	return kind
}
