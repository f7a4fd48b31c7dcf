// Package alter makes the texts that requests ask for, or refuses them. Whether such a text is too long, too deep or too heavy is not looked at here.
package alter

import (
	"strings"

	"tailor/tree"
)

// change: the bytes of the span are to be replaced.
type change struct {
	tree.Span
	by string
}

// changed is the text with its changes, which are given by places.
func changed(text string, changes []change) string {
	var all strings.Builder
	done := 0
	for _, c := range changes {
		all.WriteString(text[done:c.From])
		all.WriteString(c.by)
		done = c.To
	}
	all.WriteString(text[done:])
	return all.String()
}

// target is the node whose binder has the place within its bytes, nil if there is none.
func target(root tree.Node, at int) tree.Node {
	for n := range tree.Nodes(root) {
		if b := tree.BinderOf(n); b != nil && b.Span().Holds(at) {
			return n
		}
	}
	return nil
}

func binds(bound tree.Bound, name string) bool {
	_, ok := bound.Find(name)
	return ok
}
