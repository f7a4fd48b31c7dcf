package alter

import (
	"tailor/api"
	"tailor/tree"
	"tailor/words"
)

// Inline gives the text, whose tree is root, with the definition of the `let` whose binder is at this place put in the places of its uses; or NoTarget, NotValue or Captured.
func Inline(text string, root tree.Node, at int) (string, api.Kind) {
	let, ok := target(root, at).(*tree.Let)
	switch {
	case !ok || let.Rec:
		return "", api.NoTarget
	case !isValue(root, let.Def):
		return "", api.NotValue
	case definitionCaptured(let):
		return "", api.Captured
	}
	// the `let` ends where its body ends: only what stands ahead of the body goes
	ahead := tree.Span{From: let.From, To: let.Body.Place().From}
	changes := []change{{ahead, ""}}
	for use := range tree.Uses(let, &let.Bound) {
		changes = append(changes, change{use.Span, inPlaceOf(use, let.Def, text)})
	}
	return changed(text, changes), api.Fine
}

// isValue tells whether n, a definition in the tree or a part of one, is a VALUE.
func isValue(root, n tree.Node) bool {
	switch n := n.(type) {
	case *tree.Name:
		return !inOwnDefinition(root, n)
	case *tree.Int, *tree.Truth, *tree.Side, *tree.Fun:
		return true
	case *tree.Pair:
		return isValue(root, n.Left) && isValue(root, n.Right)
	case *tree.Bracket:
		return isValue(root, n.Inner)
	}
	return false
}

// inOwnDefinition tells whether the name stands in the definition of the `let rec` that binds it: a run may come to it there ahead of its value.
func inOwnDefinition(root tree.Node, name *tree.Name) bool {
	for n := range tree.Nodes(root) {
		let, ok := n.(*tree.Let)
		if ok && let.Rec && let.Def.Place().Holds(name.From) && isUse(name, let) {
			return true
		}
	}
	return false
}

func isUse(name *tree.Name, of *tree.Let) bool {
	for use := range tree.Uses(of, &of.Bound) {
		if use == name {
			return true
		}
	}
	return false
}

// definitionCaptured tells whether a name that the definition does not bind itself would be bound within the body at the place of a use.
func definitionCaptured(let *tree.Let) bool {
	for use, bound := range tree.Free(let.Body) {
		if use.Text == let.Bound.Name && bindsFreeOf(let.Def, bound) {
			return true
		}
	}
	return false
}

func bindsFreeOf(def tree.Node, bound tree.Bound) bool {
	for name := range tree.Free(def) {
		if binds(bound, name.Text) {
			return true
		}
	}
	return false
}

// inPlaceOf is the definition as it stands in the place of a use.
func inPlaceOf(use *tree.Name, def tree.Node, text string) string {
	span := def.Place()
	shown := text[span.From:span.To]
	if needsBrackets(use, def, text) {
		return "(" + shown + ")"
	}
	return shown
}

// needsBrackets is asked of values only: of those a `fun` alone is neither one token nor in brackets of its own.
func needsBrackets(use *tree.Name, def tree.Node, text string) bool {
	switch def.(type) {
	case *tree.Fun:
		return true
	case *tree.Int:
		return words.IsDigit(text[use.From-1])
	}
	return false
}
