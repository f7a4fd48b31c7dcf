package alter

import (
	"tailor/api"
	"tailor/tree"
	"tailor/words"
)

// Rename gives the text, whose tree is root, with the name in the places of the binder at this place and of its uses; or NoTarget, BadName or Captured.
func Rename(text string, root tree.Node, at int, name string) (string, api.Kind) {
	n := target(root, at)
	switch {
	case n == nil:
		return "", api.NoTarget
	case !words.IsName(name):
		return "", api.BadName
	case nameCaptured(n, name):
		return "", api.Captured
	}
	binder := tree.BinderOf(n)
	changes := []change{{binder.Span(), name}}
	for use := range tree.Uses(n, binder) {
		changes = append(changes, change{use.Span, name})
	}
	return changed(text, changes), api.Fine
}

// nameCaptured tells whether n's binder, with this name, would bind a name that another one binds now, or a use of it would be bound within.
func nameCaptured(n tree.Node, name string) bool {
	old := tree.BinderOf(n).Name
	if name == old {
		return false
	}
	for _, part := range tree.Reach(n) {
		for free, bound := range tree.Free(part) {
			if free.Text == name || free.Text == old && binds(bound, name) {
				return true
			}
		}
	}
	return false
}
