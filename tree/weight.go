package tree

import (
	"tailor/api"
	"tailor/scope"
)

// tooHeavy stands for all weights above MaxWeight: weights may double with every definition, and must not wrap round.
const tooHeavy = api.MaxWeight + 1

// Weight is what the tree weighs, of which every name is bound; MaxWeight and 1, if it weighs more than MaxWeight.
func Weight(root Node) int { return weight(root, nil) }

// weight is what n weighs where names weigh what the scope says.
func weight(n Node, names *scope.Scope[int]) int {
	total := 1
	switch n := n.(type) {
	case *Name:
		total, _ = names.Find(n.Text)
	case *Fun:
		total += weight(n.Body, names.With(n.Bound.Name, 1))
	case *Let:
		inDef := names
		if n.Rec {
			inDef = names.With(n.Bound.Name, 1)
		}
		def := weight(n.Def, inDef)
		total += def + weight(n.Body, names.With(n.Bound.Name, def))
	default:
		for _, part := range parts(n) {
			total += weight(part, names)
		}
	}
	return min(total, tooHeavy)
}
