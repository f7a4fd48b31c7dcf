// Package scope: what names stand for at a place of a text.
package scope

// Scope is what stands around a place: the innermost name first. A nil one is empty. It is never changed, so parts of a text may share the outer names.
type Scope[V any] struct {
	name  string
	value V
	outer *Scope[V]
}

// With is the scope in which name stands for value, and all other names for what they stood for.
func (s *Scope[V]) With(name string, value V) *Scope[V] {
	return &Scope[V]{name: name, value: value, outer: s}
}

// Find tells what the name stands for, if something binds it.
func (s *Scope[V]) Find(name string) (V, bool) {
	for ; s != nil; s = s.outer {
		if s.name == name {
			return s.value, true
		}
	}
	var none V
	return none, false
}
