package checks

import "fmt"

// bound is a name that stands around a place, and its type there.
type bound struct {
	name string
	typ  *typ
}

func (m maker) typ(size int) *typ {
	switch {
	case size > 0 && m.Intn(4) == 0:
		return made("->", m.typ(size-1), m.typ(size-1))
	case size > 0 && m.Intn(4) == 0:
		return made("*", m.typ(size-1), m.typ(size-1))
	case m.Intn(3) == 0:
		return boolTyp
	}
	return intTyp
}

func same(a, b *typ) bool {
	return a.word == b.word && (a.left == nil || same(a.left, b.left) && same(a.right, b.right))
}

// typed is a text that has this type, among others, where these names stand around it.
func (m maker) typed(want *typ, size int, names []bound) string {
	if size <= 0 {
		return m.small(want, names)
	}
	part := func(of *typ) string { return "(" + m.typed(of, size/2, names) + ")" }
	switch m.Intn(12) {
	case 0, 1:
		def, name := m.typ(2), m.pick("x", "y", "f")
		return fmt.Sprintf("let %s = %s in %s", name, m.typed(def, size/2, names), m.typed(want, size/2, around(names, name, def)))
	case 2:
		def, name := m.typ(2), m.pick("x", "y", "f")
		inside := around(names, name, def)
		return fmt.Sprintf("let rec %s = %s in %s", name, m.typed(def, size/2, inside), m.typed(want, size/2, inside))
	case 3, 4:
		return m.recursive(want, size, names)
	case 5, 6:
		from := m.typ(1)
		return part(made("->", from, want)) + " " + part(from)
	case 7:
		return fmt.Sprintf("if %s then %s else %s", part(boolTyp), part(want), part(want))
	case 8:
		if m.Intn(2) == 0 {
			return "fst " + part(made("*", want, m.typ(1)))
		}
		return "snd " + part(made("*", m.typ(1), want))
	}
	return m.built(want, size, names)
}

// recursive has a function that calls itself and is likely to end.
func (m maker) recursive(want *typ, size int, names []bound) string {
	to := m.typ(1)
	behindIn := around(names, "f", made("->", intTyp, to))
	inside := around(behindIn, "n", intTyp)
	last := m.typed(to, size/3, inside)
	next := m.typed(to, size/3, around(inside, "y", to))
	rest := m.typed(want, size/3, around(behindIn, "y", to))
	return fmt.Sprintf("let rec f = fun n -> if n < %d then %s else let y = f (n - 1) in %s in let y = f %d in %s", m.Intn(3), last, next, m.Intn(12), rest)
}

// built is made of parts, by what its type is.
func (m maker) built(want *typ, size int, names []bound) string {
	part := func(of *typ) string { return "(" + m.typed(of, size/2, names) + ")" }
	switch want.word {
	case "int":
		return part(intTyp) + m.pick(" + ", " - ", " * ", " / ") + part(intTyp)
	case "bool":
		return part(intTyp) + m.pick(" < ", " = ") + part(intTyp)
	case "*":
		return fmt.Sprintf("(%s, %s)", m.typed(want.left, size/2, names), m.typed(want.right, size/2, names))
	}
	name := m.pick("x", "y", "n")
	return fmt.Sprintf("fun %s -> %s", name, m.typed(want.right, size-1, around(names, name, want.left)))
}

// small is a name, if there is one of this type.
func (m maker) small(want *typ, names []bound) string {
	seen := map[string]bool{}
	for at := len(names) - 1; at >= 0; at-- {
		b := names[at]
		if !seen[b.name] && same(b.typ, want) && m.Intn(4) > 0 {
			return b.name
		}
		seen[b.name] = true
	}
	switch want.word {
	case "int":
		return m.pick("0", "1", "2", "3", "999999999")
	case "bool":
		return m.pick("true", "false")
	case "->":
		if side := sideOf(want); side != "" {
			return side
		}
		return m.built(want, 1, names)
	}
	return m.built(want, 0, names)
}

func sideOf(want *typ) string {
	switch {
	case want.left.word != "*":
		return ""
	case same(want.left.left, want.right):
		return "fst"
	case same(want.left.right, want.right):
		return "snd"
	}
	return ""
}

func around(names []bound, name string, of *typ) []bound {
	return append(append([]bound{}, names...), bound{name, of})
}
