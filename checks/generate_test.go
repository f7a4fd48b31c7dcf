// Package checks holds the program against second opinions, on many texts that are made up here: the same ones each time.
package checks

import (
	"math/rand"
	"strings"

	"tailor/parse"
	"tailor/tree"
	"tailor/words"
)

// maker makes texts up: of few names, so that they often bind the same one.
type maker struct {
	*rand.Rand
}

func newMaker(seed int64) maker { return maker{rand.New(rand.NewSource(seed))} }

func (m maker) pick(of ...string) string { return of[m.Intn(len(of))] }

// text is a text that keeps to the grammar, with nothing but single blanks between its tokens.
func (m maker) text(size int) string { return strings.Join(m.expr(size, nil), " ") }

func (m maker) expr(size int, names []string) []string {
	if size <= 0 {
		return m.sum(0, names)
	}
	switch m.Intn(8) {
	case 0, 1:
		return m.let(size, names)
	case 2, 3:
		name := m.pick("x", "y", "z")
		return join("fun", name, "->", m.expr(size-1, with(names, name)))
	case 4:
		return join("if", m.expr(size/3, names), "then", m.expr(size/3, names), "else", m.expr(size/3, names))
	case 5:
		return join(m.sum(size/2, names), m.pick("<", "="), m.sum(size/2, names))
	}
	return m.sum(size, names)
}

func (m maker) let(size int, names []string) []string {
	name := m.pick("x", "y", "f")
	if m.Intn(3) == 0 {
		names = with(names, name)
		return join("let", "rec", name, "=", m.expr(size/2, names), "in", m.expr(size/2, names))
	}
	return join("let", name, "=", m.expr(size/2, names), "in", m.expr(size/2, with(names, name)))
}

func (m maker) sum(size int, names []string) []string {
	switch {
	case size <= 0 || m.Intn(3) > 0:
		return m.call(size, names)
	case m.Intn(2) == 0:
		return join(m.sum(size/2, names), m.pick("+", "-", "*", "/"), m.call(size/2, names))
	}
	return join(m.call(size/3, names), "+", m.call(size/3, names), "*", m.call(size/3, names))
}

func (m maker) call(size int, names []string) []string {
	if size <= 0 || m.Intn(2) == 0 {
		return m.atom(size, names)
	}
	return join(m.call(size/2, names), m.atom(size/2, names))
}

func (m maker) atom(size int, names []string) []string {
	if size <= 0 {
		if len(names) > 0 && m.Intn(5) > 0 {
			return join(names[m.Intn(len(names))])
		}
		return join(m.pick("1", "27", "true", "fst", "snd"))
	}
	if m.Intn(3) == 0 {
		return join("(", m.expr(size/2, names), ",", m.expr(size/2, names), ")")
	}
	return join("(", m.expr(size-1, names), ")")
}

// soup is some tokens, in no order.
func (m maker) soup(length int) string {
	var tokens []string
	for range length {
		tokens = append(tokens, m.pick("x", "y", "1", "let", "rec", "in", "fun", "if", "then", "else", "true", "fst", "->", "=", "(", ")", ",", "+", "*", "<"))
	}
	return strings.Join(tokens, " ")
}

// spoil puts a token of a text out, in, or in the place of another one.
func (m maker) spoil(text string) string {
	tokens := strings.Fields(text)
	at := m.Intn(len(tokens))
	rest := append([]string{}, tokens[at+m.Intn(2):]...)
	if m.Intn(2) == 0 {
		rest = append([]string{m.soup(1)}, rest...)
	}
	return strings.Join(append(tokens[:at], rest...), " ")
}

func with(names []string, name string) []string {
	return append(append([]string{}, names...), name)
}

func join(parts ...any) []string {
	var all []string
	for _, part := range parts {
		switch part := part.(type) {
		case string:
			all = append(all, part)
		case []string:
			all = append(all, part...)
		}
	}
	return all
}

func read(text string) (tree.Node, int, bool) {
	tokens, at, ok := words.Split(text)
	if !ok {
		return nil, at, false
	}
	return parse.Text(text, tokens)
}
