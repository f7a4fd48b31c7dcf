package types

import (
	"slices"
	"strconv"

	"tailor/api"
)

const (
	tooLong = "..."
	letters = 26
)

// writer shows a type. It stops once there are too many bytes, so that it ends soon whatever the type's size.
type writer struct {
	solver    *solver
	shown     []byte
	variables []ref // those that have come, in their order
}

func (s *solver) show(r ref) string {
	w := &writer{solver: s}
	w.write(r)
	if w.full() {
		return tooLong
	}
	return string(w.shown)
}

func (w *writer) full() bool { return len(w.shown) > api.MaxShown }

func (w *writer) write(r ref) {
	if w.full() {
		return
	}
	r = w.solver.find(r)
	whole := w.solver.shapes[r]
	switch whole.sort {
	case variable:
		w.put(variableName(w.number(r)))
	case integer:
		w.put("int")
	case truth:
		w.put("bool")
	case function:
		w.part(whole.left, w.sortOf(whole.left) == function)
		w.put(" -> ")
		w.write(whole.right)
	case pair:
		w.part(whole.left, w.made(whole.left))
		w.put(" * ")
		w.part(whole.right, w.made(whole.right))
	}
}

func (w *writer) part(r ref, brackets bool) {
	if !brackets {
		w.write(r)
		return
	}
	w.put("(")
	w.write(r)
	w.put(")")
}

func (w *writer) put(bytes string) { w.shown = append(w.shown, bytes...) }

func (w *writer) sortOf(r ref) sort { return w.solver.shapes[w.solver.find(r)].sort }

func (w *writer) made(r ref) bool { return w.solver.shapes[w.solver.find(r)].made() }

// number of a variable, in the order in which they come.
func (w *writer) number(r ref) int {
	if i := slices.Index(w.variables, r); i >= 0 {
		return i
	}
	w.variables = append(w.variables, r)
	return len(w.variables) - 1
}

func variableName(number int) string {
	name := "'" + string(rune('a'+number%letters))
	if round := number / letters; round > 0 {
		name += strconv.Itoa(round)
	}
	return name
}
