package types

import (
	"slices"
	"strconv"

	"tailor/api"
	"tailor/brief"
)

const letters = 26

// writer shows a type.
type writer struct {
	*brief.Writer
	solver    *solver
	variables []ref // those that have come, in their order
}

func (s *solver) show(r ref) string {
	w := &writer{Writer: brief.NewWriter(api.MaxShown), solver: s}
	w.write(r)
	return w.Told()
}

// write stops at MaxShown: types share their parts, and one may have more of them than could be gone through.
func (w *writer) write(r ref) {
	if w.Full() {
		return
	}
	r = w.solver.find(r)
	whole := w.solver.shapes[r]
	switch whole.sort {
	case variable:
		w.Put(variableName(w.number(r)))
	case integer:
		w.Put("int")
	case truth:
		w.Put("bool")
	case function:
		w.part(whole.left, w.sortOf(whole.left) == function)
		w.Put(" -> ")
		w.write(whole.right)
	case pair:
		w.part(whole.left, w.made(whole.left))
		w.Put(" * ")
		w.part(whole.right, w.made(whole.right))
	}
}

func (w *writer) part(r ref, brackets bool) {
	if !brackets {
		w.write(r)
		return
	}
	w.Put("(")
	w.write(r)
	w.Put(")")
}

func (w *writer) sortOf(r ref) sort { return w.solver.shapes[w.solver.find(r)].sort }

func (w *writer) made(r ref) bool { return w.solver.shapes[w.solver.find(r)].made() }

// number of a variable, in the order in which they come.
func (w *writer) number(r ref) int {
	if i := slices.Index(w.variables, r); i >= 0 {
		return i
	}
	w.variables = append(w.variables, r)
	return len(w.variables) - 1
}

func variableName(number int) string {
	name := "'" + string(rune('a'+number%letters))
	if round := number / letters; round > 0 {
		name += strconv.Itoa(round)
	}
	return name
}
