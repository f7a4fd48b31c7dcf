package run

import (
	"strconv"

	"tailor/api"
	"tailor/brief"
	"tailor/tree"
)

// value is what an expr comes to: of one of the sorts below.
type value interface {
	isValue()
}

type number int64

type truth bool

type pair struct {
	left, right value
}

// function is a `fun`, and what the names around it are.
type function struct {
	fun   *tree.Fun
	names *names
}

// side is fst, or snd if it is second.
type side struct {
	second bool
}

func (number) isValue()    {}
func (truth) isValue()     {}
func (*pair) isValue()     {}
func (*function) isValue() {}
func (side) isValue()      {}

// show stops at MaxValue: values share their parts, and one may have more of them than could be gone through.
func show(v value) string {
	w := brief.NewWriter(api.MaxValue)
	write(w, v)
	return w.Told()
}

func write(w *brief.Writer, v value) {
	if w.Full() {
		return
	}
	switch v := v.(type) {
	case number:
		w.Put(strconv.FormatInt(int64(v), 10))
	case truth:
		w.Put(strconv.FormatBool(bool(v)))
	case *pair:
		w.Put("(")
		write(w, v.left)
		w.Put(", ")
		write(w, v.right)
		w.Put(")")
	case *function, side:
		w.Put("fun")
	}
}
