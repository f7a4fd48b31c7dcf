// Package run runs the tree of a text.
package run

import (
	"tailor/api"
	"tailor/scope"
	"tailor/tree"
	"tailor/words"
)

// slot holds what a name stands for: nil, while the definition of its `let rec` is run.
type slot struct {
	held value
}

type names = scope.Scope[*slot]

// runner is a run under way.
type runner struct {
	budget, steps int
	end           int // how the run has ended, if it ended without a value
}

// Text runs a tree that has a type, with a budget of steps that is not below 0.
func Text(root tree.Node, budget int) api.Outcome {
	r := &runner{budget: budget}
	v := r.eval(root, nil)
	if v == nil {
		return api.Outcome{Kind: r.end, Steps: r.steps}
	}
	return api.Outcome{Kind: api.Done, Steps: r.steps, Shown: show(v)}
}

// eval gives the value of n, or nil if the run has ended: then nothing more may be run. It calls itself no deeper than MaxSteps bodies are, one within the other; Go's stack has room for that.
func (r *runner) eval(n tree.Node, around *names) value {
	switch n := n.(type) {
	case *tree.Name:
		return r.name(n, around)
	case *tree.Int:
		return number(n.Value)
	case *tree.Truth:
		return truth(n.Value)
	case *tree.Side:
		return side{second: n.Second}
	case *tree.Bracket:
		return r.eval(n.Inner, around)
	case *tree.Pair:
		return r.pair(n, around)
	case *tree.Call:
		return r.call(n, around)
	case *tree.Binary:
		return r.binary(n, around)
	case *tree.If:
		return r.choice(n, around)
	case *tree.Fun:
		return &function{fun: n, names: around}
	case *tree.Let:
		return r.let(n, around)
	}
	return nil
}

func (r *runner) fault() value {
	r.end = api.Fault
	return nil
}

func (r *runner) name(n *tree.Name, around *names) value {
	s, _ := around.Find(n.Text)
	if s.held == nil {
		return r.fault()
	}
	return s.held
}

// both gives the values of two parts, the left one first, or false if the run has ended.
func (r *runner) both(left, right tree.Node, around *names) (value, value, bool) {
	first := r.eval(left, around)
	if first == nil {
		return nil, nil, false
	}
	second := r.eval(right, around)
	return first, second, second != nil
}

func (r *runner) pair(n *tree.Pair, around *names) value {
	left, right, ok := r.both(n.Left, n.Right, around)
	if !ok {
		return nil
	}
	return &pair{left: left, right: right}
}

func (r *runner) call(n *tree.Call, around *names) value {
	f, arg, ok := r.both(n.Func, n.Arg, around)
	if !ok {
		return nil
	}
	return r.apply(f, arg)
}

func (r *runner) apply(f, arg value) value {
	switch f := f.(type) {
	case *function:
		if r.steps == r.budget {
			r.end = api.Steps
			return nil
		}
		r.steps++
		return r.eval(f.fun.Body, f.names.With(f.fun.Bound.Name, &slot{held: arg}))
	case side:
		return part(arg, f)
	}
	return nil
}

func part(of value, s side) value {
	p, ok := of.(*pair)
	switch {
	case !ok:
		return nil
	case s.second:
		return p.right
	}
	return p.left
}

func (r *runner) binary(n *tree.Binary, around *names) value {
	left, right, ok := r.both(n.Left, n.Right, around)
	if !ok {
		return nil
	}
	a, _ := left.(number)
	b, _ := right.(number)
	return r.reckon(n.Sign, a, b)
}

func (r *runner) reckon(sign words.Sort, left, right number) value {
	switch sign {
	case words.Plus:
		return left + right
	case words.Minus:
		return left - right
	case words.Times:
		return left * right
	case words.Less:
		return truth(left < right)
	case words.Equal:
		return truth(left == right)
	}
	if right == 0 {
		return r.fault()
	}
	return left / right
}

func (r *runner) choice(n *tree.If, around *names) value {
	holds := r.eval(n.Truth, around)
	switch holds {
	case nil:
		return nil
	case truth(true):
		return r.eval(n.Then, around)
	}
	return r.eval(n.Else, around)
}

func (r *runner) let(n *tree.Let, around *names) value {
	own := &slot{}
	behindIn := around.With(n.Bound.Name, own)
	inDef := around
	if n.Rec {
		inDef = behindIn
	}
	def := r.eval(n.Def, inDef)
	if def == nil {
		return nil
	}
	own.held = def
	return r.eval(n.Body, behindIn)
}
