// Package parse makes the tree of a text out of its tokens.
package parse

import (
	"strconv"

	"tailor/api"
	"tailor/tree"
	"tailor/words"
)

// parser goes through the tokens once. When a token cannot stand where it stands, the parser is stuck: from then on it sees the End only, so that every part of it comes to its end, and what it makes is thrown away.
type parser struct {
	text   string
	tokens []words.Token
	next   int
	depth  int // how many of `let`, `fun`, `if` and `(` have begun and not ended
	stuck  bool
	fault  int // the place of the token at which it is stuck
}

// Text gives the tree of the text that was split into these tokens; or the place of the first token that cannot stand where it stands, or stands too deep, and false.
func Text(text string, tokens []words.Token) (tree.Node, int, bool) {
	p := &parser{text: text, tokens: tokens}
	root := p.expr()
	p.take(words.End)
	if p.stuck {
		return nil, p.fault, false
	}
	return root, 0, true
}

func (p *parser) token() words.Token {
	if p.stuck {
		return p.tokens[len(p.tokens)-1]
	}
	return p.tokens[p.next]
}

func (p *parser) fail() {
	if !p.stuck {
		p.fault = p.token().From
		p.stuck = true
	}
}

// take goes past a token that must be of this sort.
func (p *parser) take(sort words.Sort) words.Token {
	t := p.token()
	switch {
	case t.Sort != sort:
		p.fail()
	case sort != words.End:
		p.next++
	}
	return t
}

// takeAny goes past a token if it is of one of these sorts, and tells which one it was: End, if it is of none.
func (p *parser) takeAny(sorts ...words.Sort) words.Sort {
	for _, sort := range sorts {
		if p.token().Sort == sort {
			return p.take(sort).Sort
		}
	}
	return words.End
}

// begin goes past a token that counts for the depth until end is called; it gives the token's place.
func (p *parser) begin(sort words.Sort) int {
	if p.depth == api.MaxDepth {
		p.fail()
	}
	p.depth++
	return p.take(sort).From
}

func (p *parser) end() { p.depth-- }

func (p *parser) expr() tree.Node {
	switch p.token().Sort {
	case words.Let:
		return p.let()
	case words.Fun:
		return p.function()
	case words.If:
		return p.choice()
	}
	return p.comparison()
}

func (p *parser) let() tree.Node {
	from := p.begin(words.Let)
	defer p.end()
	n := &tree.Let{Rec: p.takeAny(words.Rec) == words.Rec}
	n.Bound = p.binder()
	p.take(words.Equal)
	n.Def = p.expr()
	p.take(words.In)
	n.Body = p.expr()
	n.Span = through(from, n.Body)
	return n
}

func (p *parser) function() tree.Node {
	from := p.begin(words.Fun)
	defer p.end()
	n := &tree.Fun{Bound: p.binder()}
	p.take(words.Arrow)
	n.Body = p.expr()
	n.Span = through(from, n.Body)
	return n
}

func (p *parser) choice() tree.Node {
	from := p.begin(words.If)
	defer p.end()
	n := &tree.If{Truth: p.expr()}
	p.take(words.Then)
	n.Then = p.expr()
	p.take(words.Else)
	n.Else = p.expr()
	n.Span = through(from, n.Else)
	return n
}

func (p *parser) binder() tree.Binder {
	t := p.take(words.Name)
	return tree.Binder{Name: p.text[t.From:t.To], At: t.From}
}

func (p *parser) comparison() tree.Node {
	left := p.sum()
	if sign := p.takeAny(words.Less, words.Equal); sign != words.End {
		return binary(sign, left, p.sum())
	}
	return left
}

func (p *parser) sum() tree.Node { return p.chain(p.term, words.Plus, words.Minus) }

func (p *parser) term() tree.Node { return p.chain(p.call, words.Times, words.Over) }

// chain is parts with these signs between them: all but the last part are one expr.
func (p *parser) chain(part func() tree.Node, signs ...words.Sort) tree.Node {
	left := part()
	for {
		sign := p.takeAny(signs...)
		if sign == words.End {
			return left
		}
		left = binary(sign, left, part())
	}
}

func (p *parser) call() tree.Node {
	left := p.atom()
	for beginsAtom(p.token().Sort) {
		right := p.atom()
		left = &tree.Call{Span: through(left.Place().From, right), Func: left, Arg: right}
	}
	return left
}

func beginsAtom(sort words.Sort) bool {
	switch sort {
	case words.Name, words.Int, words.True, words.False, words.Fst, words.Snd, words.Open:
		return true
	}
	return false
}

func (p *parser) atom() tree.Node {
	t := p.token()
	if t.Sort == words.Open {
		return p.bracket()
	}
	if !beginsAtom(t.Sort) {
		p.fail()
		return &tree.Name{}
	}
	p.take(t.Sort)
	span := tree.Span{From: t.From, To: t.To}
	switch t.Sort {
	case words.Int:
		return &tree.Int{Span: span, Value: value(p.text[t.From:t.To])}
	case words.True, words.False:
		return &tree.Truth{Span: span, Value: t.Sort == words.True}
	case words.Fst, words.Snd:
		return &tree.Side{Span: span, Second: t.Sort == words.Snd}
	}
	return &tree.Name{Span: span, Text: p.text[t.From:t.To]}
}

// value never meets an error: an INT has nine digits at the most.
func value(digits string) int64 {
	v, _ := strconv.ParseInt(digits, 10, 64)
	return v
}

func (p *parser) bracket() tree.Node {
	from := p.begin(words.Open)
	defer p.end()
	first := p.expr()
	if p.takeAny(words.Comma) == words.Comma {
		second := p.expr()
		span := tree.Span{From: from, To: p.take(words.Close).To}
		return &tree.Pair{Span: span, Left: first, Right: second}
	}
	return &tree.Bracket{Span: tree.Span{From: from, To: p.take(words.Close).To}, Inner: first}
}

func binary(sign words.Sort, left, right tree.Node) tree.Node {
	return &tree.Binary{Span: through(left.Place().From, right), Sign: sign, Left: left, Right: right}
}

// through is the span from a place to the end of an expr.
func through(from int, last tree.Node) tree.Span {
	return tree.Span{From: from, To: last.Place().To}
}
