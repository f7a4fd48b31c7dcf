package checks

import (
	"fmt"
	"regexp"
	"slices"
	"strings"
	"testing"

	"tailor/api"
	"tailor/tailor"
	"tailor/tree"
	"tailor/words"
)

// gaps puts other gaps between the tokens of a text: none, too, where the tokens stay the same.
func (m maker) gaps(text string) string {
	tokens := strings.Fields(text)
	all := m.pick("", " ", "{}")
	for at, token := range tokens {
		all += token
		if at+1 == len(tokens) {
			break
		}
		gap := m.pick("", "", "", "", "", "", "", " ", "\n", "{x}")
		if split, _, ok := words.Split(token + gap + tokens[at+1]); !ok || len(split) != 3 || split[0].To != len(token) {
			gap = " "
		}
		all += gap
	}
	return all + m.pick("", " ", "{}")
}

// layers is a text of definitions that mostly are values, within one another; it has a type, whatever its names are.
func (m maker) layers(size int, names []string) string {
	name := m.pick("x", "y", "f", "ab")
	inner := with(names, name)
	if size <= 0 {
		return m.tuple(3, names)
	}
	switch m.Intn(12) {
	case 0, 1:
		return fmt.Sprintf("fun %s -> %s", name, m.layers(size-1, inner))
	case 2:
		return fmt.Sprintf("( %s , %s )", m.layers(size/2, names), m.layers(size/2, names))
	case 3:
		return fmt.Sprintf("let rec %s = fun n -> fst ( 1 , %s ) in %s", name, m.layers(size/2, with(inner, "n")), m.layers(size/2, inner))
	case 4:
		return fmt.Sprintf("if true then %s else let rec %s = fun n -> %s n in %s 1", m.layers(size-1, names), name, name, name)
	case 5:
		return fmt.Sprintf("let %s = fst ( 1 , 2 ) in %s", name, m.layers(size-1, inner))
	}
	return fmt.Sprintf("let %s = %s in %s", name, m.value(size/4, names), m.layers(size-1, inner))
}

func (m maker) value(size int, names []string) string {
	switch m.Intn(7) {
	case 0:
		return fmt.Sprintf("( %s )", m.value(size-1, names))
	case 1:
		return fmt.Sprintf("( %s , %s )", m.value(size-1, names), m.value(size-1, names))
	case 2:
		name := m.pick("x", "y", "z")
		return fmt.Sprintf("fun %s -> %s", name, m.layers(size/2, with(names, name)))
	case 3:
		return m.pick("1", "27", "true", "fst", "snd")
	}
	return m.tuple(0, names)
}

// tuple is some names, of those that stand around.
func (m maker) tuple(size int, names []string) string {
	if len(names) == 0 {
		return "1"
	}
	name := names[m.Intn(len(names))]
	switch m.Intn(4) {
	case 0:
		return name
	case 1:
		return fmt.Sprintf("( fun a -> fun b -> a ) 1 %s", name)
	}
	if size == 0 {
		return name
	}
	return fmt.Sprintf("( %s , %s )", name, m.tuple(size-1, names))
}

// spaced sets a blank between all tokens of a text.
func spaced(text string) string {
	tokens, _, _ := words.Split(text)
	var all []string
	for _, token := range tokens {
		all = append(all, text[token.From:token.To])
	}
	return strings.Join(all, " ")
}

// meant is the tree as a term, in which binders are numbered by their places, from 1 on.
func meant(root tree.Node) *term { return new(rewriter).term(root, nil) }

// pairing: two binders that stand in the same place of two terms.
type pairing struct{ a, b int64 }

// alike tells whether two terms differ in nothing but the numbers of their binders: each name has the same binder.
func alike(a, b *term, around []pairing) bool {
	if a.word != b.word || len(a.parts) != len(b.parts) {
		return false
	}
	inner := around
	switch a.word {
	case "name":
		return last(around, func(p pairing) bool { return p.a == a.number }) == last(around, func(p pairing) bool { return p.b == b.number })
	case "fun", "let", "rec":
		inner = append(around[:len(around):len(around)], pairing{a.number, b.number})
	default:
		if a.number != b.number {
			return false
		}
	}
	for at := range a.parts {
		here := inner
		if a.word == "let" && at == 0 {
			here = around
		}
		if !alike(a.parts[at], b.parts[at], here) {
			return false
		}
	}
	return true
}

func last(of []pairing, such func(pairing) bool) int {
	for at := len(of) - 1; at >= 0; at-- {
		if such(of[at]) {
			return at
		}
	}
	return -1
}

// binderAt is the number of the binder at a place, from 1 on; 0, if there is none: by the tokens alone.
func binderAt(text string, at int) (number int, behind words.Sort) {
	tokens, _, _ := words.Split(text)
	count := 0
	for n := 1; n < len(tokens); n++ {
		ahead := tokens[n-1].Sort
		if tokens[n].Sort != words.Name || ahead != words.Let && ahead != words.Rec && ahead != words.Fun {
			continue
		}
		count++
		if tokens[n].From <= at && at < tokens[n].To {
			return count, ahead
		}
	}
	return 0, words.End
}

var nameShape = regexp.MustCompile(`^[a-z][a-z0-9]{0,5}$`)

const keywords = " let rec in fun if then else true false fst snd "

// replaced is the text with others in the places of the spans, which must be given by places.
func replaced(text string, spans []tree.Span, by func(tree.Span) string) string {
	for _, span := range slices.Backward(spans) {
		text = text[:span.From] + by(span) + text[span.To:]
	}
	return text
}

// renameWanted is a second opinion on Rename: whether a name is captured is seen by what the new text means.
func renameWanted(x *tailor.Text, at int, name string) (api.Kind, string) {
	text := x.Source()
	number, _ := binderAt(text, at)
	if number == 0 {
		return api.NoTarget, ""
	}
	if !nameShape.MatchString(name) || strings.Contains(keywords, " "+name+" ") {
		return api.BadName, ""
	}
	b := x.Binders()[number-1]
	var spans []tree.Span
	for _, at := range append([]int{b.At}, b.Uses...) {
		spans = append(spans, tree.Span{From: at, To: at + len(b.Name)})
	}
	anew := replaced(text, spans, func(tree.Span) string { return name })
	before, _, _ := read(text)
	after, _, _ := read(anew)
	switch {
	case !alike(meant(before), meant(after), nil):
		return api.Captured, ""
	case len(anew) > api.MaxText:
		return api.Long, ""
	}
	return api.Fine, anew
}

// contract is the term with the definition of the `let` of this number put in the places of its name; the definition comes out too, and the numbers of all `let rec` in whose definitions it stands.
func contract(t *term, number int64, inside []int64) (whole, def *term, recs []int64) {
	if t.word == "let" && t.number == number {
		return new(rewriter).put(t.parts[1], number, t.parts[0]), t.parts[0], inside
	}
	anew := &term{word: t.word, number: t.number, parts: slices.Clone(t.parts)}
	for at, part := range t.parts {
		here := inside
		if t.word == "rec" && at == 0 {
			here = append(inside[:len(inside):len(inside)], t.number)
		}
		if whole, def, recs := contract(part, number, here); def != nil {
			anew.parts[at] = whole
			return anew, def, recs
		}
	}
	return nil, nil, nil
}

func valueTerm(t *term, recs []int64) bool {
	switch t.word {
	case "name":
		return !slices.Contains(recs, t.number)
	case "int", "true", "false", "fst", "snd", "fun":
		return true
	case "pair":
		return valueTerm(t.parts[0], recs) && valueTerm(t.parts[1], recs)
	}
	return false
}

// dressed is a definition as it is put in the place of a use, by its tokens.
func dressed(def string, behindDigit bool) string {
	tokens, _, _ := words.Split(def)
	tokens = tokens[:len(tokens)-1]
	if len(tokens) == 1 && !(tokens[0].Sort == words.Int && behindDigit) || closedBy(tokens) == len(tokens)-1 {
		return def
	}
	return "(" + def + ")"
}

// closedBy is the number of the token that ends the bracket with which the tokens begin; -1, if they begin with none.
func closedBy(tokens []words.Token) int {
	open := 0
	for n, token := range tokens {
		switch token.Sort {
		case words.Open:
			open++
		case words.Close:
			if open--; open == 0 {
				return n
			}
		}
		if open == 0 {
			break
		}
	}
	return -1
}

// inlineText is the text with the definition of a `let` put in, whatever comes of it.
func inlineText(text string, let *tree.Let, uses []int) string {
	def := text[let.Def.Place().From:let.Def.Place().To]
	spans := []tree.Span{{From: let.From, To: let.Body.Place().From}}
	for _, at := range uses {
		spans = append(spans, tree.Span{From: at, To: at + len(let.Bound.Name)})
	}
	return replaced(text, spans, func(span tree.Span) string {
		if span.From == let.From {
			return ""
		}
		return dressed(def, strings.Contains("0123456789", text[span.From-1:span.From]))
	})
}

func letAt(root tree.Node, at int) *tree.Let {
	for n := range tree.Nodes(root) {
		if let, ok := n.(*tree.Let); ok && let.Bound.At == at {
			return let
		}
	}
	return nil
}

// inlineWanted is a second opinion on Inline: whether a name is captured is seen by what the new text means. If that text is too deep to be read, Form is told.
func inlineWanted(x *tailor.Text, at int) (api.Kind, string) {
	text := x.Source()
	number, behind := binderAt(text, at)
	if behind != words.Let {
		return api.NoTarget, ""
	}
	before, _, _ := read(text)
	want, def, recs := contract(meant(before), int64(number), nil)
	if !valueTerm(def, recs) {
		return api.NotValue, ""
	}
	b := x.Binders()[number-1]
	anew := inlineText(text, letAt(before, b.At), b.Uses)
	after, _, ok := read(anew)
	switch {
	case !ok:
		return api.Form, ""
	case !alike(want, meant(after), nil):
		return api.Captured, ""
	case len(anew) > api.MaxText:
		return api.Long, ""
	case tree.Weight(after) > api.MaxWeight:
		return api.Heavy, ""
	}
	return api.Fine, anew
}

// typeOf is a text's type, held against what the text tells.
func typeOf(t *testing.T, x *tailor.Text) *typ {
	t.Helper()
	root, _, _ := read(x.Source())
	s := &second{known: map[int]*typ{}}
	whole := s.whole(s.of(root, nil, nil))
	if told := shown(whole, map[int]int{}); told != x.Type() && x.Type() != "..." {
		t.Fatalf("Type() of %q = %q; by the second opinion %q", x.Source(), x.Type(), told)
	}
	return whole
}

// fits tells whether special comes of general by putting types for variables.
func fits(general, special *typ, put map[int]*typ) bool {
	if general.word == "variable" {
		if put[general.number] == nil {
			put[general.number] = special
		}
		return equal(put[general.number], special)
	}
	return general.word == special.word && (general.left == nil || fits(general.left, special.left, put) && fits(general.right, special.right, put))
}

func equal(a, b *typ) bool { return shown(a, byNumber(a, b)) == shown(b, byNumber(a, b)) }

// byNumber shows variables by their numbers, not by where they come first.
func byNumber(of ...*typ) map[int]int {
	order := map[int]int{}
	for _, t := range of {
		for number := range variables(t, map[int]bool{}) {
			order[number] = number
		}
	}
	return order
}

// story is a text to which requests are made, and what the runs of it tell.
type story struct {
	t    *testing.T
	x    *tailor.Text
	runs string
	seen map[string]int
}

func (s *story) tellRuns() string {
	told := ""
	for _, budget := range []int{0, 1, 2, 7, 40, api.MaxSteps} {
		told += fmt.Sprintln(s.x.Run(budget))
	}
	return told
}

func (s *story) tell() string {
	return fmt.Sprint(s.x.Source(), s.x.Type(), s.x.Binders(), s.tellRuns())
}

// hold makes a request and holds what comes of it against what is wanted, and against what is promised.
func (s *story) hold(what string, ask func() api.Kind, kind api.Kind, want string) {
	s.t.Helper()
	text, told, was := s.x.Source(), s.tell(), typeOf(s.t, s.x)
	got := ask()
	s.seen[fmt.Sprint(strings.Split(what, "(")[0], got)]++
	if got != kind {
		s.t.Fatalf("%s of %q = %d, want %d", what, text, got, kind)
	}
	if kind != api.Fine {
		if s.tell() != told {
			s.t.Fatalf("%s of %q, refused, has changed it: %s", what, text, s.tell())
		}
		return
	}
	if s.x.Source() != want || s.tellRuns() != s.runs {
		s.t.Fatalf("%s of %q: %s want %q %s", what, text, s.tell(), want, s.runs)
	}
	y, again, _ := tailor.Open(want)
	if again != api.Fine || (&story{x: y}).tell() != s.tell() {
		s.t.Fatalf("%s of %q: Open(%q) = %d", what, text, want, again)
	}
	is := typeOf(s.t, s.x)
	if !fits(is, was, map[int]*typ{}) || strings.HasPrefix(what, "Rename") && !fits(was, is, map[int]*typ{}) {
		s.t.Fatalf("%s of %q: a type %s, was %s", what, text, shown(is, map[int]int{}), shown(was, map[int]int{}))
	}
}

func (s *story) rename(at int, name string) {
	s.t.Helper()
	kind, want := renameWanted(s.x, at, name)
	s.hold(fmt.Sprintf("Rename(%d, %q)", at, name), func() api.Kind { return s.x.Rename(at, name) }, kind, want)
}

func (s *story) inline(at int) {
	s.t.Helper()
	kind, want := inlineWanted(s.x, at)
	s.hold(fmt.Sprintf("Inline(%d)", at), func() api.Kind { return s.x.Inline(at) }, kind, want)
}

// back renames a binder to a name that stands nowhere, and back.
func (s *story) back(b api.Binder) {
	s.t.Helper()
	text := s.x.Source()
	if s.x.Rename(b.At, "q") != api.Fine || s.x.Rename(b.At, b.Name) != api.Fine || s.x.Source() != text {
		s.t.Fatalf("%q: %s at %d to q and back: %q", text, b.Name, b.At, s.x.Source())
	}
}

// place is mostly one within a binder, and within one that has such bytes ahead of it if there are some.
func (m maker) place(x *tailor.Text, ahead string) int {
	text := x.Source()
	all := x.Binders()
	some := slices.DeleteFunc(slices.Clone(all), func(b api.Binder) bool { return !strings.HasSuffix(spaced(text[:b.At]), ahead) })
	if len(some) > 0 && m.Intn(10) > 0 {
		all = some
	}
	if len(all) == 0 || m.Intn(20) == 0 {
		return m.Intn(len(text)+4) - 2
	}
	b := all[m.Intn(len(all))]
	return b.At + m.Intn(len(b.Name))
}

// cut is a text to make requests to; some have so many blanks behind them that a few bytes more are too many.
func (m maker) cut(n int) string {
	text := m.layers(3+n%8, nil)
	if n%3 == 0 {
		text = m.typed(m.typ(2), 4+n%10, nil)
	}
	text = m.gaps(spaced(text))
	if n%4 == 0 {
		text += strings.Repeat(" ", max(0, api.MaxText-len(text)-m.Intn(4)))
	}
	return text
}

func TestRequestsBySecondOpinion(t *testing.T) {
	m := newMaker(5)
	seen := map[string]int{}
	for n := range 3000 {
		x, kind, _ := tailor.Open(m.cut(n))
		if kind != api.Fine {
			continue
		}
		s := &story{t: t, x: x, seen: seen}
		s.runs = s.tellRuns()
		for range 6 {
			switch m.Intn(3) {
			case 0:
				s.rename(m.place(x, ""), m.pick("x", "y", "f", "n", "z", "ab", "abcdef", "in", "", "Z", "abcdefg", "1x"))
			default:
				s.inline(m.place(x, "let "))
			}
			if binders := x.Binders(); len(binders) > 0 {
				s.back(binders[m.Intn(len(binders))])
			}
		}
	}
	for _, kind := range []api.Kind{api.Fine, api.NoTarget, api.BadName, api.Captured, api.Long} {
		if got := seen[fmt.Sprint("Rename", kind)]; got < 50 {
			t.Errorf("%d times Rename of kind %d: too few", got, kind)
		}
	}
	for _, kind := range []api.Kind{api.Fine, api.NoTarget, api.NotValue, api.Captured, api.Long} {
		if got := seen[fmt.Sprint("Inline", kind)]; got < 50 {
			t.Errorf("%d times Inline of kind %d: too few", got, kind)
		}
	}
}
