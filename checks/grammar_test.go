package checks

import (
	"strings"
	"testing"

	"tailor/words"
)

// The document's grammar, a line a rule; what has no rule is a token.
const rules = `expr let name = expr in expr
expr let rec name = expr in expr
expr fun name -> expr
expr if expr then expr else expr
expr sum
expr sum < sum
expr sum = sum
sum term
sum sum + term
sum sum - term
term call
term term * call
term term / call
call atom
call call atom
atom name
atom int
atom true
atom false
atom fst
atom snd
atom ( expr )
atom ( expr , expr )`

// item: how far a rule has come that began ahead of a token.
type item struct {
	rule, done, began int
}

// grammar finds out, by Earley's way, how far tokens keep to the rules.
type grammar struct {
	rules [][]string
	heads map[string]bool
}

func newGrammar() grammar {
	g := grammar{heads: map[string]bool{}}
	for line := range strings.SplitSeq("text expr\n"+rules, "\n") {
		rule := strings.Fields(line)
		g.rules = append(g.rules, rule)
		g.heads[rule[0]] = true
	}
	return g
}

// next is what the item waits for; empty, if its rule is whole.
func (g grammar) next(i item) string {
	if rule := g.rules[i.rule][1:]; i.done < len(rule) {
		return rule[i.done]
	}
	return ""
}

// close adds to the last of sets all that follows from it.
func (g grammar) close(sets [][]item) []item {
	here := len(sets) - 1
	seen := map[item]bool{}
	var all []item
	add := func(i item) {
		if !seen[i] {
			seen[i] = true
			all = append(all, i)
		}
	}
	for _, i := range sets[here] {
		add(i)
	}
	for at := 0; at < len(all); at++ {
		i := all[at]
		switch next := g.next(i); {
		case next == "":
			for _, outer := range sets[i.began] {
				if g.next(outer) == g.rules[i.rule][0] {
					add(item{outer.rule, outer.done + 1, outer.began})
				}
			}
		case g.heads[next]:
			for r, rule := range g.rules {
				if rule[0] == next {
					add(item{r, 0, here})
				}
			}
		}
	}
	return all
}

// fault is the number of the first token that cannot stand where it stands: as many as there are, if they end too early; -1, if nothing is wrong.
func (g grammar) fault(sorts []string) int {
	sets := [][]item{{{0, 0, 0}}}
	sets[0] = g.close(sets)
	for n, sort := range sorts {
		var next []item
		for _, i := range sets[n] {
			if g.next(i) == sort {
				next = append(next, item{i.rule, i.done + 1, i.began})
			}
		}
		if len(next) == 0 {
			return n
		}
		sets = append(sets, next)
		sets[n+1] = g.close(sets)
	}
	for _, i := range sets[len(sorts)] {
		if i.rule == 0 && i.done == 1 {
			return -1
		}
	}
	return len(sorts)
}

func sortsOf(text string, tokens []words.Token) []string {
	var sorts []string
	for _, token := range tokens[:len(tokens)-1] {
		switch token.Sort {
		case words.Name:
			sorts = append(sorts, "name")
		case words.Int:
			sorts = append(sorts, "int")
		default:
			sorts = append(sorts, text[token.From:token.To])
		}
	}
	return sorts
}

func TestGrammar(t *testing.T) {
	g, m := newGrammar(), newMaker(1)
	good, bad := 0, 0
	for n := range 20000 {
		text := m.text(n % 13)
		switch n % 3 {
		case 1:
			text = m.spoil(text)
		case 2:
			text = m.soup(n % 7)
		}
		tokens, _, _ := words.Split(text)
		_, at, ok := read(text)
		want := g.fault(sortsOf(text, tokens))
		if ok != (want < 0) || !ok && at != tokens[want].From {
			t.Fatalf("%q: place %d, %v; by the rules token %d", text, at, ok, want)
		}
		if ok {
			good++
		} else {
			bad++
		}
	}
	if good < 5000 || bad < 5000 {
		t.Errorf("%d good texts, %d bad ones: too few of a kind", good, bad)
	}
}
