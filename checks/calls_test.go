package checks

import (
	"math"
	"slices"
	"strings"
	"testing"

	"tailor/api"
	"tailor/tailor"
)

// garble changes a byte of a text, or cuts it off there.
func (m maker) garble(text string) string {
	if text == "" {
		return text
	}
	at := m.Intn(len(text))
	if m.Intn(3) == 0 {
		return text[:at]
	}
	return text[:at] + string([]byte{byte(m.Intn(256))}) + text[at+1:]
}

// TestEveryCallEnds holds each answer of Open against what may be told of any text.
func TestEveryCallEnds(t *testing.T) {
	m := newMaker(3)
	seen := map[api.Kind]int{}
	for n := range 30000 {
		text := m.text(n % 40)
		switch n % 5 {
		case 1:
			text = m.spoil(text)
		case 2:
			text = m.garble(text)
		case 3:
			text = m.soup(n % 50)
		case 4:
			text = strings.Repeat(m.pick("(", "fun x->", "let x=", "let x=1in ", "if ", "x ", "1+", "let x=(x,x)in "), m.Intn(60)) + text
		}
		x, kind, at := tailor.Open(text)
		seen[kind]++
		if (x == nil) == (kind == api.Fine) || at < 0 || at > len(text) || at > 0 && (kind == api.Fine || kind == api.Long || kind == api.Heavy || kind == api.Types) {
			t.Fatalf("Open(%q) = %v, %d, %d", text, x != nil, kind, at)
		}
		if x != nil {
			holdRun(t, x, m.Intn(7)-2)
			holdText(t, x, text)
			m.ask(x)
			holdRun(t, x, m.Intn(7)-2)
			holdText(t, x, x.Source())
		}
	}
	for _, kind := range []api.Kind{api.Fine, api.Long, api.Token, api.Form, api.Unbound, api.Types} {
		if seen[kind] < 100 {
			t.Errorf("%d texts of kind %d: too few", seen[kind], kind)
		}
	}
}

// ask makes requests of all sorts, at places within the text and outside of it.
func (m maker) ask(x *tailor.Text) {
	for _, at := range []int{math.MinInt, -1, m.Intn(40), m.Intn(300), len(x.Source()), math.MaxInt} {
		x.Inline(at)
		x.Rename(at, m.garble(m.pick("abc", "x", "let", "abcdef", "{}")))
	}
	for _, b := range x.Binders() {
		x.Rename(b.At, m.garble("abc"))
		x.Inline(b.At)
	}
}

// holdRun holds a run against the one of the greatest budget.
func holdRun(t *testing.T, x *tailor.Text, budget int) {
	t.Helper()
	got, want := x.Run(budget), x.Run(math.MaxInt)
	if most := min(max(budget, 0), api.MaxSteps); most < want.Steps {
		want = api.Outcome{Kind: api.Steps, Steps: most}
	}
	if got != want || len(got.Shown) > api.MaxValue || (got.Shown == "") == (got.Kind == api.Done) {
		t.Fatalf("Run(%d) of %q = %+v, want %+v", budget, x.Source(), got, want)
	}
}

func holdText(t *testing.T, x *tailor.Text, text string) {
	t.Helper()
	if x.Source() != text {
		t.Fatalf("Source() of %q = %q", text, x.Source())
	}
	if shown := x.Type(); shown == "" || len(shown) > api.MaxShown {
		t.Fatalf("Type() of %q = %q", text, shown)
	}
	last := -1
	for _, b := range x.Binders() {
		if b.At <= last || !slices.IsSorted(b.Uses) || len(slices.Compact(slices.Clone(b.Uses))) != len(b.Uses) {
			t.Fatalf("Binders() of %q = %v", text, x.Binders())
		}
		last = b.At
		for _, at := range append(b.Uses, b.At) {
			if !strings.HasPrefix(text[at:], b.Name) {
				t.Fatalf("%q: no %s at %d", text, b.Name, at)
			}
		}
	}
}
