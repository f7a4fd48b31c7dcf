package scope

import "testing"

func TestInnermostCounts(t *testing.T) {
	var none *Scope[int]
	outer := none.With("x", 1).With("y", 2)
	inner := outer.With("x", 3)
	for _, c := range []struct {
		in    *Scope[int]
		name  string
		value int
		ok    bool
	}{
		{none, "x", 0, false}, {outer, "x", 1, true}, {outer, "y", 2, true}, {outer, "z", 0, false},
		{inner, "x", 3, true}, {inner, "y", 2, true}, {inner, "", 0, false},
	} {
		if value, ok := c.in.Find(c.name); value != c.value || ok != c.ok {
			t.Errorf("Find(%q) = %d, %v, want %d, %v", c.name, value, ok, c.value, c.ok)
		}
	}
}
