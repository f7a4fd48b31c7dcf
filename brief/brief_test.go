package brief_test

import (
	"testing"

	"tailor/brief"
)

func TestTold(t *testing.T) {
	for _, c := range []struct {
		limit int
		put   []string
		full  bool
		told  string
	}{
		{5, nil, false, ""},
		{5, []string{"", "ab", "cde"}, false, "abcde"},
		{5, []string{"ab", "cdef"}, true, "..."},
		{5, []string{"abcdef", ""}, true, "..."},
		{5, []string{"abcdef", "gh", "i"}, true, "..."},
		{2, []string{"ab"}, false, "ab"},
		{2, []string{"ab", "c"}, true, "..."},
	} {
		w := brief.NewWriter(c.limit)
		for _, bytes := range c.put {
			w.Put(bytes)
		}
		if w.Full() != c.full || w.Told() != c.told {
			t.Errorf("limit %d, %q: %v, %q", c.limit, c.put, w.Full(), w.Told())
		}
	}
}
