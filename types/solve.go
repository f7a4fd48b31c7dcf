package types

// sort of a type.
type sort int

const (
	variable sort = iota
	integer
	truth
	function
	pair
)

// ref is the number of a type among those of a solver.
type ref int

// shape is a type: what it is made of, if it is a function's or a pair's; or, if it was found to be the same as another one, which one.
type shape struct {
	sort        sort
	left, right ref
	same        ref // itself, while it stands for itself
}

// Every solver has these two first.
const (
	intType ref = iota
	boolType
)

// solver holds the types of a text's parts and what was found of them. Types share their parts: written out, a type may have more parts than can be counted.
type solver struct {
	shapes []shape
	clash  bool // two types that must be the same cannot be
}

func newSolver() *solver {
	s := &solver{}
	s.add(integer, 0, 0)
	s.add(truth, 0, 0)
	return s
}

func (s *solver) add(of sort, left, right ref) ref {
	r := ref(len(s.shapes))
	s.shapes = append(s.shapes, shape{sort: of, left: left, right: right, same: r})
	return r
}

func (s *solver) fresh() ref { return s.add(variable, 0, 0) }

// find gives the type that stands for r.
func (s *solver) find(r ref) ref {
	for s.shapes[r].same != r {
		next := s.shapes[r].same
		s.shapes[r].same = s.shapes[next].same
		r = next
	}
	return r
}

// unify makes two types the same. It joins them ahead of their parts, so that it ends even where a type has come to hold itself: that is told later, for all types at once, by endless.
func (s *solver) unify(a, b ref) {
	a, b = s.find(a), s.find(b)
	one, other := s.shapes[a], s.shapes[b]
	switch {
	case a == b:
	case one.sort == variable:
		s.shapes[a].same = b
	case other.sort == variable:
		s.shapes[b].same = a
	case one.sort != other.sort:
		s.clash = true
	default:
		s.shapes[a].same = b
		s.unify(one.left, other.left)
		s.unify(one.right, other.right)
	}
}

// mark tells how far the search of endless has come with a type.
type mark int

const (
	unseen mark = iota
	within
	ended
)

// endless tells whether some type holds itself.
func (s *solver) endless() bool {
	marks := make([]mark, len(s.shapes))
	for r := range s.shapes {
		if s.holdsItself(ref(r), marks) {
			return true
		}
	}
	return false
}

func (s *solver) holdsItself(r ref, marks []mark) bool {
	r = s.find(r)
	whole := s.shapes[r]
	if marks[r] != unseen || !whole.made() {
		return marks[r] == within
	}
	marks[r] = within
	if s.holdsItself(whole.left, marks) || s.holdsItself(whole.right, marks) {
		return true
	}
	marks[r] = ended
	return false
}

// made tells whether the type is made of two others.
func (s shape) made() bool { return s.sort == function || s.sort == pair }
