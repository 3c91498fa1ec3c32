package frames

import "metaproof/record"

// square has a mark for each two of some variables, so that each $d is gone through once, not once for every two.
type square struct {
	side  int
	marks []bool
}

func newSquare(side int) *square {
	return &square{side: side, marks: make([]bool, side*side)}
}

func (s *square) mark(row int, column int) {
	index := row*s.side + column
	if index >= 0 && index < len(s.marks) {
		s.marks[index] = true
	}
}

func (s *square) isMarked(row int, column int) bool {
	index := row*s.side + column
	return index >= 0 && index < len(s.marks) && s.marks[index]
}

// pairsOf tells which two of the variables, in their order, stand together in a $d that is active at the assertion.
func pairsOf(r *record.Record, number int, variables []string) []Pair {
	together := newSquare(len(variables))
	for n := 0; n < r.Count(); n++ {
		statement := r.Statement(n)
		if statement.Kind == record.Disjoint && r.Holds(n, number) {
			together.markAll(positions(variables, statement.Symbols))
		}
	}
	var pairs []Pair
	for i := 0; i < len(variables); i++ {
		for j := i + 1; j < len(variables); j++ {
			if together.isMarked(i, j) {
				pairs = append(pairs, Pair{One: variables[i], Other: variables[j]})
			}
		}
	}
	return pairs
}

func (s *square) markAll(members []int) {
	for i := 0; i < len(members); i++ {
		for j := 0; j < len(members); j++ {
			s.mark(members[i], members[j])
		}
	}
}

// positions passes over the words that are none of the variables: a $d may name some that are not mandatory.
func positions(variables []string, words []string) []int {
	var found []int
	for i := 0; i < len(words); i++ {
		index := position(variables, words[i])
		if index >= 0 {
			found = append(found, index)
		}
	}
	return found
}
