// Package apart tells which variables a database keeps apart: those that stand together in a $d (P10, P13).
package apart

import "metaproof/record"

// Table has some variables, and a mark for each two of them, so that each $d is gone through once, not once for every two.
type Table struct {
	variables []string
	marks     []bool
}

// At makes a table of these variables, each there once, from the $d that are active at the assertion of a number.
func At(r *record.Record, number int, variables []string) *Table {
	own := make([]string, len(variables))
	copy(own, variables)
	t := &Table{variables: own, marks: make([]bool, len(own)*len(own))}
	for n := 0; n < r.Count(); n++ {
		statement := r.Statement(n)
		if statement.Kind == record.Disjoint && r.Holds(n, number) {
			t.markAll(t.positions(statement.Symbols))
		}
	}
	return t
}

// Position tells where in the table's list a variable stands, or -1.
func (t *Table) Position(word string) int {
	for i := 0; i < len(t.variables); i++ {
		if t.variables[i] == word {
			return i
		}
	}
	return -1
}

// Apart tells whether these are the positions of two different variables that stand together in a $d.
func (t *Table) Apart(one int, other int) bool {
	side := len(t.variables)
	if one < 0 || one >= side || other < 0 || other >= side {
		return false
	}
	index := one*side + other
	return one != other && index < len(t.marks) && t.marks[index]
}

func (t *Table) markAll(members []int) {
	for i := 0; i < len(members); i++ {
		for j := 0; j < len(members); j++ {
			index := members[i]*len(t.variables) + members[j]
			if index >= 0 && index < len(t.marks) {
				t.marks[index] = true
			}
		}
	}
}

// positions passes over the words that are not in the table: a $d may name more variables.
func (t *Table) positions(words []string) []int {
	var found []int
	for i := 0; i < len(words); i++ {
		index := t.Position(words[i])
		if index >= 0 {
			found = append(found, index)
		}
	}
	return found
}
