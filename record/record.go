// Package record keeps what a database said, statement by statement, and how long each holds (P6).
package record

// The kinds of statement that are kept: the others are of use only while the database is read.
const (
	Disjoint  = 1
	Floating  = 2
	Essential = 3
	Axiom     = 4
	Theorem   = 5
)

// Statement is a $d (without a label), $f, $e, $a or $p.
type Statement struct {
	Kind    int
	Label   string
	Symbols []string // the typecode among them

	until int // the number of the first statement behind its block; 0, if it holds for ever
}

// Record has the statements in the order of the database. The number of a statement is its place in that order, from 0 on.
type Record struct {
	statements []Statement
	blocks     []int // of each open block, the innermost last: the number of its first statement
}

// Add lays a statement behind the others. The list of symbols stays the caller's.
func (r *Record) Add(kind int, label string, symbols []string) {
	own := make([]string, len(symbols))
	copy(own, symbols)
	r.statements = append(r.statements, Statement{Kind: kind, Label: label, Symbols: own})
}

// BeginBlock begins a block within those that are open.
func (r *Record) BeginBlock() {
	r.blocks = append(r.blocks, len(r.statements))
}

// EndBlock ends the innermost block, and with it all in it that does not stay for ever.
func (r *Record) EndBlock() {
	last := len(r.blocks) - 1
	if last < 0 {
		return
	}
	begin := r.blocks[last]
	r.blocks = r.blocks[:last]
	for n := begin; n >= 0 && n < len(r.statements); n++ {
		if r.statements[n].until == 0 && !r.statements[n].IsAssertion() {
			r.statements[n].until = len(r.statements)
		}
	}
}

// Count tells how many statements there are.
func (r *Record) Count() int {
	return len(r.statements)
}

// Statement tells the statement of a number below Count; an empty one at any other.
func (r *Record) Statement(number int) Statement {
	if number < 0 || number >= len(r.statements) {
		return Statement{}
	}
	return r.statements[number]
}

// Holds tells whether one statement is active (of an assertion: is there) at another.
func (r *Record) Holds(number int, at int) bool {
	if number < 0 || number >= len(r.statements) || number >= at {
		return false
	}
	until := r.statements[number].until
	return until == 0 || at < until
}

// FindAssertion tells the number of the assertion that has this label, or -1.
func (r *Record) FindAssertion(label string) int {
	for n := 0; n < len(r.statements); n++ {
		if r.statements[n].Label == label && r.statements[n].IsAssertion() {
			return n
		}
	}
	return -1
}

// IsAssertion tells whether it is a $a or $p.
func (s Statement) IsAssertion() bool {
	return s.Kind == Axiom || s.Kind == Theorem
}

// Variable tells what a $f types; of the other kinds nothing.
func (s Statement) Variable() string {
	if s.Kind != Floating || len(s.Symbols) < 2 {
		return ""
	}
	return s.Symbols[1]
}
