// Package record keeps what a database said, statement by statement, and how long each holds (P6).
package record

import "metaproof/api"

// The kinds of statement that are kept: the others are of use only while the database is read.
const (
	Disjoint  = 1
	Floating  = 2
	Essential = 3
	Axiom     = 4
	Theorem   = 5
)

// Word is a word of a proof, and its place.
type Word struct {
	Text string
	At   api.Place
}

// Statement is a $d (without a label), $f, $e, $a or $p.
type Statement struct {
	Kind    int
	Label   string
	Symbols []string  // the typecode among them
	Proof   []Word    // of a $p: what stands behind its `$=`
	End     api.Place // of its `$.`

	until int // the number of the first statement behind its block; 0, if it holds for ever
}

// Record has the statements in the order of the database. The number of a statement is its place in that order, from 0 on.
type Record struct {
	statements []Statement
	blocks     []int // of each open block, the innermost last: the number of its first statement
}

// Add lays a statement behind the others, in the innermost open block. Its lists stay the caller's.
func (r *Record) Add(statement Statement) {
	symbols := make([]string, len(statement.Symbols))
	copy(symbols, statement.Symbols)
	proof := make([]Word, len(statement.Proof))
	copy(proof, statement.Proof)
	statement.Symbols = symbols
	statement.Proof = proof
	statement.until = 0
	r.statements = append(r.statements, statement)
}

// BeginBlock begins a block within those that are open.
func (r *Record) BeginBlock() {
	r.blocks = append(r.blocks, len(r.statements))
}

// EndBlock ends the innermost block, and with it all in it that does not stay for ever.
func (r *Record) EndBlock() {
	last := len(r.blocks) - 1
	if last < 0 {
		return
	}
	begin := r.blocks[last]
	r.blocks = r.blocks[:last]
	for n := begin; n >= 0 && n < len(r.statements); n++ {
		if r.statements[n].until == 0 && !r.statements[n].IsAssertion() {
			r.statements[n].until = len(r.statements)
		}
	}
}

// Count tells how many statements there are.
func (r *Record) Count() int {
	return len(r.statements)
}

// Statement tells the statement of a number below Count; an empty one at any other.
func (r *Record) Statement(number int) Statement {
	if number < 0 || number >= len(r.statements) {
		return Statement{}
	}
	return r.statements[number]
}

// Holds tells whether one statement is active (of an assertion: is there) at another.
func (r *Record) Holds(number int, at int) bool {
	if number < 0 || number >= len(r.statements) || number >= at {
		return false
	}
	until := r.statements[number].until
	return until == 0 || at < until
}

// FindAssertion tells the number of the assertion that has this label, or -1.
func (r *Record) FindAssertion(label string) int {
	for n := 0; n < len(r.statements); n++ {
		if r.statements[n].Label == label && r.statements[n].IsAssertion() {
			return n
		}
	}
	return -1
}

// FindHolding tells the number of the statement that has this label and holds at another, or -1.
func (r *Record) FindHolding(label string, at int) int {
	for n := 0; n < len(r.statements); n++ {
		if r.statements[n].Label == label && r.statements[n].Kind != Disjoint && r.Holds(n, at) {
			return n
		}
	}
	return -1
}

// IsAssertion tells whether it is a $a or $p.
func (s Statement) IsAssertion() bool {
	return s.Kind == Axiom || s.Kind == Theorem
}

// Typecode tells the first symbol.
func (s Statement) Typecode() string {
	if len(s.Symbols) == 0 {
		return ""
	}
	return s.Symbols[0]
}

// Rest tells the symbols behind the typecode.
func (s Statement) Rest() []string {
	if len(s.Symbols) == 0 {
		return nil
	}
	return s.Symbols[1:]
}

// Variable tells what a $f types; of the other kinds nothing.
func (s Statement) Variable() string {
	if s.Kind != Floating || len(s.Symbols) < 2 {
		return ""
	}
	return s.Symbols[1]
}
