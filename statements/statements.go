// Package statements knows what may stand where (P6), and which word breaks which rule (P7).
package statements

import (
	"metaproof/api"
	"metaproof/record"
	"metaproof/words"
)

// The kinds of the statement that is open: those of the record, and more.
const (
	none      = 0
	disjoint  = record.Disjoint
	floating  = record.Floating
	essential = record.Essential
	axiom     = record.Axiom
	theorem   = record.Theorem
	labelled  = 6 // only its label was read
	constants = 7
	variables = 8
)

// Database is what the words so far have declared, and the statement that they left open.
type Database struct {
	names  names
	record record.Record

	kind    int
	label   string
	symbols []string
	inProof bool
	proof   []record.Word
}

// Record tells what the statements said. It is the caller's when the database takes no more words.
func (d *Database) Record() record.Record {
	return d.record
}

// Open tells whether a statement or a block is open.
func (d *Database) Open() bool {
	return d.kind != none || d.names.inBlock()
}

// Take takes the next word and its place, and tells the rule that it breaks, or 0. Behind a broken rule the database is of no use.
func (d *Database) Take(word string, at api.Place) int {
	if d.kind == none {
		return d.takeFirst(word)
	}
	if d.kind == labelled {
		return d.takeKeyword(word)
	}
	if word == "$." {
		return d.end(at)
	}
	if word == "$=" && d.kind == theorem && !d.inProof {
		return d.beginProof()
	}
	if words.HoldsDollar(word) {
		return api.RKey
	}
	if d.inProof {
		d.proof = append(d.proof, record.Word{Text: word, At: at})
		return 0
	}
	rule := d.checkSymbol(word)
	if rule == 0 {
		d.symbols = append(d.symbols, word)
	}
	return rule
}

func (d *Database) takeFirst(word string) int {
	switch word {
	case "${":
		d.names.beginBlock()
		d.record.BeginBlock()
	case "$}":
		if !d.names.inBlock() {
			return api.RBlock
		}
		d.names.endBlock()
		d.record.EndBlock()
	case "$c":
		if d.names.inBlock() {
			return api.RScope
		}
		d.kind = constants
	case "$v":
		d.kind = variables
	case "$d":
		d.kind = disjoint
	case "$f", "$e", "$a", "$p":
		return api.RNoLabel
	default:
		return d.takeLabel(word)
	}
	return 0
}

func (d *Database) takeLabel(word string) int {
	if words.HoldsDollar(word) {
		return api.RKey
	}
	if !isLabel(word) {
		return api.RLabel
	}
	if d.names.isTaken(word) {
		return api.RTaken
	}
	d.names.addLabel(word)
	d.label = word
	d.kind = labelled
	return 0
}

func (d *Database) takeKeyword(word string) int {
	switch word {
	case "$f":
		d.kind = floating
	case "$e":
		d.kind = essential
	case "$a":
		d.kind = axiom
	case "$p":
		d.kind = theorem
	default:
		return api.RNoKey
	}
	return 0
}

func (d *Database) beginProof() int {
	if len(d.symbols) == 0 {
		return api.RShort
	}
	d.inProof = true
	return 0
}

func (d *Database) end(at api.Place) int {
	if len(d.symbols) < d.leastSymbols() {
		return api.RShort
	}
	if d.kind == theorem && !d.inProof {
		return api.RNoProof
	}
	d.declare(at)
	d.kind = none
	d.label = ""
	d.symbols = nil
	d.inProof = false
	d.proof = nil
	return 0
}

func (d *Database) leastSymbols() int {
	if d.kind == disjoint || d.kind == floating {
		return 2
	}
	return 1
}

// declare waits for the statement's end, as what it declares is active only behind it.
func (d *Database) declare(end api.Place) {
	switch d.kind {
	case constants:
		d.names.addConstants(d.symbols)
	case variables:
		d.names.addVariables(d.symbols)
	default:
		if d.kind == floating && len(d.symbols) > 1 {
			d.names.addTyped(d.symbols[1])
		}
		d.record.Add(record.Statement{Kind: d.kind, Label: d.label, Symbols: d.symbols, Proof: d.proof, End: end})
	}
}
