// Package grammar tells by which productions the symbols of an assertion may be made (P18).
package grammar

import (
	"metaproof/frames"
	"metaproof/record"
)

// Part is a symbol of a production, or a gap that a tree fills.
type Part struct {
	Symbol string
	Gap    int // its place among the gaps; -1, if the symbol stands for itself
}

// Production makes symbols of its typecode. Typecodes are known by their numbers in the grammar.
type Production struct {
	Label string
	Code  int
	Parts []Part
	Gaps  []int // the typecodes of the trees that fill the gaps, in the order of the $f of their variables
}

// Grammar has productions, and the typecodes that they name.
type Grammar struct {
	codes       []string
	productions []Production
}

// Of tells the grammar of the assertion of a number.
func Of(r *record.Record, number int) *Grammar {
	g := &Grammar{}
	hypotheses := frames.Hypotheses(r, number)
	for i := 0; i < len(hypotheses); i++ {
		hypothesis := r.Statement(hypotheses[i])
		if hypothesis.Kind == record.Floating {
			g.addVariable(hypothesis)
		}
	}
	for n := 0; n < number && n < r.Count(); n++ {
		if r.Statement(n).Kind == record.Axiom {
			g.addAxiom(r, n)
		}
	}
	return g
}

// Codes tells how many typecodes there are.
func (g *Grammar) Codes() int {
	return len(g.codes)
}

// Find tells the number of a typecode; -1, if no production names it.
func (g *Grammar) Find(code string) int {
	for i := 0; i < len(g.codes); i++ {
		if g.codes[i] == code {
			return i
		}
	}
	return -1
}

// Count tells how many productions there are.
func (g *Grammar) Count() int {
	return len(g.productions)
}

// Production tells the production of a number below Count; one of no typecode at any other.
func (g *Grammar) Production(number int) Production {
	if number < 0 || number >= len(g.productions) {
		return Production{Code: -1}
	}
	return g.productions[number]
}

func (g *Grammar) addVariable(typing record.Statement) {
	parts := make([]Part, 1)
	parts[0] = Part{Symbol: typing.Variable(), Gap: -1}
	code := g.code(typing.Typecode())
	g.productions = append(g.productions, Production{Label: typing.Label, Code: code, Parts: parts})
}

// addAxiom passes over an axiom that is no production.
func (g *Grammar) addAxiom(r *record.Record, number int) {
	frame := frames.Of(r, number)
	axiom := r.Statement(number)
	if len(frame.Pairs) > 0 || !eachOnce(r, frame.Hypotheses, axiom.Rest()) {
		return
	}
	variables := make([]string, len(frame.Hypotheses))
	gaps := make([]int, len(frame.Hypotheses))
	for i := 0; i < len(gaps); i++ {
		typing := r.Statement(frame.Hypotheses[i])
		variables[i] = typing.Variable()
		gaps[i] = g.code(typing.Typecode())
	}
	code := g.code(axiom.Typecode())
	parts := partsOf(axiom.Rest(), variables)
	g.productions = append(g.productions, Production{Label: axiom.Label, Code: code, Parts: parts, Gaps: gaps})
}

// code tells the number of a typecode, which is a new one the first time.
func (g *Grammar) code(text string) int {
	number := g.Find(text)
	if number >= 0 {
		return number
	}
	g.codes = append(g.codes, text)
	return len(g.codes) - 1
}

// eachOnce tells whether all these hypotheses are $f, and the variable of each stands just once among the symbols.
func eachOnce(r *record.Record, hypotheses []int, symbols []string) bool {
	for i := 0; i < len(hypotheses); i++ {
		hypothesis := r.Statement(hypotheses[i])
		if hypothesis.Kind != record.Floating || occurrences(symbols, hypothesis.Variable()) != 1 {
			return false
		}
	}
	return true
}

func partsOf(symbols []string, variables []string) []Part {
	parts := make([]Part, len(symbols))
	for i := 0; i < len(parts); i++ {
		parts[i] = Part{Symbol: symbols[i], Gap: position(variables, symbols[i])}
	}
	return parts
}

func occurrences(list []string, word string) int {
	count := 0
	for i := 0; i < len(list); i++ {
		if list[i] == word {
			count++
		}
	}
	return count
}

func position(list []string, word string) int {
	for i := 0; i < len(list); i++ {
		if list[i] == word {
			return i
		}
	}
	return -1
}
