// Package frames tells what an assertion asks for: its mandatory hypotheses and pairs (P10).
package frames

import "metaproof/record"

// Pair is two variables that must be kept apart.
type Pair struct {
	One, Other string
}

// Frame has the mandatory hypotheses, by their numbers in the record, and the mandatory pairs.
type Frame struct {
	Hypotheses []int
	Pairs      []Pair
}

// Of tells the frame of the assertion of a number.
func Of(r *record.Record, number int) Frame {
	hypotheses := hypothesesOf(r, number)
	variables := variablesOf(r, hypotheses)
	return Frame{Hypotheses: hypotheses, Pairs: pairsOf(r, number, variables)}
}

func hypothesesOf(r *record.Record, number int) []int {
	var hypotheses []int
	symbols := symbolsOf(r, number)
	for n := 0; n < r.Count(); n++ {
		if r.Holds(n, number) && isMandatory(r.Statement(n), symbols) {
			hypotheses = append(hypotheses, n)
		}
	}
	return hypotheses
}

// symbolsOf has the symbols of the active $e too: their variables are as mandatory as the assertion's own.
func symbolsOf(r *record.Record, number int) []string {
	var symbols []string
	symbols = append(symbols, r.Statement(number).Symbols...)
	for n := 0; n < r.Count(); n++ {
		statement := r.Statement(n)
		if statement.Kind == record.Essential && r.Holds(n, number) {
			symbols = append(symbols, statement.Symbols...)
		}
	}
	return symbols
}

func isMandatory(hypothesis record.Statement, symbols []string) bool {
	if hypothesis.Kind == record.Floating {
		return position(symbols, hypothesis.Variable()) >= 0
	}
	return hypothesis.Kind == record.Essential
}

func variablesOf(r *record.Record, hypotheses []int) []string {
	var variables []string
	for i := 0; i < len(hypotheses); i++ {
		statement := r.Statement(hypotheses[i])
		if statement.Kind == record.Floating {
			variables = append(variables, statement.Variable())
		}
	}
	return variables
}

// position tells where the word stands first in the list, or -1.
func position(list []string, word string) int {
	for i := 0; i < len(list); i++ {
		if list[i] == word {
			return i
		}
	}
	return -1
}
