// Package frames tells what an assertion asks for: its mandatory hypotheses and pairs (P10).
package frames

import (
	"metaproof/apart"
	"metaproof/record"
)

// Pair is two variables that must be kept apart.
type Pair struct {
	One, Other string
}

// Frame has the mandatory hypotheses, by their numbers in the record, and the mandatory pairs.
type Frame struct {
	Hypotheses []int
	Pairs      []Pair
}

// Of tells the frame of the assertion of a number.
func Of(r *record.Record, number int) Frame {
	hypotheses := Hypotheses(r, number)
	variables := variablesOf(r, hypotheses)
	return Frame{Hypotheses: hypotheses, Pairs: pairsOf(r, number, variables)}
}

// Hypotheses tells the mandatory hypotheses of the assertion of a number, by their numbers.
func Hypotheses(r *record.Record, number int) []int {
	var hypotheses []int
	symbols := symbolsOf(r, number)
	for n := 0; n < r.Count(); n++ {
		if r.Holds(n, number) && isMandatory(r.Statement(n), symbols) {
			hypotheses = append(hypotheses, n)
		}
	}
	return hypotheses
}

// AllHypotheses tells by its number the mandatory hypotheses of each assertion; of the other statements it tells none.
func AllHypotheses(r *record.Record) [][]int {
	all := make([][]int, r.Count())
	for n := 0; n < len(all); n++ {
		if r.Statement(n).IsAssertion() {
			all[n] = Hypotheses(r, n)
		}
	}
	return all
}

// symbolsOf has the symbols of the active $e too: their variables are as mandatory as the assertion's own.
func symbolsOf(r *record.Record, number int) []string {
	var symbols []string
	symbols = append(symbols, r.Statement(number).Symbols...)
	for n := 0; n < r.Count(); n++ {
		statement := r.Statement(n)
		if statement.Kind == record.Essential && r.Holds(n, number) {
			symbols = append(symbols, statement.Symbols...)
		}
	}
	return symbols
}

func isMandatory(hypothesis record.Statement, symbols []string) bool {
	if hypothesis.Kind == record.Floating {
		return has(symbols, hypothesis.Variable())
	}
	return hypothesis.Kind == record.Essential
}

func variablesOf(r *record.Record, hypotheses []int) []string {
	var variables []string
	for i := 0; i < len(hypotheses); i++ {
		statement := r.Statement(hypotheses[i])
		if statement.Kind == record.Floating {
			variables = append(variables, statement.Variable())
		}
	}
	return variables
}

func pairsOf(r *record.Record, number int, variables []string) []Pair {
	table := apart.At(r, number, variables)
	var pairs []Pair
	for i := 0; i < len(variables); i++ {
		for j := i + 1; j < len(variables); j++ {
			if table.Apart(i, j) {
				pairs = append(pairs, Pair{One: variables[i], Other: variables[j]})
			}
		}
	}
	return pairs
}

func has(list []string, word string) bool {
	for i := 0; i < len(list); i++ {
		if list[i] == word {
			return true
		}
	}
	return false
}
