// Package proofs reads a theorem's proof, be it normal or compressed, as steps (P11, P12).
package proofs

import (
	"metaproof/api"
	"metaproof/record"
)

// The kinds of steps.
const (
	Unknown = 1 // a `?`
	Names   = 2 // names a statement
	Again   = 3 // shows once more what an earlier step showed
)

// Step is one step. Number is that of the statement in the record, or of the earlier step, from 0 on.
type Step struct {
	Kind   int
	Number int
	At     api.Place
}

// Fault is why a proof fails, and where; Why is 0, if there is none.
type Fault struct {
	Why int
	At  api.Place
}

// Read tells the steps of the proof of the theorem of a number, or why it cannot be read.
func Read(r *record.Record, number int) ([]Step, Fault) {
	theorem := r.Statement(number)
	if len(theorem.Proof) > 0 && theorem.Proof[0].Text == "(" {
		return readCompressed(r, number)
	}
	return readNormal(r, number)
}

func readNormal(r *record.Record, number int) ([]Step, Fault) {
	theorem := r.Statement(number)
	var steps []Step
	for i := 0; i < len(theorem.Proof); i++ {
		word := theorem.Proof[i]
		step := Step{Kind: Unknown, At: word.At}
		if word.Text != "?" {
			named := r.FindHolding(word.Text, number)
			if named < 0 {
				return nil, Fault{Why: api.FLabel, At: word.At}
			}
			step = Step{Kind: Names, Number: named, At: word.At}
		}
		steps = append(steps, step)
	}
	if len(steps) == 0 {
		return nil, Fault{Why: api.FEmpty, At: theorem.End}
	}
	return steps, Fault{}
}
