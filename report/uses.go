package report

import (
	"metaproof/api"
	"metaproof/proofs"
)

// Uses tells which axioms the assertion of a number reaches, and which theorems that have no proof (P16).
func (r *Report) Uses(number int) ([]string, []string, api.Errno) {
	verdict := r.verdict(number)
	if verdict == api.Failed || verdict == api.Incomplete {
		return nil, nil, api.ErrVerdict
	}
	var axioms, open []string
	reached := r.reached(number)
	for n := 0; n < len(reached); n++ {
		if !reached[n] {
			continue
		}
		label := r.record.Statement(n).Label
		switch r.verdict(n) {
		case api.Axiom:
			axioms = append(axioms, label)
		case api.Failed, api.Incomplete:
			open = append(open, label)
		}
	}
	return tighten(axioms), tighten(open), api.OK
}

// reached goes backwards: as steps name only what is ahead, all that reaches a statement was gone through by then. An axiom counts as reached by itself.
func (r *Report) reached(number int) []bool {
	marks := make([]bool, r.record.Count())
	if number < 0 || number >= len(marks) {
		return marks
	}
	marks[number] = true
	for n := number; n >= 0; n-- {
		if !marks[n] || !r.isProved(n) {
			continue
		}
		named := r.named(n)
		for i := 0; i < len(named); i++ {
			if named[i] >= 0 && named[i] < len(marks) {
				marks[named[i]] = true
			}
		}
	}
	return marks
}

// named tells what the steps of the theorem of a number name.
func (r *Report) named(number int) []int {
	var named []int
	steps, fault := proofs.Read(&r.record, number)
	if fault.Why != 0 {
		return nil
	}
	for i := 0; i < len(steps); i++ {
		if steps[i].Kind == proofs.Names {
			named = append(named, steps[i].Number)
		}
	}
	return named
}
