// Package player plays a proof: what each step shows, and whether it may (P13).
package player

import (
	"metaproof/apart"
	"metaproof/api"
	"metaproof/proofs"
	"metaproof/record"
)

// player is a proof as far as it was played.
type player struct {
	record     *record.Record
	hypotheses [][]int      // by its number the mandatory hypotheses of each assertion
	apart      *apart.Table // of the variables that are active at the theorem
	shown      [][]string   // the expression of each step
	there      [][]string   // those that no assertion has taken away
}

// Play plays the steps, none of them unknown, of the proof of the theorem of a number. The hypotheses are those of frames.AllHypotheses.
func Play(r *record.Record, number int, hypotheses [][]int, steps []proofs.Step) proofs.Fault {
	variables := activeVariables(r, number)
	p := &player{record: r, hypotheses: hypotheses, apart: apart.At(r, number, variables)}
	for i := 0; i < len(steps); i++ {
		why := p.play(steps[i])
		if why != 0 {
			return proofs.Fault{Why: why, At: steps[i].At}
		}
	}
	theorem := r.Statement(number)
	if len(p.there) > 1 {
		return proofs.Fault{Why: api.FLeft, At: theorem.End}
	}
	if len(p.there) == 0 || !equal(p.there[0], theorem.Symbols) {
		return proofs.Fault{Why: api.FGoal, At: theorem.End}
	}
	return proofs.Fault{}
}

// activeVariables passes over those without a $f: no expression has them.
func activeVariables(r *record.Record, number int) []string {
	var variables []string
	for n := 0; n < r.Count(); n++ {
		statement := r.Statement(n)
		if statement.Kind == record.Floating && r.Holds(n, number) {
			variables = append(variables, statement.Variable())
		}
	}
	return variables
}

func (p *player) play(step proofs.Step) int {
	expression, why := p.show(step)
	if why != 0 {
		return why
	}
	if len(expression) > api.MaxExpr {
		return api.FLong
	}
	p.shown = append(p.shown, expression)
	p.there = append(p.there, expression)
	return 0
}

func (p *player) show(step proofs.Step) ([]string, int) {
	if step.Kind == proofs.Again {
		if step.Number < 0 || step.Number >= len(p.shown) {
			return nil, api.FRange
		}
		return p.shown[step.Number], 0
	}
	statement := p.record.Statement(step.Number)
	if statement.IsAssertion() {
		return p.apply(step.Number)
	}
	return statement.Symbols, 0
}

// apply takes away what the assertion's hypotheses ask for, and tells what it shows.
func (p *player) apply(number int) ([]string, int) {
	if number < 0 || number >= len(p.hypotheses) {
		return nil, api.FLabel
	}
	hypotheses := p.hypotheses[number]
	first := len(p.there) - len(hypotheses)
	if first < 0 {
		return nil, api.FUnder
	}
	s := &substitution{}
	for i := 0; i < len(hypotheses); i++ {
		why := s.fit(p.record.Statement(hypotheses[i]), p.there[first+i])
		if why != 0 {
			return nil, why
		}
	}
	if !p.keepsApart(number, s) {
		return nil, api.FApart
	}
	p.there = p.there[:first]
	return s.replace(p.record.Statement(number).Symbols), 0
}
