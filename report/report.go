// Package report tells what is known of a well-formed database: a verdict on each assertion, and what follows from it (P14 to P18).
package report

import (
	"metaproof/api"
	"metaproof/frames"
	"metaproof/player"
	"metaproof/proofs"
	"metaproof/reader"
	"metaproof/record"
	"metaproof/table"
)

// Report has the statements, and by its number the row of each assertion; the rows of the other statements are empty.
type Report struct {
	record record.Record
	rows   []api.Row
}

// On makes the report on the database that begins with the file at the place root. The fault's rule is 0, if there is none; else the report is empty.
func On(files *table.Table, root int) (Report, api.Fault) {
	statements, fault := reader.Read(files, root)
	if fault.Rule != 0 {
		return Report{}, fault
	}
	r := Report{record: statements, rows: make([]api.Row, statements.Count())}
	r.judgeAll()
	return r, api.Fault{}
}

func (r *Report) judgeAll() {
	hypotheses := frames.AllHypotheses(&r.record)
	for n := 0; n < len(r.rows); n++ {
		statement := r.record.Statement(n)
		if statement.Kind == record.Axiom {
			r.rows[n] = api.Row{Label: statement.Label, Verdict: api.Axiom}
		}
		if statement.Kind == record.Theorem {
			r.rows[n] = r.judge(n, hypotheses)
		}
	}
}

// judge tells the row of a theorem. The rows ahead of it are there already.
func (r *Report) judge(number int, hypotheses [][]int) api.Row {
	row := api.Row{Label: r.record.Statement(number).Label}
	steps, fault := proofs.Read(&r.record, number)
	unknown := firstUnknown(steps)
	if unknown < 0 && fault.Why == 0 {
		fault = player.Play(&r.record, number, hypotheses, steps)
	}
	switch {
	case fault.Why != 0:
		row.Verdict = api.Failed
		row.Why = fault.Why
		row.At = fault.At
	case unknown >= 0 && unknown < len(steps):
		row.Verdict = api.Incomplete
		row.At = steps[unknown].At
	case r.restOnVerified(steps):
		row.Verdict = api.Verified
	default:
		row.Verdict = api.Checked
	}
	return row
}

func firstUnknown(steps []proofs.Step) int {
	for i := 0; i < len(steps); i++ {
		if steps[i].Kind == proofs.Unknown {
			return i
		}
	}
	return -1
}

// restOnVerified asks no further than what the steps name: a theorem that is only checked reaches one that has no proof.
func (r *Report) restOnVerified(steps []proofs.Step) bool {
	for i := 0; i < len(steps); i++ {
		if steps[i].Kind != proofs.Names {
			continue
		}
		switch r.verdict(steps[i].Number) {
		case api.Failed, api.Incomplete, api.Checked:
			return false
		}
	}
	return true
}

// verdict tells the verdict on the assertion of a number; 0, if no assertion has it.
func (r *Report) verdict(number int) int {
	if number < 0 || number >= len(r.rows) {
		return 0
	}
	return r.rows[number].Verdict
}

// isProved tells whether the assertion of a number is a theorem whose proof was played without a fault.
func (r *Report) isProved(number int) bool {
	verdict := r.verdict(number)
	return verdict == api.Checked || verdict == api.Verified
}

// Rows tells the rows, in the order of the database.
func (r *Report) Rows() []api.Row {
	var rows []api.Row
	for n := 0; n < len(r.rows); n++ {
		if r.rows[n].Verdict != 0 {
			rows = append(rows, r.rows[n])
		}
	}
	if len(rows) == 0 {
		return nil
	}
	tight := make([]api.Row, len(rows))
	copy(tight, rows)
	return tight
}

// Find tells the number of the assertion that has this label, or -1.
func (r *Report) Find(label string) int {
	return r.record.FindAssertion(label)
}

// Frame tells the frame of the assertion of a number (P10).
func (r *Report) Frame(number int) []string {
	return frames.Lines(&r.record, number)
}

// tighten tells the list without spare room; an empty one is nil.
func tighten(list []string) []string {
	if len(list) == 0 {
		return nil
	}
	tight := make([]string, len(list))
	copy(tight, list)
	return tight
}
