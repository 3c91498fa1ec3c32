// Package metaproof: a verifier of Metamath databases: see DOC.md.
package metaproof

import (
	"metaproof/api"
	"metaproof/report"
	"metaproof/table"
)

// Verifier is a table of files, and the report on the database that was read last: an empty one, if there is no report.
type Verifier struct {
	table     table.Table
	hasReport bool
	report    report.Report
}

// New makes a verifier: an empty table, no report.
func New() *Verifier { return &Verifier{} }

// Load makes the table just these files (P3).
func (v *Verifier) Load(files []api.File) api.Errno {
	errno := v.table.Load(files)
	if errno == api.OK {
		v.drop()
	}
	return errno
}

// Put lays one file into the table (P3).
func (v *Verifier) Put(name string, data string) api.Errno {
	errno := v.table.Put(name, data)
	if errno == api.OK {
		v.drop()
	}
	return errno
}

// drop drops the report: it tells of files that the table may have no more.
func (v *Verifier) drop() {
	v.hasReport = false
	v.report = report.Report{}
}

// Verify reads the database from a file on, and judges its proofs (P4 to P9, P11 to P14).
func (v *Verifier) Verify(root string) (api.Fault, api.Errno) {
	index := v.table.Find(root)
	if index < 0 {
		return api.Fault{}, api.ErrRoot
	}
	v.drop()
	made, fault := report.On(&v.table, index)
	if fault.Rule != 0 {
		return fault, api.ErrFault
	}
	v.hasReport = true
	v.report = made
	return api.Fault{}, api.OK
}

// Rows tells the verdicts (P11 to P15).
func (v *Verifier) Rows() []api.Row {
	return v.report.Rows()
}

// Frame tells an assertion's frame (P10).
func (v *Verifier) Frame(label string) ([]string, api.Errno) {
	number, errno := v.find(label)
	if errno != api.OK {
		return nil, errno
	}
	return v.report.Frame(number), api.OK
}

// Uses tells on what a theorem rests (P16).
func (v *Verifier) Uses(label string) ([]string, []string, api.Errno) {
	number, errno := v.find(label)
	if errno != api.OK {
		return nil, nil, errno
	}
	return v.report.Uses(number)
}

// Steps tells a proof's labels, written out (P17).
func (v *Verifier) Steps(label string) ([]string, api.Errno) {
	number, errno := v.find(label)
	if errno != api.OK {
		return nil, errno
	}
	return v.report.Steps(number)
}

// Parse tells an assertion's syntax tree (P18).
func (v *Verifier) Parse(label string, code string) ([]string, api.Errno) {
	number, errno := v.find(label)
	if errno != api.OK {
		return nil, errno
	}
	return v.report.Parse(number, code)
}

// find tells the number of an assertion in the report; or that there is no report, or no such assertion.
func (v *Verifier) find(label string) (int, api.Errno) {
	if !v.hasReport {
		return 0, api.ErrState
	}
	number := v.report.Find(label)
	if number < 0 {
		return 0, api.ErrLabel
	}
	return number, api.OK
}
