// Package metaproof: a verifier of Metamath databases: see DOC.md.
package metaproof

import (
	"metaproof/api"
	"metaproof/frames"
	"metaproof/reader"
	"metaproof/record"
	"metaproof/table"
)

// Verifier is a table of files, and a report on one of them: without a report the record is empty.
type Verifier struct {
	table     table.Table
	hasReport bool
	record    record.Record
}

// New makes a verifier: an empty table, no report.
func New() *Verifier { return &Verifier{} }

// Load makes the table just these files (P3).
func (v *Verifier) Load(files []api.File) api.Errno {
	errno := v.table.Load(files)
	if errno == api.OK {
		v.drop()
	}
	return errno
}

// Put lays one file into the table (P3).
func (v *Verifier) Put(name string, data string) api.Errno {
	errno := v.table.Put(name, data)
	if errno == api.OK {
		v.drop()
	}
	return errno
}

// drop drops the report: it tells of files that the table may have no more.
func (v *Verifier) drop() {
	v.hasReport = false
	v.record = record.Record{}
}

// Verify reads the database from a file on (P4 to P9).
func (v *Verifier) Verify(root string) (api.Fault, api.Errno) {
	index := v.table.Find(root)
	if index < 0 {
		return api.Fault{}, api.ErrRoot
	}
	v.drop()
	statements, fault := reader.Read(&v.table, index)
	if fault.Rule != 0 {
		return fault, api.ErrFault
	}
	v.hasReport = true
	v.record = statements
	return api.Fault{}, api.OK
}

// Frame tells an assertion's frame (P10).
func (v *Verifier) Frame(label string) ([]string, api.Errno) {
	if !v.hasReport {
		return nil, api.ErrState
	}
	number := v.record.FindAssertion(label)
	if number < 0 {
		return nil, api.ErrLabel
	}
	return frames.Lines(&v.record, number), api.OK
}

// Rows tells the verdicts (P11 to P15).
func (v *Verifier) Rows() []api.Row { return nil }

// Uses tells on what a theorem rests (P16).
func (v *Verifier) Uses(label string) ([]string, []string, api.Errno) { return nil, nil, v.state() }

// Steps tells a proof's labels, written out (P17).
func (v *Verifier) Steps(label string) ([]string, api.Errno) { return nil, v.state() }

// Parse tells an assertion's syntax tree (P18).
func (v *Verifier) Parse(label string, code string) ([]string, api.Errno) { return nil, v.state() }

// state: without a report there is nothing that the calls on it could tell.
func (v *Verifier) state() api.Errno {
	if !v.hasReport {
		return api.ErrState
	}
	return api.OK
}
