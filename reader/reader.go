// Package reader reads a database, file by file and word by word, up to its first fault (P5, P8).
package reader

import (
	"metaproof/api"
	"metaproof/record"
	"metaproof/statements"
	"metaproof/table"
	"metaproof/words"
)

// reader is a database as far as it was read.
type reader struct {
	files    *table.Table
	begun    [api.MaxFiles]bool
	database statements.Database
}

// Read reads the database from the file at the place root on. The fault's rule is 0, if there is none; else the record is empty.
func Read(files *table.Table, root int) (record.Record, api.Fault) {
	r := &reader{files: files}
	fault := r.readFile(root)
	if fault.Rule != 0 {
		return record.Record{}, fault
	}
	return r.database.Record(), api.Fault{}
}

// readFile comes back to itself through include, but no more often than there are files: none is begun twice.
func (r *reader) readFile(index int) api.Fault {
	if index < 0 || index >= api.MaxFiles || r.begun[index] {
		return api.Fault{}
	}
	r.begun[index] = true
	scanner := words.New(r.files.File(index))
	item := scanner.Next()
	for item.IsWord() {
		fault := r.readWord(scanner, item)
		if fault.Rule != 0 {
			return fault
		}
		item = scanner.Next()
	}
	if item.End && !r.database.Open() {
		return api.Fault{}
	}
	return faultOf(item)
}

func (r *reader) readWord(scanner *words.Scanner, item words.Item) api.Fault {
	if item.Text == "$[" {
		return r.include(scanner, item.At)
	}
	rule := r.database.Take(item.Text, item.At)
	if rule != 0 {
		return api.Fault{Rule: rule, At: item.At}
	}
	return api.Fault{}
}

// include reads the file that is named behind the `$[` at this place.
func (r *reader) include(scanner *words.Scanner, at api.Place) api.Fault {
	if r.database.Open() {
		return api.Fault{Rule: api.RInclude, At: at}
	}
	name := scanner.Next()
	if !name.IsWord() {
		return faultOf(name)
	}
	if words.HoldsDollar(name.Text) {
		return api.Fault{Rule: api.RIncName, At: name.At}
	}
	index := r.files.Find(name.Text)
	if index < 0 {
		return api.Fault{Rule: api.RNoFile, At: name.At}
	}
	last := scanner.Next()
	if !last.IsWord() {
		return faultOf(last)
	}
	if last.Text != "$]" {
		return api.Fault{Rule: api.RIncName, At: last.At}
	}
	return r.readFile(index)
}

// faultOf tells the fault of an item where only a word may stand.
func faultOf(item words.Item) api.Fault {
	if item.End {
		return api.Fault{Rule: api.REnd, At: item.At}
	}
	return api.Fault{Rule: item.Rule, At: item.At}
}
