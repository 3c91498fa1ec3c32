// Package table keeps the files that a verifier has (P3).
package table

import "metaproof/api"

// Table has its files in an array of its own, so that a copy of a table shares nothing with it.
type Table struct {
	files [api.MaxFiles]api.File
	count int
}

// Load makes the table just these files.
func (t *Table) Load(files []api.File) api.Errno {
	if len(files) > api.MaxFiles {
		return api.ErrMany
	}
	fresh := Table{}
	for i := 0; i < len(files); i++ {
		errno := check(files[i].Name, files[i].Data)
		if errno != api.OK {
			return errno
		}
		if fresh.Find(files[i].Name) >= 0 {
			return api.ErrTwice
		}
		fresh.add(files[i])
	}
	*t = fresh
	return api.OK
}

// Put lays one file into the table, over the one that has its name.
func (t *Table) Put(name string, data string) api.Errno {
	errno := check(name, data)
	if errno != api.OK {
		return errno
	}
	file := api.File{Name: name, Data: data}
	index := t.Find(name)
	if index >= 0 {
		t.files[index] = file
		return api.OK
	}
	if t.count >= api.MaxFiles {
		return api.ErrMany
	}
	t.add(file)
	return api.OK
}

// Find tells where the file of this name is, or -1.
func (t *Table) Find(name string) int {
	for i := 0; i < t.count && i < api.MaxFiles; i++ {
		if t.files[i].Name == name {
			return i
		}
	}
	return -1
}

// File tells the file at a place that Find told; an empty one at any other.
func (t *Table) File(index int) api.File {
	if index < 0 || index >= t.count || index >= api.MaxFiles {
		return api.File{}
	}
	return t.files[index]
}

func (t *Table) add(file api.File) {
	if t.count < 0 || t.count >= api.MaxFiles {
		return
	}
	t.files[t.count] = file
	t.count++
}

func check(name string, data string) api.Errno {
	if !isName(name) {
		return api.ErrName
	}
	if len(data) > api.MaxData {
		return api.ErrLong
	}
	return api.OK
}

func isName(name string) bool {
	if len(name) < 1 || len(name) > api.MaxName {
		return false
	}
	for i := 0; i < len(name); i++ {
		if name[i] < '!' || name[i] > '~' || name[i] == '$' {
			return false
		}
	}
	return true
}
