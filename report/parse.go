package report

import (
	"metaproof/api"
	"metaproof/grammar"
	"metaproof/trees"
)

// Parse tells the tree of a typecode for the symbols of the assertion of a number (P18).
func (r *Report) Parse(number int, code string) ([]string, api.Errno) {
	symbols := r.record.Statement(number).Rest()
	if len(symbols) > api.MaxParse {
		return nil, api.ErrLong
	}
	productions := grammar.Of(&r.record, number)
	return trees.Write(productions, symbols, code)
}
