package apart

import (
	"testing"

	"metaproof/record"
)

// sample: $d p q r and, in a block with the statement 3, $d r s; the statement 4 stands behind the block.
func sample() *record.Record {
	r := &record.Record{}
	r.Add(record.Statement{Kind: record.Disjoint, Symbols: []string{"p", "q", "r"}})
	r.BeginBlock()
	r.Add(record.Statement{Kind: record.Axiom, Label: "a", Symbols: []string{"p", "s"}})
	r.Add(record.Statement{Kind: record.Disjoint, Symbols: []string{"r", "s"}})
	r.Add(record.Statement{Kind: record.Axiom, Label: "b", Symbols: []string{"p", "s"}})
	r.EndBlock()
	r.Add(record.Statement{Kind: record.Axiom, Label: "c", Symbols: []string{"p", "s"}})
	return r
}

func pairs(t *Table, variables []string) string {
	text := ""
	for i := range variables {
		for j := range variables {
			if t.Apart(i, j) {
				text += variables[i] + variables[j] + " "
			}
		}
	}
	return text
}

func TestApart(t *testing.T) {
	for _, c := range []struct {
		number    int
		variables []string
		want      string
	}{
		{0, []string{"p", "q", "r", "s"}, ""},
		{1, []string{"p", "q", "r", "s"}, "pq pr qp qr rp rq "},
		{2, []string{"p", "q", "r", "s"}, "pq pr qp qr rp rq "},
		{3, []string{"p", "q", "r", "s"}, "pq pr qp qr rp rq rs sr "},
		{4, []string{"p", "q", "r", "s"}, "pq pr qp qr rp rq "},
		{3, []string{"s", "p", "r"}, "sr pr rs rp "},
		{3, []string{"s", "p"}, ""},
		{3, []string{"x"}, ""},
		{3, nil, ""},
	} {
		table := At(sample(), c.number, c.variables)
		if got := pairs(table, c.variables); got != c.want {
			t.Errorf("P10: at %d of %q there are apart: %s, want %s", c.number, c.variables, got, c.want)
		}
	}
}

func TestPositions(t *testing.T) {
	variables := []string{"s", "p", "r"}
	table := At(sample(), 3, variables)
	variables[0] = "x"
	for word, want := range map[string]int{"s": 0, "p": 1, "r": 2, "q": -1, "x": -1, "": -1} {
		if got := table.Position(word); got != want {
			t.Errorf("P2: %q stands at %d, want %d", word, got, want)
		}
	}
	for one := -4; one < 8; one++ {
		for other := -4; other < 8; other++ {
			if table.Apart(one, other) != (one == 2 && (other == 0 || other == 1) || other == 2 && (one == 0 || one == 1)) {
				t.Errorf("P1: %d and %d are apart: %t", one, other, table.Apart(one, other))
			}
		}
	}
}
