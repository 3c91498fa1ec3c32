package record

import (
	"reflect"
	"testing"

	"metaproof/api"
)

// sample: d and g stand in an outer block, e in one within it, b behind that one but in the outer, and p behind both.
func sample() *Record {
	r := &Record{}
	r.Add(Statement{Kind: Floating, Label: "f", Symbols: []string{"w", "x"}}) // 0
	r.BeginBlock()
	r.Add(Statement{Kind: Disjoint, Label: "", Symbols: []string{"x", "y"}})  // 1
	r.Add(Statement{Kind: Floating, Label: "g", Symbols: []string{"w", "y"}}) // 2
	r.BeginBlock()
	r.Add(Statement{Kind: Essential, Label: "e", Symbols: []string{"w", "x"}}) // 3
	r.Add(Statement{Kind: Axiom, Label: "a", Symbols: []string{"w", "y"}})     // 4
	r.EndBlock()
	r.Add(Statement{Kind: Axiom, Label: "b", Symbols: []string{"w"}}) // 5
	r.EndBlock()
	r.Add(Statement{Kind: Theorem, Label: "p", Symbols: []string{"w", "x"}}) // 6
	return r
}

func TestHolds(t *testing.T) {
	r := sample()
	want := [][]int{{}, {0}, {0, 1}, {0, 1, 2}, {0, 1, 2, 3}, {0, 1, 2, 4}, {0, 4, 5}}
	for at, holding := range want {
		got := []int{}
		for n := -2; n < r.Count()+2; n++ {
			if r.Holds(n, at) {
				got = append(got, n)
			}
		}
		if !reflect.DeepEqual(got, holding) {
			t.Errorf("P6: at %d there hold %v, want %v", at, got, holding)
		}
	}
	for _, number := range []int{-1, r.Count(), r.Count() + 1} {
		if r.Holds(number, 100) {
			t.Errorf("P1: statement %d, which is not there, holds", number)
		}
	}
}

func TestBlocks(t *testing.T) {
	r := &Record{}
	r.EndBlock()
	r.BeginBlock()
	r.EndBlock()
	r.Add(Statement{Kind: Essential, Label: "e", Symbols: []string{"w"}})
	r.BeginBlock()
	r.BeginBlock()
	r.EndBlock()
	r.EndBlock()
	r.EndBlock()
	r.Add(Statement{Kind: Axiom, Label: "a", Symbols: []string{"w"}})
	if !r.Holds(0, 1) || !r.Holds(0, 100) {
		t.Errorf("P6: what stands outside of blocks has ended")
	}
	r.BeginBlock()
	r.Add(Statement{Kind: Essential, Label: "g", Symbols: []string{"w"}})
	r.EndBlock()
	if r.Holds(2, 3) {
		t.Errorf("P6: a block's end does not count while nothing stands behind it")
	}
	r.BeginBlock()
	r.Add(Statement{Kind: Axiom, Label: "b", Symbols: []string{"w"}})
	r.EndBlock()
	if r.Holds(2, 3) || r.Holds(2, 4) || !r.Holds(3, 4) || !r.Holds(0, 4) {
		t.Errorf("P6: a later block has changed what holds: %t %t %t %t", r.Holds(2, 3), r.Holds(2, 4), r.Holds(3, 4), r.Holds(0, 4))
	}
}

func TestFindAssertion(t *testing.T) {
	r := sample()
	for label, want := range map[string]int{"a": 4, "b": 5, "p": 6, "f": -1, "g": -1, "e": -1, "": -1, "w": -1, "x": -1, "none": -1} {
		if got := r.FindAssertion(label); got != want {
			t.Errorf("P10: the assertion %q is %d, want %d", label, got, want)
		}
	}
	if got := (&Record{}).FindAssertion(""); got != -1 {
		t.Errorf("P10: an empty record has the assertion %d", got)
	}
}

func TestFindHolding(t *testing.T) {
	r := sample()
	for at, want := range []string{"", "f", "f", "fg", "fge", "fga", "fab", "fabp"} {
		got := ""
		for _, label := range []string{"f", "g", "e", "a", "b", "p", "", "x", "w"} {
			n := r.FindHolding(label, at)
			if n < -1 || n >= 0 && (n >= at || r.Statement(n).Label != label || label == "") {
				t.Errorf("P11: at %d the label %q is that of %d", at, label, n)
			}
			if n >= 0 {
				got += label
			}
		}
		if got != want {
			t.Errorf("P11: at %d one may name %s, want %s", at, got, want)
		}
	}
}

func TestStatement(t *testing.T) {
	r := sample()
	for _, number := range []int{-1, 7, 100} {
		if got := r.Statement(number); !reflect.DeepEqual(got, Statement{}) {
			t.Errorf("P1: there is a statement %d: %+v", number, got)
		}
	}
	for number, want := range []string{"x", "", "y", "", "", "", ""} {
		if got := r.Statement(number).Variable(); got != want {
			t.Errorf("P6: statement %d types %q, want %q", number, got, want)
		}
	}
	if got := (Statement{Kind: Axiom, Symbols: []string{"w", "x"}}).Typecode(); got != "w" {
		t.Errorf("P6: the typecode is %q", got)
	}
	if got := (Statement{Kind: Axiom, Symbols: []string{"w", "x", "w"}}).Rest(); !reflect.DeepEqual(got, []string{"x", "w"}) {
		t.Errorf("P6: behind the typecode stands %v", got)
	}
	if got := (Statement{Kind: Axiom, Symbols: []string{"w"}}).Rest(); len(got) != 0 {
		t.Errorf("P6: behind a typecode alone stands %v", got)
	}
	if got := (Statement{}).Rest(); got != nil {
		t.Errorf("P1: a statement without symbols has %v", got)
	}
	if got := (Statement{}).Typecode(); got != "" {
		t.Errorf("P1: a statement without symbols has the typecode %q", got)
	}
	if got := (Statement{Kind: Floating, Symbols: []string{"w"}}).Variable(); got != "" {
		t.Errorf("P1: a $f of one symbol types %q", got)
	}
}

func TestOwnLists(t *testing.T) {
	symbols := []string{"w", "x", "y"}
	at := api.Place{File: "m", Line: 1, Col: 2}
	end := api.Place{File: "m", Line: 3, Col: 4}
	proof := []Word{{"a", at}, {"b", end}}
	r := &Record{}
	r.Add(Statement{Kind: Theorem, Label: "a", Symbols: symbols[:2], Proof: proof[:1], End: end, until: 7})
	symbols[0] = "v"
	proof[0] = Word{"c", end}
	if got := r.Statement(0); !reflect.DeepEqual(got, Statement{Kind: Theorem, Label: "a", Symbols: []string{"w", "x"}, Proof: []Word{{"a", at}}, End: end}) {
		t.Errorf("P2: the lists are kept: %+v", got)
	}
}
