package record

import (
	"reflect"
	"testing"
)

// sample: d and g stand in an outer block, e in one within it, b behind that one but in the outer, and p behind both.
func sample() *Record {
	r := &Record{}
	r.Add(Floating, "f", []string{"w", "x"}) // 0
	r.BeginBlock()
	r.Add(Disjoint, "", []string{"x", "y"})  // 1
	r.Add(Floating, "g", []string{"w", "y"}) // 2
	r.BeginBlock()
	r.Add(Essential, "e", []string{"w", "x"}) // 3
	r.Add(Axiom, "a", []string{"w", "y"})     // 4
	r.EndBlock()
	r.Add(Axiom, "b", []string{"w"}) // 5
	r.EndBlock()
	r.Add(Theorem, "p", []string{"w", "x"}) // 6
	return r
}

func TestHolds(t *testing.T) {
	r := sample()
	want := [][]int{{}, {0}, {0, 1}, {0, 1, 2}, {0, 1, 2, 3}, {0, 1, 2, 4}, {0, 4, 5}}
	for at, holding := range want {
		got := []int{}
		for n := -2; n < r.Count()+2; n++ {
			if r.Holds(n, at) {
				got = append(got, n)
			}
		}
		if !reflect.DeepEqual(got, holding) {
			t.Errorf("P6: at %d there hold %v, want %v", at, got, holding)
		}
	}
	for _, number := range []int{-1, r.Count(), r.Count() + 1} {
		if r.Holds(number, 100) {
			t.Errorf("P1: statement %d, which is not there, holds", number)
		}
	}
}

func TestBlocks(t *testing.T) {
	r := &Record{}
	r.EndBlock()
	r.BeginBlock()
	r.EndBlock()
	r.Add(Essential, "e", []string{"w"})
	r.BeginBlock()
	r.BeginBlock()
	r.EndBlock()
	r.EndBlock()
	r.EndBlock()
	r.Add(Axiom, "a", []string{"w"})
	if !r.Holds(0, 1) || !r.Holds(0, 100) {
		t.Errorf("P6: what stands outside of blocks has ended")
	}
	r.BeginBlock()
	r.Add(Essential, "g", []string{"w"})
	r.EndBlock()
	if r.Holds(2, 3) {
		t.Errorf("P6: a block's end does not count while nothing stands behind it")
	}
	r.BeginBlock()
	r.Add(Axiom, "b", []string{"w"})
	r.EndBlock()
	if r.Holds(2, 3) || r.Holds(2, 4) || !r.Holds(3, 4) || !r.Holds(0, 4) {
		t.Errorf("P6: a later block has changed what holds: %t %t %t %t", r.Holds(2, 3), r.Holds(2, 4), r.Holds(3, 4), r.Holds(0, 4))
	}
}

func TestFindAssertion(t *testing.T) {
	r := sample()
	for label, want := range map[string]int{"a": 4, "b": 5, "p": 6, "f": -1, "g": -1, "e": -1, "": -1, "w": -1, "x": -1, "none": -1} {
		if got := r.FindAssertion(label); got != want {
			t.Errorf("P10: the assertion %q is %d, want %d", label, got, want)
		}
	}
	if got := (&Record{}).FindAssertion(""); got != -1 {
		t.Errorf("P10: an empty record has the assertion %d", got)
	}
}

func TestStatement(t *testing.T) {
	r := sample()
	for _, number := range []int{-1, 7, 100} {
		if got := r.Statement(number); !reflect.DeepEqual(got, Statement{}) {
			t.Errorf("P1: there is a statement %d: %+v", number, got)
		}
	}
	for number, want := range []string{"x", "", "y", "", "", "", ""} {
		if got := r.Statement(number).Variable(); got != want {
			t.Errorf("P6: statement %d types %q, want %q", number, got, want)
		}
	}
	if got := (Statement{Kind: Floating, Symbols: []string{"w"}}).Variable(); got != "" {
		t.Errorf("P1: a $f of one symbol types %q", got)
	}
}

func TestOwnSymbols(t *testing.T) {
	symbols := []string{"w", "x", "y"}
	r := &Record{}
	r.Add(Axiom, "a", symbols[:2])
	symbols[0] = "v"
	if got := r.Statement(0); got.Label != "a" || got.Kind != Axiom || !reflect.DeepEqual(got.Symbols, []string{"w", "x"}) {
		t.Errorf("P2: the list is kept: %+v", got)
	}
}
