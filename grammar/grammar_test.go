package grammar

import (
	"fmt"
	"strings"
	"testing"

	"metaproof/api"
	"metaproof/record"
	"metaproof/statements"
)

func read(t *testing.T, text string) *record.Record {
	t.Helper()
	d := &statements.Database{}
	for i, word := range strings.Fields(text) {
		if rule := d.Take(word, api.Place{}); rule != 0 {
			t.Fatalf("P7: %q: word %d, %s, breaks %d", text, i+1, word, rule)
		}
	}
	r := d.Record()
	return &r
}

// written tells the productions one by one: label, typecode, then the parts; a gap is its place and typecode.
func written(t *testing.T, g *Grammar) string {
	t.Helper()
	var list []string
	for n := 0; n < g.Count(); n++ {
		p := g.Production(n)
		words := []string{p.Label + ":", g.codes[p.Code]}
		gaps := 0
		for _, part := range p.Parts {
			if part.Gap < 0 {
				words = append(words, part.Symbol)
			} else {
				words = append(words, fmt.Sprintf("<%d %s>", part.Gap, g.codes[p.Gaps[part.Gap]]))
				gaps++
			}
		}
		if gaps != len(p.Gaps) {
			t.Errorf("P18: %s has %d gaps, but %d typecodes for them", p.Label, gaps, len(p.Gaps))
		}
		list = append(list, strings.Join(words, " "))
	}
	return strings.Join(list, " | ")
}

const typed = "$c w s |- , $. $v p q r x $. fr $f s r $. fq $f w q $. fp $f w p $. fx $f s x $. "

func TestProductions(t *testing.T) {
	for _, c := range []struct{ text, label, want string }{
		{"t $a |- $.", "t", ""},
		{"t $a |- p , r p $.", "t", "fr: s r | fp: w p"},
		{"t $p |- q $= ? $.", "t", "fq: w q"},
		{"e $e |- q $. t $a |- p $.", "t", "fq: w q | fp: w p"},
		{"${ e $e |- q $. $} t $a |- p $.", "t", "fp: w p"},
		{"a $a w $. t $a |- $.", "t", "a: w"},
		{"a $a w , $. t $a |- p $.", "t", "fp: w p | a: w ,"},
		{"a $a w $. t $a |- $.", "a", ""},
		{"a $a w $. t $a |- $. b $a w $.", "t", "a: w"},
		{"a $a w , p , $. t $a |- q $.", "t", "fq: w q | a: w , <0 w> ,"},
		{"a $a s p r x q $. t $a |- $.", "t", "a: s <2 w> <0 s> <3 s> <1 w>"},
		{"a $a s x , p $. b $a |- r $. t $a |- $.", "t", "a: s <1 s> , <0 w> | b: |- <0 s>"},
		{"a $p w p $= fp $. t $a |- $.", "t", ""},
		{"a $a w p , p $. b $a w p , q $. t $a |- $.", "t", "b: w <1 w> , <0 w>"},
		{"a $a w p p p $. t $a |- $.", "t", ""},
		{"a $a w , , , $. t $a |- $.", "t", "a: w , , ,"},
		{"a $a w p q p $. t $a |- $.", "t", ""},
		{"a $a w q p p $. t $a |- $.", "t", ""},
	} {
		r := read(t, typed+c.text)
		if got := written(t, Of(r, r.FindAssertion(c.label))); got != c.want {
			t.Errorf("P18: %q: the grammar of %s is %s, want %s", c.text, c.label, got, c.want)
		}
	}
}

func TestFramesOfProductions(t *testing.T) {
	for _, c := range []struct{ text, want string }{
		{"${ e $e |- , $. a $a w , $. $} t $a |- $.", ""},
		{"${ e $e |- p $. a $a w p $. $} t $a |- $.", ""},
		{"${ e $e |- p $. $} a $a w p $. t $a |- $.", "a: w <0 w>"},
		{"${ a $a w p $. e $e |- p $. b $a w p $. $} t $a |- $.", "a: w <0 w>"},
		{"a $a w p $. e $e |- $. b $a w p $. t $a |- $.", "a: w <0 w>"},
		{"${ $d p q $. a $a w p q $. $} t $a |- $.", ""},
		{"${ $d q p $. a $a w p $. $} t $a |- $.", "a: w <0 w>"},
		{"${ $d q p $. a $a w , p x $. $} t $a |- $.", "a: w , <0 w> <1 s>"},
		{"${ $d r x p $. a $a w , p x $. $} t $a |- $.", ""},
		{"${ $d p q $. $} a $a w p q $. t $a |- $.", "a: w <1 w> <0 w>"},
		{"a $a w p q $. $d p q $. b $a w p q $. t $a |- $.", "a: w <1 w> <0 w>"},
		{"${ $v y $. fy $f |- y $. a $a w y , y $. b $a w y $. $} ${ $v y $. gy $f s y $. c $a w y $. $} t $a |- $.", "b: w <0 |-> | c: w <0 s>"},
		{"${ $v y $. fy $f |- y $. a $a w y $. $} $v y $. gy $f s y $. t $a |- y $.", "gy: s y | a: w <0 |->"},
	} {
		r := read(t, typed+c.text)
		if got := written(t, Of(r, r.FindAssertion("t"))); got != c.want {
			t.Errorf("P18: %q: the grammar is %s, want %s", c.text, got, c.want)
		}
	}
}

func TestCodes(t *testing.T) {
	r := read(t, typed+"b $a , $. a $a , q $. ${ e $e |- $. c $a |- p $. $} t $a |- r $.")
	g := Of(r, r.FindAssertion("t"))
	if got := fmt.Sprint(g.codes); got != "[s , w]" || g.Codes() != 3 {
		t.Errorf("P18: the %d typecodes are %s", g.Codes(), got)
	}
	for code, want := range map[string]int{"s": 0, ",": 1, "w": 2, "|-": -1, "": -1, "ss": -1, "r": -1} {
		if got := g.Find(code); got != want {
			t.Errorf("P18: the number of typecode %q is %d, want %d", code, got, want)
		}
	}
}

func TestFirstStatement(t *testing.T) {
	r := read(t, "$c w , $. a $a w , $. t $a w $.")
	for number, want := range []string{"", "a: w ,"} {
		if got := written(t, Of(r, number)); got != want {
			t.Errorf("P18: the grammar of statement %d is %s, want %s", number, got, want)
		}
	}
}

func TestNoSuchProduction(t *testing.T) {
	r := read(t, typed+"a $a |- q $. t $a |- r $.")
	g := Of(r, r.FindAssertion("t"))
	for _, n := range []int{-1, g.Count(), 1000} {
		if p := g.Production(n); p.Label != "" || p.Code != -1 || p.Parts != nil || p.Gaps != nil {
			t.Errorf("P18: production %d of %d is %+v", n, g.Count(), p)
		}
	}
	for _, n := range []int{-1, r.Count(), 1000} {
		Of(r, n)
	}
}
