package report

import (
	"fmt"
	"reflect"
	"strings"
	"testing"

	"metaproof/api"
	"metaproof/table"
)

// base: the statements that the document's examples of proofs begin with.
const base = "$c ( ) > w |- $. $v p q r $. wp $f w p $. wq $f w q $. wr $f w r $. wi $a w ( p > q ) $. ${ min $e |- p $. maj $e |- ( p > q ) $. mp $a |- q $. $} k $a |- ( p > ( q > p ) ) $.\n"

func on(t *testing.T, text string) *Report {
	t.Helper()
	files := &table.Table{}
	if e := files.Put("m", text); e != api.OK {
		t.Fatalf("P3: Put = %d", e)
	}
	made, fault := On(files, 0)
	if fault != (api.Fault{}) {
		t.Fatalf("P8: %q: %+v", text, fault)
	}
	return &made
}

// rows tells the rows as words: label, verdict and, if there is one, why and where.
func rows(r *Report) string {
	var list []string
	for _, row := range r.Rows() {
		text := row.Label + " " + []string{"?", "axiom", "failed", "incomplete", "checked", "verified"}[row.Verdict]
		if row.Why != 0 {
			text += fmt.Sprintf(" F%d", row.Why)
		}
		if row.At != (api.Place{}) {
			text += fmt.Sprintf(" %s %d:%d", row.At.File, row.At.Line, row.At.Col)
		}
		list = append(list, text)
	}
	return strings.Join(list, ", ")
}

// uses tells the axioms, then the theorems without a proof; or the error.
func uses(t *testing.T, r *Report, label string) string {
	t.Helper()
	axioms, open, e := r.Uses(r.Find(label))
	for _, list := range [][]string{axioms, open} {
		if cap(list) != len(list) || len(list) == 0 && list != nil || e != api.OK && list != nil {
			t.Errorf("P2: Uses(%q) = %#v, %#v, %d", label, axioms, open, e)
		}
	}
	if e != api.OK {
		return fmt.Sprintf("E%d", e)
	}
	return strings.Join(axioms, " ") + "|" + strings.Join(open, " ")
}

func steps(t *testing.T, r *Report, label string) string {
	t.Helper()
	list, e := r.Steps(r.Find(label))
	if cap(list) != len(list) || (len(list) == 0) != (e != api.OK) || e != api.OK && list != nil {
		t.Errorf("P2: Steps(%q) = %#v, %d", label, list, e)
	}
	if e != api.OK {
		return fmt.Sprintf("E%d", e)
	}
	return strings.Join(list, " ")
}

func TestRows(t *testing.T) {
	head := strings.Replace(base, "\n", "", 1)
	const axioms = "wi axiom, mp axiom, k axiom"
	for _, c := range [][2]string{
		{"", axioms},
		{"\nt $p w p $= wp $.", axioms + ", t verified"},
		{"\nt $p w p $=\n wq\n$.", axioms + ", t failed F12 m 4:1"},
		{"\nt $p w p $= wp ? wq ? $.", axioms + ", t incomplete m 2:16"},
		{"\nt $p w p $= ( ) A? ? $.", axioms + ", t incomplete m 2:18"},
		{"\nt $p w p $= ? x $.", axioms + ", t failed F2 m 2:15"},
		{"\nt $p w p $= ( ) ?a $.", axioms + ", t failed F4 m 2:18"},
		{"\nt $p w p $= $. u $p w p $= ? $. ${ h $e |- p $. v $p |- p $= h $. $} z $a |- $.", axioms + ", t failed F1 m 2:13, u incomplete m 2:28, v verified, z axiom"},
		{"\nt $p w p $= wp ? $. u $p w p $= wp t $. v $p w p $= wp u $. x $p w p $= wq u $. y $p w p $= wp x $. z $p w p $= wp v y u $.",
			axioms + ", t incomplete m 2:16, u checked, v checked, x failed F12 m 2:78, y checked, z checked"},
		{"\nt $p w p $= wp $. u $p w p $= wp t $. v $p w p $= ( t u ) ABC $. x $p w p $= ( v u ) ACZD $.", axioms + ", t verified, u verified, v verified, x failed F11 m 2:91"},
		{"\nt $p w p $= ? $. u $p w p $= ( t ) A $. v $p w p $= ( t u ) AC $. x $p w p $= ( t ) AB $.", axioms + ", t incomplete m 2:13, u verified, v verified, x checked"},
		{"\n${ h $e w p $. $} t $p w p $= h $.", axioms + ", t failed F2 m 2:31"},
	} {
		if got := rows(on(t, head+c[0])); got != c[1] {
			t.Errorf("P14, P15: %q: %s, want %s", c[0], got, c[1])
		}
	}
	for _, text := range []string{"", "$c a $.", "$c a $. $v x $. f $f a x $. e $e a $. $d x x2 $."} {
		files := &table.Table{}
		files.Put("m", text)
		made, _ := On(files, 0)
		if got := made.Rows(); got != nil {
			t.Errorf("P15: %q has the rows %v", text, got)
		}
	}
}

func TestFault(t *testing.T) {
	files := &table.Table{}
	files.Put("m", base+"t $p w p $= ? $. u")
	made, fault := On(files, 0)
	if want := (api.Fault{Rule: api.REnd, At: api.Place{File: "m", Line: 2, Col: 19}}); fault != want || !reflect.DeepEqual(made, Report{}) {
		t.Errorf("P9: %+v, %+v, want %+v", fault, made, want)
	}
}

func TestUses(t *testing.T) {
	r := on(t, base+"${ h $e |- p $. t $p |- ( q > p ) $= wp wq wp wi h wp wq k mp $. $} s $p |- ( r > ( p > ( q > p ) ) ) $= wp wq wp wi wi wr wp wq k t $.\n"+
		"w1 $p w p $= wp $. w2 $p w ( p > p ) $= wp w1 wp wi $. w3 $p w p $= ( wi mp ) A $. a1 $a w $. a0 $a w p $. w4 $p w $= a1 a0 a0 $.")
	for label, want := range map[string]string{
		"wi": "wi|", "mp": "mp|", "k": "k|", "t": "wi mp k|", "s": "wi mp k|", "w1": "|", "w2": "wi|", "w3": "|", "w4": "a1 a0|", "a1": "a1|",
	} {
		if got := uses(t, r, label); got != want {
			t.Errorf("P16: %s uses %s, want %s", label, got, want)
		}
	}
	// what is behind a theorem without a proof is not reached; a theorem that is only checked is gone through
	r = on(t, "$c w $. $v p $. wp $f w p $. a $a w p $. b $a w p $. c $a w p $. no $p w p $= wp wp c $. i $p w p $= wp a ? $. ok $p w p $= wp b $. d $p w p $= wp ok i $. e $p w p $= ( d a ) ACB $. g $p w p $= wp e no $. h $p w p $= wp no i no a $. j $p w p $= wp g d e $. k $p w p $= ( i e ) A $.")
	for label, want := range map[string]string{
		"a": "a|", "no": "E9", "i": "E9", "ok": "b|", "d": "b|i", "e": "a b|i", "g": "a b|no i", "h": "a|no i", "j": "a b|no i", "k": "|",
	} {
		if got := uses(t, r, label); got != want {
			t.Errorf("P16: %s uses %s, want %s", label, got, want)
		}
	}
	if got := rows(r); !strings.HasSuffix(got, "ok verified, d checked, e checked, g checked, h checked, j checked, k verified") {
		t.Errorf("P14: %s", got)
	}
}

// TestFirstStatement: the database may begin with an assertion, and a step may have the number of another statement than it names.
func TestFirstStatement(t *testing.T) {
	const more = " ${ e1 $e w $. e2 $e w $. two $a w $. $} t $p w $= ( a two ) AZCB $. u $p w $= a b two $."
	for _, c := range [][5]string{
		{"$c w $. a $a w $. b $p w $= a $." + more, "a axiom, b verified, two axiom, t verified, u verified", "a two|", "a two|", "a a two"},
		{"$c w $. b $p w $= ? $. a $a w $." + more, "b incomplete m 1:19, a axiom, two axiom, t verified, u checked", "a two|", "a two|b", "a a two"},
		{"$c w $. b $p w $= $. a $p w $= b $." + more, "b failed F1 m 1:19, a checked, two axiom, t checked, u checked", "two|b", "two|b", "a a two"},
		{"$c w $. b $p w $= b $. a $p w $= ( ) ? $." + more, "b failed F2 m 1:19, a incomplete m 1:38, two axiom, t checked, u checked", "two|a", "two|b a", "a a two"},
	} {
		r := on(t, c[0])
		if got := rows(r); got != c[1] {
			t.Errorf("P15: %q: %s, want %s", c[0], got, c[1])
		}
		if got := uses(t, r, "t"); got != c[2] {
			t.Errorf("P16: %q: t uses %s, want %s", c[0], got, c[2])
		}
		if got := uses(t, r, "u"); got != c[3] {
			t.Errorf("P16: %q: u uses %s, want %s", c[0], got, c[3])
		}
		if got := steps(t, r, "t"); got != c[4] {
			t.Errorf("P17: %q: %s, want %s", c[0], got, c[4])
		}
	}
	if got := uses(t, on(t, "$c w $. a $a w $."), "a"); got != "a|" {
		t.Errorf("P16: an axiom uses %s", got)
	}
}

func TestSteps(t *testing.T) {
	r := on(t, base+"a $p w ( p > q ) $= wp wq wi $. b $p w ( p > q ) $= ( wi ) ABC $. c $p w ( ( p > p ) > ( p > p ) ) $= ( wi ) AABZCB $. d $p w ( p > q ) $= ( wi ) AZBZC $. e $p w ( ( p > q ) > ( p > q ) ) $= ( wi ) AZBZCZDECC $.\n"+
		"f $p w ( ( p > p ) > ( p > p ) ) $= ( wi ) AZCBZDZB $. g $p w ( ( p > q ) > p ) $= ( b wi ) ABCAD $. h $p w p $= ? $. i $p w p $= x $. ${ y $e |- p $. j $p |- p $= ( ) BZ $. $} l $p w q $= ( wq ) A $.")
	for label, want := range map[string]string{
		"a": "wp wq wi", "b": "wp wq wi", "c": "wp wp wi wp wp wi wi", "d": "wp wq wi", "e": "wp wq wi wp wq wi wi", "f": "wp wp wi wp wp wi wi", "g": "wp wq b wp wi", "h": "E9", "i": "E9", "j": "y", "l": "E9", "wi": "E9", "mp": "E9",
	} {
		if got := steps(t, r, label); got != want {
			t.Errorf("P17: Steps(%s) = %s, want %s", label, got, want)
		}
	}
}

// numeral tells a number as P12 has it.
func numeral(number int) string {
	text := string(rune('A' + (number-1)%20))
	for high := (number - 1) / 20; high > 0; high = (high - 1) / 5 {
		text = string(rune('U'+(high-1)%5)) + text
	}
	return text
}

func TestManySteps(t *testing.T) {
	const head = "$c w $. $v p $. wp $f w p $. a $a w p $. ${ h1 $e w p $. h2 $e w p $. two $a w p $. $}"
	for n := 60; n < 70; n++ {
		r := on(t, head+" t $p w p $= wp"+strings.Repeat(" a", n-1)+" $. u $p w p $= ( a ) A"+strings.Repeat("B", n-1)+" $.")
		for _, label := range []string{"t", "u"} {
			want := "wp" + strings.Repeat(" a", n-1)
			if n > api.MaxSteps {
				want = "E3"
			}
			if got := steps(t, r, label); got != want {
				t.Errorf("P17: %d labels: Steps(%s) = %s", n, label, got)
			}
		}
	}
	// each level takes the one below it, and that once more: the labels double
	for levels := 0; levels < 120; levels++ {
		proof, written := strings.Repeat("A", levels)+"AZ", "wp"
		for i := 0; i < levels; i++ {
			proof += numeral(4+i) + "CZ"
			if len(written) < 1000 {
				written = "wp " + written + " " + written + " two"
			}
		}
		count := len(strings.Fields(written))
		for more := 0; more < 40 && (more == 0 || levels == 4); more++ {
			r := on(t, head+" t $p w p $= ( a two ) "+proof+strings.Repeat("B", more)+" $.")
			want := written + strings.Repeat(" a", more)
			if count+more > api.MaxSteps {
				want = "E3"
			}
			if got := rows(r); !strings.HasSuffix(got, "t verified") {
				t.Errorf("P14: %d levels: %s", levels, got)
			}
			if got := steps(t, r, "t"); got != want {
				t.Errorf("P17: %d levels and %d: %s, want %s", levels, more, got, want)
			}
		}
	}
}

func parse(t *testing.T, r *Report, label, code string) string {
	t.Helper()
	list, e := r.Parse(r.Find(label), code)
	if cap(list) != len(list) || (len(list) == 0) != (e != api.OK) || e != api.OK && list != nil {
		t.Errorf("P2: Parse(%q, %q) = %#v, %d", label, code, list, e)
	}
	if e != api.OK {
		return fmt.Sprintf("E%d", e)
	}
	return strings.Join(list, " ")
}

func TestParse(t *testing.T) {
	r := on(t, base+"t $a |- ( p > ( q > r ) ) $. u $p |- ( q > p ) $= wq wp wi $. n $a w > p $. y $a |- > > > > > > > > > q $. z $a |- > > > > > > > > > > q $. e $a ( $. f $a |- $. v $a w p $. x $a |- q $.")
	for _, c := range [][3]string{
		{"t", "w", "wp wq wr wi wi"}, {"t", "|-", "E10"}, {"u", "w", "wq wp wi"}, {"u", "none", "E10"}, {"wi", "w", "E10"},
		{"x", "w", "E11"}, {"x", "(", "E10"}, {"y", "w", "wq n n n n n n n n n"}, {"y", "|-", "E10"}, {"z", "w", "E3"}, {"z", "none", "E3"}, {"f", "(", "e"},
	} {
		if got := parse(t, r, c[0], c[1]); got != c[2] {
			t.Errorf("P18: %s to %s is %s, want %s", c[0], c[1], got, c[2])
		}
	}
}

func TestNoSuchAssertion(t *testing.T) {
	r := on(t, base+"t $p w p $= wp $.")
	for number := -2; number < r.record.Count()+2; number++ {
		axioms, open, e := r.Uses(number)
		list, f := r.Steps(number)
		if !r.record.Statement(number).IsAssertion() && (r.verdict(number) != 0 || axioms != nil || open != nil || e != api.OK || list != nil || f != api.ErrVerdict) {
			t.Errorf("P1: statement %d: %q, %q, %d, %q, %d", number, axioms, open, e, list, f)
		}
	}
	for _, number := range []int{-1, r.record.Count() + 1} {
		if tree, e := r.Parse(number, "|-"); tree != nil || e != api.ErrNone && e != api.ErrTwo {
			t.Errorf("P1: statement %d: %q, %d", number, tree, e)
		}
	}
	empty := &Report{}
	if empty.Rows() != nil || empty.Find("") != -1 || empty.Find("t") != -1 {
		t.Errorf("P15: an empty report has rows")
	}
}

func TestFresh(t *testing.T) {
	r := on(t, base+"t $p w ( p > q ) $= wp wq wi $. u $p w p $= ? $. v $p w p $= wp u $.")
	told := func() string {
		return rows(r) + uses(t, r, "t") + uses(t, r, "v") + steps(t, r, "t") + strings.Join(r.Frame(r.Find("t")), " ") + parse(t, r, "t", "w")
	}
	before := told()
	list := r.Rows()
	axioms, open, _ := r.Uses(r.Find("v"))
	labels, _ := r.Steps(r.Find("t"))
	frame := r.Frame(r.Find("t"))
	tree, _ := r.Parse(r.Find("t"), "w")
	for i := range list {
		list[i] = api.Row{Label: "mine", Verdict: 1}
	}
	for _, mine := range [][]string{axioms, open, labels, frame, tree} {
		for i := range mine {
			mine[i] = "mine"
		}
	}
	if told() != before {
		t.Errorf("P2: what is written into the lists shows elsewhere: %s", told())
	}
	if cap(list) != len(list) {
		t.Errorf("P2: the rows have spare room: %d of %d", len(list), cap(list))
	}
}
