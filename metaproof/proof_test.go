package metaproof

import (
	"fmt"
	"strings"
	"testing"

	"metaproof/api"
)

// rowOf tells the row of an assertion; wrong, if there is none.
func rowOf(v *Verifier, label string) api.Row {
	for _, row := range v.Rows() {
		if row.Label == label {
			return row
		}
	}
	return api.Row{Label: "none"}
}

func stepsOf(t *testing.T, v *Verifier, label string) string {
	t.Helper()
	steps, e := v.Steps(label)
	if cap(steps) != len(steps) || e != api.OK && steps != nil || e == api.OK && steps == nil {
		t.Errorf("P2: Steps(%q) = %#v, %d", label, steps, e)
	}
	if e != api.OK {
		return fmt.Sprintf("error %d", e)
	}
	return strings.Join(steps, " ")
}

func usesOf(t *testing.T, v *Verifier, label string) string {
	t.Helper()
	axioms, open, e := v.Uses(label)
	for _, list := range [][]string{axioms, open} {
		if cap(list) != len(list) || len(list) == 0 && list != nil || e != api.OK && list != nil {
			t.Errorf("P2: Uses(%q) = %#v, %#v, %d", label, axioms, open, e)
		}
	}
	if e != api.OK {
		return fmt.Sprintf("error %d", e)
	}
	return strings.Join(axioms, " ") + " | " + strings.Join(open, " ")
}

func TestProofExamples(t *testing.T) {
	for _, c := range []struct {
		text         string
		verdict, why int
		col          int
		steps        string
	}{
		{"t $p w ( p > q ) $= wp wq wi $.", api.Verified, 0, 0, "wp wq wi"},
		{"t $p w ( ( p > q ) > r ) $= wp wq wi wr wi $.", api.Verified, 0, 0, "wp wq wi wr wi"},
		{"t $p w ( p > q ) $= wp wq $.", api.Failed, api.FLeft, 27, ""},
		{"t $p w ( p > q ) $= wi $.", api.Failed, api.FUnder, 21, ""},
		{"t $p w ( p > q ) $=  $.", api.Failed, api.FEmpty, 22, ""},
		{"t $p w ( p > q ) $= wp ? wi $.", api.Incomplete, 0, 24, ""},
		{"t $p w ( p > q ) $= wp x ? $.", api.Failed, api.FLabel, 24, ""},
		{"t $p w ( p > q ) $= min $.", api.Failed, api.FLabel, 21, ""},
		{"t $p w ( p > q ) $= wp wq wi wr $.", api.Failed, api.FLeft, 33, ""},
		{"t $p w p $= wq $.", api.Failed, api.FGoal, 16, ""},
		{"t $p w ( p > q ) $= ( wi ) ABC $.", api.Verified, 0, 0, "wp wq wi"},
		{"t $p w ( p > p ) $= ( wi ) AAB $.", api.Verified, 0, 0, "wp wp wi"},
		{"t $p w ( ( p > p ) > ( p > p ) ) $= ( wi ) AABZCB $.", api.Verified, 0, 0, "wp wp wi wp wp wi wi"},
		{"t $p w ( p > q ) $= ( wi ) ABD $.", api.Failed, api.FRange, 30, ""},
		{"t $p w ( p > q ) $= ( wi ) ABU? $.", api.Failed, api.FLetter, 31, ""},
		{"t $p w ( p > q ) $= ( wi ) ABCU $.", api.Failed, api.FLetter, 33, ""},
		{"t $p w ( p > q ) $= ( wi ) ZABC $.", api.Failed, api.FLetter, 28, ""},
		{"t $p w ( p > q ) $= ( wi ) ?Z $.", api.Failed, api.FLetter, 29, ""},
		{"t $p w ( p > q ) $= ( wi $.", api.Failed, api.FBlock, 26, ""},
		{"t $p w ( p > q ) $= ( wi wi ) A $.", api.Failed, api.FBlock, 26, ""},
	} {
		v := verified(t, file("m", proofs+c.text))
		want := api.Row{Label: "t", Verdict: c.verdict, Why: c.why}
		if c.col > 0 {
			want.At = api.Place{File: "m", Line: 3, Col: c.col}
		}
		if got := rowOf(v, "t"); got != want {
			t.Errorf("P14, P15: %s: %+v, want %+v", c.text, got, want)
		}
		steps, uses := c.steps, "wi | "
		if c.steps == "" {
			steps, uses = fmt.Sprintf("error %d", api.ErrVerdict), fmt.Sprintf("error %d", api.ErrVerdict)
		}
		if got := stepsOf(t, v, "t"); got != steps {
			t.Errorf("P17: %s: %s, want %s", c.text, got, steps)
		}
		if got := usesOf(t, v, "t"); got != uses {
			t.Errorf("P16: %s: %s, want %s", c.text, got, uses)
		}
	}
	v := verified(t, file("m", proofs+"${ h $e |- p $. t $p |- ( q > p ) $= wp wq wp wi h wp wq k mp $. $}"))
	if got := rowOf(v, "t"); got != (api.Row{Label: "t", Verdict: api.Verified}) || usesOf(t, v, "t") != "wi mp k | " {
		t.Errorf("P14, P16: %+v uses %s", got, usesOf(t, v, "t"))
	}
}

func TestProofErrors(t *testing.T) {
	v := New()
	labels := []string{"", "t", "u", "wp", "min", "p", "(", "T", "none", "\x80"}
	for _, label := range labels {
		axioms, open, e := v.Uses(label)
		steps, f := v.Steps(label)
		if axioms != nil || open != nil || e != api.ErrState || steps != nil || f != api.ErrState {
			t.Errorf("P16, P17: without a report: %q: %q, %q, %d, %q, %d", label, axioms, open, e, steps, f)
		}
	}
	v.Put("m", proofs+"t $p w p $= wp $. u $p w p $= ? $.")
	v.Verify("m")
	for _, label := range labels {
		axioms, open, e := v.Uses(label)
		steps, f := v.Steps(label)
		want := api.ErrLabel
		if label == "u" {
			want = api.ErrVerdict
		}
		if label != "t" && (axioms != nil || open != nil || e != want || steps != nil || f != want) {
			t.Errorf("P16, P17: %q: %q, %q, %d, %q, %d, want %d", label, axioms, open, e, steps, f, want)
		}
	}
	if got := stepsOf(t, v, "wi"); got != fmt.Sprintf("error %d", api.ErrVerdict) {
		t.Errorf("P17: Steps of an axiom: %s", got)
	}
	v.Put("m", proofs+"t $p w p $= wp $. u $p w p $= ? $")
	v.Verify("m")
	if rows := v.Rows(); rows != nil {
		t.Errorf("P15: rows behind a fault: %v", rows)
	}
}

func TestProofsOverFiles(t *testing.T) {
	v := verified(t,
		file("m", "$[ n $]\nt $p w ( p > q ) $= $( c $)\n( $( d $) wi ) A $( e $) B\n CZ $. $[ o $] v $p w p $= wp u $."),
		file("n", "$[ p $] wi $a w ( p > q ) $. s $p w p $=\n? $."),
		file("o", "u $p w p $=\r\n  wp\twp\n\n\f $."),
		file("p", "$c ( ) > w $. $v p q $. wp $f w p $. wq $f w q $. r $p w p $= wp\n x $."))
	want := []api.Row{
		{Label: "r", Verdict: api.Failed, Why: api.FLabel, At: api.Place{File: "p", Line: 2, Col: 2}},
		{Label: "wi", Verdict: api.Axiom},
		{Label: "s", Verdict: api.Incomplete, At: api.Place{File: "n", Line: 2, Col: 1}},
		{Label: "t", Verdict: api.Verified},
		{Label: "u", Verdict: api.Failed, Why: api.FLeft, At: api.Place{File: "o", Line: 4, Col: 3}},
		{Label: "v", Verdict: api.Checked},
	}
	if got := v.Rows(); fmt.Sprint(got) != fmt.Sprint(want) || cap(got) != len(got) {
		t.Errorf("P15: %v, want %v", got, want)
	}
	if got := usesOf(t, v, "v"); got != " | u" {
		t.Errorf("P16: %s", got)
	}
	if got := stepsOf(t, v, "t"); got != "wp wq wi" {
		t.Errorf("P17: %s", got)
	}
}

func TestProofListsAreFresh(t *testing.T) {
	text := proofs + "t $p w ( p > q ) $= wp wq wi $. u $p w p $= ? $. v $p w ( p > q ) $= wp u wq u wi $."
	v, w := verified(t, file("m", text)), verified(t, file("m", text))
	told := func(v *Verifier) string {
		return fmt.Sprint(v.Rows()) + usesOf(t, v, "v") + stepsOf(t, v, "t") + frameOf(t, v, "v")
	}
	before := told(v)
	rows := v.Rows()
	for i := range rows {
		rows[i] = api.Row{Label: "mine", Verdict: api.Failed}
	}
	axioms, open, _ := v.Uses("v")
	steps, _ := v.Steps("v")
	for _, list := range [][]string{axioms, open, steps} {
		for i := range list {
			list[i] = "mine"
		}
	}
	if told(v) != before || told(w) != before {
		t.Errorf("P2: what is written into a list shows elsewhere: %s", told(v))
	}
	v.Put("n", "")
	if told(w) != before || v.Rows() != nil {
		t.Errorf("P2, P3: %s; %v", told(w), v.Rows())
	}
}

func TestProofsOfReadme(t *testing.T) {
	v := verified(t, file("m", "$[ lib $] $v x $. f $f a x $. ax $a a x $.\nt $p a x $= f ax ax $. u $p a x $= ? $. v $p a x $= ( u ax ) ABZC $."), file("lib", "$c a $."))
	want := []api.Row{{Label: "ax", Verdict: api.Axiom}, {Label: "t", Verdict: api.Verified}, {Label: "u", Verdict: api.Incomplete, At: api.Place{File: "m", Line: 2, Col: 36}}, {Label: "v", Verdict: api.Checked}}
	if got := v.Rows(); fmt.Sprint(got) != fmt.Sprint(want) {
		t.Errorf("P15: README.md has other rows than %v", got)
	}
	if got := usesOf(t, v, "v") + " " + stepsOf(t, v, "v"); got != "ax | u f u ax" {
		t.Errorf("P16, P17: README.md says otherwise than %s", got)
	}
}

// TestGreatestProof keeps as many variables apart as find room, each from all the others.
func TestGreatestProof(t *testing.T) {
	const count = 60
	var names, typed, letters strings.Builder
	for i := 0; i < count; i++ {
		fmt.Fprintf(&names, " v%02d", i)
		fmt.Fprintf(&typed, "f%02d $f w v%02d $. ", i, i)
	}
	half := len(names.String()) / 2
	for i := 0; i < count+2; i++ {
		letters.WriteString(numeralOf[i])
	}
	last := numeralOf[count+2]
	data := "$[ o $]\nt $p w $= ( ax ) " + letters.String() + last + " $.\nu $p w $= ( ax ) " + strings.Replace(letters.String(), "S", "T", 1) + last + " $.\n"
	v := verified(t, file("m", data),
		file("n", "$c w $. $v"+names.String()+" $."),
		file("o", "$[ n $] $[ p $] $d"+names.String()+" $. one $e w"+names.String()[:half]+" $. two $e w"+names.String()[half:]+" $. ax $a w $."),
		file("p", typed.String()))
	lines, e := v.Frame("t")
	if e != api.OK || len(lines) != count+2+count*(count-1)/2+1 {
		t.Errorf("P10: %d lines, %d", len(lines), e)
	}
	if got := rowOf(v, "t"); got != (api.Row{Label: "t", Verdict: api.Verified}) {
		t.Errorf("P13: %+v", got)
	}
	line := strings.Split(data, "\n")[2]
	want := api.Row{Label: "u", Verdict: api.Failed, Why: api.FHyp, At: api.Place{File: "m", Line: 3, Col: len(line) - 3}}
	if got := rowOf(v, "u"); got != want {
		t.Errorf("P13: %+v, want %+v", got, want)
	}
	if got := usesOf(t, v, "t"); got != "ax | " {
		t.Errorf("P16: %s", got)
	}
	if steps, e := v.Steps("t"); len(steps) != count+3 || e != api.OK {
		t.Errorf("P17: %d steps, %d", len(steps), e)
	}
}
