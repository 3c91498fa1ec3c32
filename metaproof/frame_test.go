package metaproof

import (
	"fmt"
	"strings"
	"testing"

	"metaproof/api"
)

func frameOf(t *testing.T, v *Verifier, label string) string {
	t.Helper()
	lines, e := v.Frame(label)
	if e != api.OK {
		t.Fatalf("P10: Frame(%q) = %q, %d", label, lines, e)
	}
	if cap(lines) != len(lines) {
		t.Errorf("P2: Frame(%q) has spare room: %d of %d", label, len(lines), cap(lines))
	}
	return strings.Join(lines, " | ")
}

func verified(t *testing.T, files ...api.File) *Verifier {
	t.Helper()
	v := load(t, files...)
	if f, e := v.Verify(files[0].Name); e != api.OK {
		t.Fatalf("P9: %q: %v, %d", files, f, e)
	}
	return v
}

func TestFrameExamples(t *testing.T) {
	v := verified(t, file("m", proofs+"${ h $e |- p $. t $p |- ( q > p ) $= wp wq wp wi h wp wq k mp $. $}"))
	for label, want := range map[string]string{
		"wi": "wp $f w p | wq $f w q | wi $a w ( p > q )",
		"mp": "wp $f w p | wq $f w q | min $e |- p | maj $e |- ( p > q ) | mp $a |- q",
		"k":  "wp $f w p | wq $f w q | k $a |- ( p > ( q > p ) )",
		"t":  "wp $f w p | wq $f w q | h $e |- p | t $p |- ( q > p )",
	} {
		if got := frameOf(t, v, label); got != want {
			t.Errorf("P10: Frame(%q) = %s, want %s", label, got, want)
		}
	}
}

func TestFrameErrors(t *testing.T) {
	v := New()
	labels := []string{"", "h", "t", "wp", "p", "|-", "(", "T", "t ", "tt", "$d", "$p", "\x00"}
	for _, label := range labels {
		if lines, e := v.Frame(label); lines != nil || e != api.ErrState {
			t.Errorf("P10: without a report Frame(%q) = %q, %d", label, lines, e)
		}
	}
	v.Put("m", "$c |- ( $. $v p q $. wp $f |- p $. wq $f |- q $. $d p q $. ${ h $e ( $. t $p ( $= x $. $}")
	v.Verify("m")
	for _, label := range labels {
		lines, e := v.Frame(label)
		if label == "t" {
			if e != api.OK || strings.Join(lines, "|") != "h $e (|t $p (" {
				t.Errorf("P10: Frame(%q) = %q, %d", label, lines, e)
			}
		} else if lines != nil || e != api.ErrLabel {
			t.Errorf("P10: Frame(%q) = %q, %d", label, lines, e)
		}
	}
	if lines, e := v.Frame("x"); lines != nil || e != api.ErrLabel {
		t.Errorf("P10: Frame of a proof's word = %q, %d", lines, e)
	}
}

func TestFrameOfLastRead(t *testing.T) {
	v := load(t, file("m", "$c a $. l $a a $. m $a a $."), file("n", "$c b $. l $a b $."), file("o", "$c a $. l $a a $. $"))
	for i, c := range []struct {
		root, label string
		e           api.Errno
		frame       string
	}{
		{"m", "l", api.OK, "l $a a"}, {"m", "m", api.OK, "m $a a"},
		{"n", "l", api.OK, "l $a b"}, {"n", "m", api.ErrLabel, ""},
		{"none", "l", api.OK, "l $a b"},
		{"o", "l", api.ErrState, ""}, {"none", "l", api.ErrState, ""},
		{"m", "l", api.OK, "l $a a"},
	} {
		v.Verify(c.root)
		if lines, e := v.Frame(c.label); e != c.e || strings.Join(lines, "|") != c.frame {
			t.Errorf("P9: case %d: behind Verify(%q): Frame(%q) = %q, %d, want %q, %d", i, c.root, c.label, lines, e, c.frame, c.e)
		}
	}
	v.Put("p", "")
	if lines, e := v.Frame("l"); lines != nil || e != api.ErrState {
		t.Errorf("P3: behind Put: Frame = %q, %d", lines, e)
	}
}

func TestFrameIsFresh(t *testing.T) {
	text := "$c a $. $v x y $. fx $f a x $. fy $f a y $. $d x y $. e $e a y $. l $a a x $."
	v, w := verified(t, file("m", text)), verified(t, file("m", text))
	want := frameOf(t, v, "l")
	one, _ := v.Frame("l")
	other, _ := v.Frame("l")
	for i := range one {
		one[i] = "mine"
	}
	if got := strings.Join(other, " | "); got != want || frameOf(t, v, "l") != want || frameOf(t, w, "l") != want {
		t.Errorf("P2: what is written into a frame shows elsewhere: %s", got)
	}
	w.Load(nil)
	if frameOf(t, v, "l") != want {
		t.Errorf("P2: verifiers know of one another")
	}
}

func TestFrameOverFiles(t *testing.T) {
	v := verified(t,
		file("m", "$[ n $] e $e w p $. $[ o $] ${ $d r q $. a $a w r q $. $} b $a w r q $."),
		file("n", "$c w $. $( c $) $v p q r $. fr $f w $( c $) r $. $[ p $]"),
		file("o", "$d r\n\tp $. fq $f w q $. c $p\nw r $( d $) $= c $."),
		file("p", "fp $f w p $. ${ $d p r $. g $e w $. d $a w r $. $}"))
	for label, want := range map[string]string{
		"a": "fr $f w r | fp $f w p | e $e w p | fq $f w q | $d r p | $d r q | a $a w r q",
		"b": "fr $f w r | fp $f w p | e $e w p | fq $f w q | $d r p | b $a w r q",
		"c": "fr $f w r | fp $f w p | e $e w p | $d r p | c $p w r",
		"d": "fr $f w r | g $e w | d $a w r",
	} {
		if got := frameOf(t, v, label); got != want {
			t.Errorf("P10: Frame(%q) = %s, want %s", label, got, want)
		}
	}
}

func TestFrameOfReadme(t *testing.T) {
	v := verified(t, file("m", "$[ lib $] $v x $. f $f a x $. ${ e $e a x $. l $a a $. $}"), file("lib", "$c a $."))
	if got := frameOf(t, v, "l"); got != "f $f a x | e $e a x | l $a a" {
		t.Errorf("P10: README.md has another frame than %s", got)
	}
}

// scope is what is active in a block: a block begins with a copy of the outer one's, and drops it.
type scope struct {
	hypotheses [][]string // label, keyword, symbols
	apart      [][]string
}

func (s scope) copy() scope {
	return scope{append([][]string(nil), s.hypotheses...), append([][]string(nil), s.apart...)}
}

func holds(list []string, word string) bool {
	for _, w := range list {
		if w == word {
			return true
		}
	}
	return false
}

// frame tells the frame of an assertion as P10 says it, from what is active at it.
func (s scope) frame(assertion []string) string {
	mandatory := func(variable string) bool {
		if holds(assertion[2:], variable) {
			return true
		}
		for _, h := range s.hypotheses {
			if h[1] == "$e" && holds(h[2:], variable) {
				return true
			}
		}
		return false
	}
	var lines, variables []string
	for _, h := range s.hypotheses {
		if h[1] == "$e" || mandatory(h[3]) {
			lines = append(lines, strings.Join(h, " "))
			if h[1] == "$f" {
				variables = append(variables, h[3])
			}
		}
	}
	for i, one := range variables {
		for _, other := range variables[i+1:] {
			for _, d := range s.apart {
				if holds(d, one) && holds(d, other) {
					lines = append(lines, "$d "+one+" "+other)
					break
				}
			}
		}
	}
	return strings.Join(append(lines, strings.Join(assertion, " ")), " | ")
}

// expected tells the frames of a well-formed text without comments and inclusions.
func expected(text string) map[string]string {
	frames := map[string]string{}
	scopes := []scope{{}}
	var statement []string
	for _, word := range strings.Fields(text) {
		top := &scopes[len(scopes)-1]
		if word == "${" {
			scopes = append(scopes, top.copy())
			continue
		}
		if word == "$}" {
			scopes = scopes[:len(scopes)-1]
			continue
		}
		if word != "$." {
			statement = append(statement, word)
			continue
		}
		switch {
		case statement[0] == "$d":
			top.apart = append(top.apart, statement[1:])
		case statement[1] == "$f" || statement[1] == "$e":
			top.hypotheses = append(top.hypotheses, statement)
		case statement[1] == "$a":
			frames[statement[0]] = top.frame(statement)
		case statement[1] == "$p":
			end := 2
			for statement[end] != "$=" {
				end++
			}
			frames[statement[0]] = top.frame(statement[:end])
		}
		statement = nil
	}
	return frames
}

// someSymbols picks some of the words; a word may come more than once.
func someSymbols(d *dice, list []string) string {
	text := ""
	for i := d.below(4); i > 0 && len(list) > 0; i-- {
		text += " " + list[d.below(len(list))]
	}
	return text
}

// someStatement tells a statement that may stand behind the text, as far as the rules of P7 go for it alone.
func someStatement(d *dice, number int) string {
	symbols := strings.Fields("w , p q r s t")
	label := fmt.Sprintf("l%d", number)
	switch d.below(9) {
	case 0, 1:
		return label + " $f w " + symbols[2+d.below(5)]
	case 2:
		return label + " $e w" + someSymbols(d, symbols)
	case 3, 4:
		return label + " $a ," + someSymbols(d, symbols)
	case 5:
		return label + " $p w" + someSymbols(d, symbols) + " $=" + someSymbols(d, symbols)
	case 6:
		return "$v " + symbols[2+d.below(5)]
	}
	return "$d" + someSymbols(d, symbols[2:])
}

// someText goes on with statements that leave the text well-formed, and passes over the others.
func someText(t *testing.T, d *dice) string {
	text, open := "$c w , $. $v p q r s $. fq $f w q $. fp $f w p $. fr $f , r $. ", 0
	for i := 0; i < 40; i++ {
		part := someStatement(d, i) + " $. "
		if choice := d.below(8); choice == 0 {
			part = "${ "
			open++
		} else if choice == 1 && open > 0 {
			part = "$} "
			open--
		}
		if verify(t, text+part+strings.Repeat("$} ", open)).Rule == 0 {
			text += part
		}
	}
	return text + strings.Repeat("$} ", open)
}

func TestManyFrames(t *testing.T) {
	d := dice(3)
	asked, long := 0, 0
	for round := 0; round < 500; round++ {
		text := someText(t, &d)
		v := verified(t, file("m", text))
		for label, want := range expected(text) {
			asked++
			if got := frameOf(t, v, label); got != want {
				t.Fatalf("P10: %q: Frame(%q) = %s, want %s", text, label, got, want)
			}
			if strings.Contains(want, " | $d ") {
				long++
			}
		}
		for i := 0; i < 40; i++ {
			label := fmt.Sprintf("l%d", i)
			if _, e := v.Frame(label); (e == api.OK) != (expected(text)[label] != "") {
				t.Fatalf("P10: %q: Frame(%q) tells %d", text, label, e)
			}
		}
	}
	if asked < 1000 || long < 100 {
		t.Errorf("the texts are too plain: %d frames, %d with pairs", asked, long)
	}
}
