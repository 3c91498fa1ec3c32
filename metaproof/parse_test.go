package metaproof

import (
	"fmt"
	"strings"
	"testing"

	"metaproof/api"
)

func treeOf(t *testing.T, v *Verifier, label, code string) string {
	t.Helper()
	tree, e := v.Parse(label, code)
	if cap(tree) != len(tree) || e != api.OK && tree != nil || e == api.OK && len(tree) == 0 {
		t.Errorf("P2: Parse(%q, %q) = %#v, %d", label, code, tree, e)
	}
	if e != api.OK {
		return fmt.Sprintf("error %d", e)
	}
	return strings.Join(tree, " ")
}

var (
	errLong = fmt.Sprintf("error %d", api.ErrLong)
	errNone = fmt.Sprintf("error %d", api.ErrNone)
	errTwo  = fmt.Sprintf("error %d", api.ErrTwo)
)

func TestParseExamples(t *testing.T) {
	v := verified(t, file("m", proofs+"t $a |- ( p > ( q > r ) ) $. ${ h $e |- r $. u $p |- ( q > p ) $= ? $. $} x $p w ( p > $= $. y $a w $."))
	for _, c := range [][3]string{
		{"t", "w", "wp wq wr wi wi"}, {"t", "|-", errNone}, {"t", "(", errNone}, {"t", "p", errNone}, {"t", "", errNone}, {"t", "none", errNone}, {"t", "w ", errNone},
		{"u", "w", "wq wp wi"}, {"u", "|-", errNone}, {"x", "w", errNone}, {"y", "w", errNone},
		{"wi", "w", errNone}, {"mp", "w", "wq"}, {"k", "w", "wp wq wp wi wi"}, {"k", "|-", errNone},
	} {
		if got := treeOf(t, v, c[0], c[1]); got != c[2] {
			t.Errorf("P18: Parse(%q, %q) = %s, want %s", c[0], c[1], got, c[2])
		}
	}
}

func TestParseErrors(t *testing.T) {
	v := New()
	labels := []string{"", "t", "wp", "min", "p", "w", "(", "T", "none", "\x80"}
	for _, label := range labels {
		if tree, e := v.Parse(label, "w"); tree != nil || e != api.ErrState {
			t.Errorf("P18: without a report Parse(%q) = %q, %d", label, tree, e)
		}
	}
	v.Put("m", proofs+"t $a w p $.")
	v.Verify("m")
	for _, label := range labels {
		for _, code := range []string{"w", "none", ""} {
			if tree, e := v.Parse(label, code); label != "t" && (tree != nil || e != api.ErrLabel) {
				t.Errorf("P18: Parse(%q, %q) = %q, %d", label, code, tree, e)
			}
		}
	}
	if got := treeOf(t, v, "t", "w"); got != "wp" {
		t.Errorf("P18: %s", got)
	}
	v.Verify("none")
	if got := treeOf(t, v, "t", "w"); got != "wp" {
		t.Errorf("P1, P18: %s", got)
	}
	v.Put("m", proofs+"t $a w p $. $")
	v.Verify("m")
	if tree, e := v.Parse("t", "w"); tree != nil || e != api.ErrState {
		t.Errorf("P9, P18: behind a fault: %q, %d", tree, e)
	}
}

func TestParseBound(t *testing.T) {
	const text = "$c w |- A B $. $v p $. wp $f w p $. a $a w A $. b $a w B p $. c $a |- A $. d $a |- A $. "
	for count := 0; count < 14; count++ {
		v := verified(t, file("m", text+"t $a |-"+strings.Repeat(" B", count)+" A $. u $p |-"+strings.Repeat(" B", count)+" p $= ? $. x $a |-"+strings.Repeat(" A", count+1)+" $."))
		more := strings.Repeat(" b", count)
		t1, t2, t3, t4 := "a"+more, "wp"+more, errNone, errNone
		if count == 0 {
			t3, t4 = "a", errTwo
		}
		if count > 9 {
			t1, t2, t3, t4 = errLong, errLong, errLong, errLong
		}
		for _, c := range [][3]string{{"t", "w", t1}, {"u", "w", t2}, {"x", "w", t3}, {"x", "|-", t4}} {
			if got := treeOf(t, v, c[0], c[1]); got != c[2] {
				t.Errorf("P18: %d symbols: Parse(%q, %q) = %s, want %s", count+1, c[0], c[1], got, c[2])
			}
		}
	}
}

// TestParseLongTrees: a tree of typecode a has 1 label, of b 3, of c 7, and so on: f has 63.
func TestParseLongTrees(t *testing.T) {
	text := "$c a b c d e f g h i z |- A $. $v x y $. la $a a $. "
	for i, code := range strings.Fields("b c d e f") {
		before := string('a' + rune(i))
		text += fmt.Sprintf("${ x%s $f %s x $. y%s $f %s y $. l%s $a %s x y $. $} ", code, before, code, before, code, code)
	}
	text += "${ ff $f f x $. lg $a g x $. lz $a z x $. lzz $a z x $. $} ${ fg $f g x $. lh $a h x $. li $a i A x $. $} t $a |- $. u $a |- A $."
	v := verified(t, file("m", text))
	for _, c := range []struct {
		label, code string
		count       int
		e           api.Errno
	}{
		{"t", "e", 31, api.OK}, {"t", "f", 63, api.OK}, {"t", "g", 64, api.OK}, {"t", "h", 0, api.ErrLong}, {"t", "z", 0, api.ErrTwo},
		{"u", "g", 0, api.ErrNone}, {"u", "i", 0, api.ErrLong}, {"t", "i", 0, api.ErrNone},
	} {
		if tree, e := v.Parse(c.label, c.code); len(tree) != c.count || cap(tree) != c.count || e != c.e {
			t.Errorf("P18: Parse(%q, %q): %d labels, %d, want %d, %d", c.label, c.code, len(tree), e, c.count, c.e)
		}
	}
	if got := treeOf(t, v, "t", "c"); got != "la la lb la la lb lc" {
		t.Errorf("P18: %s", got)
	}
}

func TestParseOverFiles(t *testing.T) {
	v := verified(t,
		file("m", "$[ n $]\nt $p |- ( q $( c $)\n> p ) $= $. u $a |- q > p $. $[ o $] x $a |- q > p $. y $a |- ( q > p ) $."),
		file("n", "$[ p $] wi $a w ( p > q ) $. ${ $d p q $. wd $a w p > q $. $}"),
		file("o", "wo $a w\n p\t> q $."),
		file("p", "$c ( ) > w |- $. $v p q $. wq $f w q $. wp $f w p $."))
	for _, c := range [][3]string{
		{"t", "w", "wp wq wi"}, {"u", "w", errNone}, {"x", "w", "wp wq wo"}, {"y", "w", "wp wq wi"}, {"wo", "w", errNone},
	} {
		if got := treeOf(t, v, c[0], c[1]); got != c[2] {
			t.Errorf("P18: Parse(%q, %q) = %s, want %s", c[0], c[1], got, c[2])
		}
	}
}

func TestParseIsFresh(t *testing.T) {
	text := proofs + "t $a |- ( p > q ) $."
	v, w := verified(t, file("m", text)), verified(t, file("m", text))
	one, _ := v.Parse("t", "w")
	other, _ := v.Parse("t", "w")
	for i := range one {
		one[i] = "mine"
	}
	const want = "wp wq wi"
	if got := strings.Join(other, " "); got != want || treeOf(t, v, "t", "w") != want || treeOf(t, w, "t", "w") != want || frameOf(t, v, "wi") != frameOf(t, w, "wi") {
		t.Errorf("P2: what is written into a tree shows elsewhere: %s", got)
	}
	v.Load(nil)
	if treeOf(t, w, "t", "w") != want {
		t.Errorf("P2: verifiers know of one another")
	}
}

func TestParseOfReadme(t *testing.T) {
	v := verified(t, file("m", "$c ( ) > w |- $. $v p q $. wp $f w p $. wq $f w q $. wi $a w ( p > q ) $. t $a |- ( q > ( p > q ) ) $."))
	if got := treeOf(t, v, "t", "w"); got != "wq wp wq wi wi" {
		t.Errorf("P18: README.md has another tree than %s", got)
	}
}

// spread lays a text that is too long for one file into several, each of which includes the one ahead; the last, the root, comes first.
func spread(t *testing.T, lines []string) []api.File {
	t.Helper()
	var files []api.File
	data := ""
	for i, line := range lines {
		data += line + "\n"
		if i+1 < len(lines) && len(data)+len(lines[i+1])+1 <= api.MaxData {
			continue
		}
		name := fmt.Sprintf("%d", len(files))
		files = append([]api.File{file(name, data)}, files...)
		data = "$[ " + name + " $]\n"
	}
	if len(files) > api.MaxFiles {
		t.Fatalf("%d files", len(files))
	}
	return files
}

// chain tells lines with a chain of typecodes: each is the next one, and the last one is the first with an A behind, or just B.
func chain(count int) []string {
	codes, variables := "$c A B |-", "$v"
	var typed, axioms []string
	for i := 0; i < count; i++ {
		codes += fmt.Sprintf(" c%d", i)
		variables += fmt.Sprintf(" %d", i)
		typed = append(typed, fmt.Sprintf("f%d $f c%d %d $.", i, i, i))
		axioms = append(axioms, fmt.Sprintf("a%d $a c%d %d $.", i, i, i+1))
	}
	axioms[count-1] = fmt.Sprintf("a%d $a c%d 0 A $. b $a c%d B $.", count-1, count-1, count-1)
	return append(append([]string{codes + " $.", variables + " $."}, typed...), axioms...)
}

// TestGreatestChain: as many typecodes as find room.
func TestGreatestChain(t *testing.T) {
	const count = 94
	v := verified(t, spread(t, append(chain(count), "t $a |- B $. u $a |- B A A A A A A A A A $. y $a |- A A A A A A A A A A $. c $a c50 B $. x $a |- B A A A A A A A A A $."))...)
	long := "b"
	for i := count - 2; i >= count-64; i-- {
		long += fmt.Sprintf(" a%d", i)
	}
	for _, c := range [][3]string{
		{"t", "c93", "b"}, {"t", "c92", "b a92"}, {"t", "c30", long}, {"t", "c29", errLong}, {"t", "c0", errLong}, {"t", "|-", errNone},
		{"u", "c93", errLong}, {"u", "c0", errLong}, {"y", "c0", errNone}, {"x", "c0", errTwo}, {"x", "c93", errTwo}, {"x", "c94", errNone},
	} {
		if got := treeOf(t, v, c[0], c[1]); got != c[2] {
			t.Errorf("P18: Parse(%q, %q) = %s, want %s", c[0], c[1], got, c[2])
		}
	}
}

// TestGreatestProduction: as many gaps as find room, each of which no symbols may fill.
func TestGreatestProduction(t *testing.T) {
	const count = 110
	lines := []string{"$c w s A |- $. la $a w $. ws $a w A $."}
	one, all := "", ""
	for i := 0; i < count; i++ {
		lines = append(lines, fmt.Sprintf("$v %d $. f%d $f w %d $.", i, i, i))
		all += fmt.Sprintf(" %d", i)
		if i < 63 {
			one = all
		}
	}
	lines = append(lines, "t $a |- $. u $a |- A A A A A A A A A A $.", "x $a s"+one+" $. y $a |-"+one+" 63 $. z $a A"+all+" $.", "tt $a |- $. uu $a |- A A A A A A A A A A $.")
	v := verified(t, spread(t, lines)...)
	for _, c := range [][3]string{
		{"t", "w", "la"}, {"u", "w", errNone}, {"t", "s", errNone},
		{"tt", "s", strings.Repeat("la ", 63) + "x"}, {"tt", "|-", errTwo}, {"tt", "A", errLong},
		{"uu", "s", errTwo}, {"uu", "A", errTwo}, {"uu", "w", errNone},
	} {
		if got := treeOf(t, v, c[0], c[1]); got != c[2] {
			t.Errorf("P18: Parse(%q, %q) = %s, want %s", c[0], c[1], got, c[2])
		}
	}
}
