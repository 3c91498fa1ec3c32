package metaproof

import (
	"reflect"
	"strings"
	"testing"

	"metaproof/api"
	"metaproof/report"
)

func load(t *testing.T, files ...api.File) *Verifier {
	t.Helper()
	v := New()
	if e := v.Load(files); e != api.OK {
		t.Fatalf("P3: Load = %d", e)
	}
	return v
}

func file(name, data string) api.File { return api.File{Name: name, Data: data} }

// reported asks each call that tells the state whether there is a report.
func reported(t *testing.T, v *Verifier) bool {
	t.Helper()
	_, frame := v.Frame("l")
	_, _, uses := v.Uses("l")
	_, steps := v.Steps("l")
	_, parse := v.Parse("l", "c")
	none := frame == api.ErrState
	if none && (v.Rows() != nil || !reflect.DeepEqual(v.report, report.Report{})) {
		t.Errorf("P3: a dropped report is kept: %v", v.Rows())
	}
	if (uses == api.ErrState) != none || (steps == api.ErrState) != none || (parse == api.ErrState) != none {
		t.Errorf("P9: the calls tell different states: %d %d %d %d", frame, uses, steps, parse)
	}
	return !none
}

func TestNew(t *testing.T) {
	v := New()
	if reported(t, v) {
		t.Errorf("P3: a new verifier has a report")
	}
	if f, e := v.Verify(""); f != (api.Fault{}) || e != api.ErrRoot {
		t.Errorf("P3: a new verifier has a file: %v, %d", f, e)
	}
	if rows := v.Rows(); rows != nil {
		t.Errorf("P15: rows without a report: %v", rows)
	}
}

func TestVerify(t *testing.T) {
	v := load(t, file("good", "$c a $. l $a a $."), file("bad", "$c a"), file("both", "$[ good $] $[ bad $]"))
	for i, c := range []struct {
		root   string
		fault  api.Fault
		e      api.Errno
		report bool
	}{
		{"none", api.Fault{}, api.ErrRoot, false},
		{"good", api.Fault{}, api.OK, true},
		{"none", api.Fault{}, api.ErrRoot, true},
		{"", api.Fault{}, api.ErrRoot, true},
		{"good ", api.Fault{}, api.ErrRoot, true},
		{"bad", api.Fault{Rule: api.REnd, At: api.Place{File: "bad", Line: 1, Col: 5}}, api.ErrFault, false},
		{"none", api.Fault{}, api.ErrRoot, false},
		{"good", api.Fault{}, api.OK, true},
		{"good", api.Fault{}, api.OK, true},
		{"both", api.Fault{Rule: api.RTaken, At: api.Place{File: "bad", Line: 1, Col: 4}}, api.ErrFault, false},
	} {
		if f, e := v.Verify(c.root); f != c.fault || e != c.e {
			t.Errorf("P9: case %d: Verify(%q) = %v, %d, want %v, %d", i, c.root, f, e, c.fault, c.e)
		}
		if reported(t, v) != c.report {
			t.Errorf("P9: case %d: behind Verify(%q) there is a report: %t", i, c.root, !c.report)
		}
	}
}

func TestReportDropped(t *testing.T) {
	long := strings.Repeat(" ", api.MaxData+1)
	for _, c := range []struct {
		name string
		call func(v *Verifier) api.Errno
		want api.Errno
	}{
		{"Load", func(v *Verifier) api.Errno { return v.Load(nil) }, api.OK},
		{"Load", func(v *Verifier) api.Errno { return v.Load([]api.File{file("m", "")}) }, api.OK},
		{"Load", func(v *Verifier) api.Errno { return v.Load(make([]api.File, 5)) }, api.ErrMany},
		{"Load", func(v *Verifier) api.Errno { return v.Load(make([]api.File, 1)) }, api.ErrName},
		{"Load", func(v *Verifier) api.Errno { return v.Load([]api.File{file("m", long)}) }, api.ErrLong},
		{"Load", func(v *Verifier) api.Errno { return v.Load([]api.File{file("m", ""), file("m", "")}) }, api.ErrTwice},
		{"Put", func(v *Verifier) api.Errno { return v.Put("m", "$") }, api.OK},
		{"Put", func(v *Verifier) api.Errno { return v.Put("n", "") }, api.OK},
		{"Put", func(v *Verifier) api.Errno { return v.Put("", "") }, api.ErrName},
		{"Put", func(v *Verifier) api.Errno { return v.Put("m", long) }, api.ErrLong},
		{"Put", func(v *Verifier) api.Errno { return v.Put("5", "") }, api.ErrMany},
	} {
		v := verified(t, file("m", "$c a $. l $a a $."), file("n", ""), file("o", ""), file("p", ""))
		before := *v
		frame := frameOf(t, v, "l")
		if e := c.call(v); e != c.want {
			t.Errorf("P3: %s = %d, want %d", c.name, e, c.want)
		}
		if reported(t, v) != (c.want != api.OK) {
			t.Errorf("P3: behind %s = %d there is a report: %t", c.name, c.want, reported(t, v))
		}
		if c.want != api.OK && (!reflect.DeepEqual(*v, before) || frameOf(t, v, "l") != frame) {
			t.Errorf("P1: %s = %d changed something", c.name, c.want)
		}
	}
}

func TestOwn(t *testing.T) {
	files := []api.File{file("m", "$c a $."), file("n", "$"), file("o", "$")}
	v := load(t, files[:2]...)
	if files[0] != file("m", "$c a $.") || files[1] != file("n", "$") || files[2] != file("o", "$") {
		t.Errorf("P2: Load wrote into the list")
	}
	files[0] = file("x", "$")
	if _, e := v.Verify("m"); e != api.OK {
		t.Errorf("P2: the list is kept: %d", e)
	}
	for _, root := range []string{"x", "o"} {
		if _, e := v.Verify(root); e != api.ErrRoot {
			t.Errorf("P2: %q is in the table: %d", root, e)
		}
	}
	w := New()
	if _, e := w.Verify("m"); e != api.ErrRoot || reported(t, w) {
		t.Errorf("P2: another verifier knows of the file: %d", e)
	}
	w.Put("m", "$")
	if _, e := v.Verify("m"); e != api.OK {
		t.Errorf("P2: another verifier's file shows: %d", e)
	}
}

func TestExamples(t *testing.T) {
	for _, c := range []struct {
		text      string
		rule      int
		line, col int
	}{
		{"$c a", 7, 1, 5},
		{"$c $.", 15, 1, 4},
		{"${ $v x $. $} $c x $.", 13, 1, 18},
		{"$x", 8, 1, 1},
		{"$c a $. a $a a $.", 13, 1, 9},
		{"$c a $. $v x y $. f $f x y $.", 17, 1, 24},
		{"$c a $. $v x y $. l $p a $.", 23, 1, 26},
		{"$c a $. ${ $v x $. f $f a x $. $} $v x $. g $f a x $. l $a a x $.", 0, 0, 0},
		{"$c a $. $v x y $. $d x a $.", 18, 1, 24},
		{"$( a $( b $) $)", 2, 1, 6},
		{"$( never", 3, 1, 9},
		{"ab\x80cd", 1, 1, 3},
		{"${ $[ a $] $}", 4, 1, 4},
		{"$[ a$ $]", 5, 1, 4},
		{"$[ $( c $) a $( d $) $] $c b $.", 13, 1, 28},
	} {
		v := load(t, file("a", "$c b $."), file("bad", "$c q $. ${"), file("m", c.text))
		want, errno := api.Fault{}, api.OK
		if c.rule != 0 {
			want, errno = api.Fault{Rule: c.rule, At: api.Place{File: "m", Line: c.line, Col: c.col}}, api.ErrFault
		}
		if f, e := v.Verify("m"); f != want || e != errno {
			t.Errorf("P8: %q: %v, %d, want %v", c.text, f, e, want)
		}
	}
}

const proofs = `$c ( ) > w |- $. $v p q r $. wp $f w p $. wq $f w q $. wr $f w r $. wi $a w ( p > q ) $.
${ min $e |- p $. maj $e |- ( p > q ) $. mp $a |- q $. $} k $a |- ( p > ( q > p ) ) $.
`

func TestWellFormed(t *testing.T) {
	for _, text := range []string{
		"t $p w ( p > q ) $= wp wq wi $.",
		"t $p w ( p > q ) $=  $.",
		"t $p w ( p > q ) $= wp x ? $.",
		"t $p w ( p > q ) $= ( wi $.",
		"${ h $e |- p $. t $p |- ( q > p ) $= wp wq wp wi h wp wq k mp $. $}",
	} {
		v := load(t, file("m", proofs+text))
		if f, e := v.Verify("m"); f != (api.Fault{}) || e != api.OK {
			t.Errorf("P9: %q: %v, %d", text, f, e)
		}
	}
}
