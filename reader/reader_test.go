package reader

import (
	"strings"
	"testing"

	"metaproof/api"
	"metaproof/table"
)

// read reads a database of files with the names m, n, o and p, from m on.
func read(t *testing.T, data []string) api.Fault {
	files := &table.Table{}
	for i, text := range data {
		if e := files.Put(string("mnop"[i]), text); e != api.OK {
			t.Fatalf("P3: Put = %d", e)
		}
	}
	said, fault := Read(files, 0)
	if fault.Rule != 0 && said.Count() != 0 {
		t.Errorf("P9: %q: behind a fault the record has %d statements", data, said.Count())
	}
	return fault
}

func fault(rule int, file string, line, col int) api.Fault {
	return api.Fault{Rule: rule, At: api.Place{File: file, Line: line, Col: col}}
}

func expect(t *testing.T, promise string, want api.Fault, data ...string) {
	t.Helper()
	if got := read(t, data); got != want {
		t.Errorf("%s: %q: %+v, want %+v", promise, data, got, want)
	}
}

func TestInclude(t *testing.T) {
	none := api.Fault{}
	expect(t, "P5", none, "$[ n $] n $a a $.", "$c a $.")
	expect(t, "P5", fault(api.RNotConst, "m", 1, 6), "l $a a $. $[ n $]", "$c a $.")
	expect(t, "P5", fault(api.RTaken, "n", 2, 4), "$c a $. $[ n $]", "\n$c a $.")
	expect(t, "P5", fault(api.RTaken, "m", 1, 12), "$[ n $] $c a $.", "$c a $.")
	expect(t, "P5", none, "$[ n $] $[ n $] $[ n $]", "$c a $.")
	expect(t, "P5", none, "$[ m $] $c a $. $[ m $]")
	expect(t, "P5", none, "$[ n $] $c a $.", "$[ m $] $c b $. $[ n $]")
	expect(t, "P5", none, "$[ n $] $[ o $] l $a d $.", "$[ o $] $c c $.", "$[ p $] $[ n $] $c b $.", "$[ m $] $c d $.")
	expect(t, "P5", fault(api.RTaken, "p", 1, 12), "$c a $. $[ n $]", "$[ o $]", "$[ p $]", "$[ m $] $c a $.")
	expect(t, "P5", none, "$( c $) $[ $( c $) n $( d $)\n$] l $a a $.", "$( $) $c a $. $( $)")
	expect(t, "P5", none, "$[ n $]", "")
	expect(t, "P5", none, "$( $[ n $] $)", "$")
}

func TestWrongInclusions(t *testing.T) {
	for _, c := range []struct {
		text      string
		rule      int
		line, col int
	}{
		{"${ $[ n $]", api.RInclude, 1, 4}, {"$c $[ n $]", api.RInclude, 1, 4}, {"l $[ n $]", api.RInclude, 1, 3}, {"$c a $. l $p a $= $[ n $] $.", api.RInclude, 1, 19},
		{"${ $[", api.RInclude, 1, 4}, {"${ $[ none $]", api.RInclude, 1, 4}, {"${ $[ m $]", api.RInclude, 1, 4}, {"$v v $[ $[", api.RInclude, 1, 6},
		{"$[", api.REnd, 1, 3}, {"$[ \n ", api.REnd, 2, 2}, {"$[ $( c $)", api.REnd, 1, 11}, {"$[ $( c", api.ROpen, 1, 8}, {"$[ \x80 $]", api.RByte, 1, 4},
		{"$[ $] $]", api.RIncName, 1, 4}, {"$[ $[ n $]", api.RIncName, 1, 4}, {"$[ n$ $]", api.RIncName, 1, 4}, {"$[ $n $]", api.RIncName, 1, 4}, {"$[ $) n $]", api.RIncName, 1, 4},
		{"$[ none $]", api.RNoFile, 1, 4}, {"$[ none", api.RNoFile, 1, 4}, {"$[ none none", api.RNoFile, 1, 4}, {"$[ N $]", api.RNoFile, 1, 4}, {"$[ nn $]", api.RNoFile, 1, 4},
		{"$[ 123456789 $]", api.RNoFile, 1, 4}, {"$[ n\x01 $]", api.RByte, 1, 5},
		{"$[ n", api.REnd, 1, 5}, {"$[ n\n", api.REnd, 2, 1}, {"$[ n n $]", api.RIncName, 1, 6}, {"$[ n $. $]", api.RIncName, 1, 6}, {"$[ n $]$ $]", api.RIncName, 1, 6},
		{"$[ m n $]", api.RIncName, 1, 6}, {"$[ m", api.REnd, 1, 5}, {"$[ n \x01", api.RByte, 1, 6}, {"$[ n $( $(", api.RNest, 1, 9}, {"$[ n $(", api.ROpen, 1, 8},
		{"$[n $]", api.RKey, 1, 1}, {"$[ n $] $]", api.RKey, 1, 9}, {"$] n $[", api.RKey, 1, 1},
	} {
		expect(t, "P5", fault(c.rule, "m", c.line, c.col), c.text, "$c k $.")
	}
}

func TestFileEnds(t *testing.T) {
	for _, c := range []struct {
		text      string
		rule      int
		line, col int
	}{
		{"${", api.REnd, 1, 3}, {"${\n\n", api.REnd, 3, 1}, {"$c", api.REnd, 1, 3}, {"$c a \n ", api.REnd, 2, 2}, {"l", api.REnd, 1, 2}, {"l $e", api.REnd, 1, 5},
		{"$c a $. l $p a $= x", api.REnd, 1, 20}, {"${ ${ $}", api.REnd, 1, 9}, {"${ $( c $)", api.REnd, 1, 11}, {"$c a $( c", api.ROpen, 1, 10}, {"$}", api.RBlock, 1, 1},
	} {
		expect(t, "P5", fault(c.rule, "m", c.line, c.col), c.text)
		expect(t, "P5", fault(c.rule, "n", c.line, c.col), "$[ n $] $} $. $c x $.", c.text)
		expect(t, "P5", fault(c.rule, "o", c.line, c.col), "$[ n $] $}", "$[ o $] $}", c.text)
	}
}

func TestFirst(t *testing.T) {
	expect(t, "P8", fault(api.RKey, "m", 1, 1), "$x \x80")
	expect(t, "P8", fault(api.RByte, "m", 1, 3), "$x\x80 $x")
	expect(t, "P8", fault(api.RByte, "m", 1, 5), "$c a\x80a $.")
	expect(t, "P8", fault(api.RTaken, "m", 1, 6), "$c a a $( $(")
	expect(t, "P8", fault(api.RNest, "m", 1, 9), "$c a $( $( $) a $.")
	expect(t, "P8", fault(api.RKey, "n", 1, 1), "$[ n $] $y", "$x")
	expect(t, "P8", fault(api.RKey, "m", 1, 1), "$y $[ n $]", "$x")
	expect(t, "P8", fault(api.RKey, "m", 1, 9), "$[ n $] $y $[ o $]", "$c a $.", "$x")
	expect(t, "P8", api.Fault{}, "$c a $.", "$x", "\x80")
}

func TestNoSuchFile(t *testing.T) {
	for _, index := range []int{-1, api.MaxFiles, 100} {
		if said, got := Read(&table.Table{}, index); got != (api.Fault{}) || said.Count() != 0 {
			t.Errorf("P1: Read of the file %d: %+v, %d statements", index, got, said.Count())
		}
	}
}

func TestOrder(t *testing.T) {
	files := &table.Table{}
	files.Put("m", "$c a $. l1 $a a $. $[ n $] l2 $a a b $. $[ n $] l3 $p a $= ? $.")
	files.Put("n", "$c b $. k1 $a b $. $[ o $] k2 $a b $.")
	files.Put("o", "${ $v v $. f $f a v $. j $a a v $. $} $[ m $]")
	said, fault := Read(files, 0)
	if fault.Rule != 0 {
		t.Fatalf("P5: %+v", fault)
	}
	var labels []string
	for n := 0; n < said.Count(); n++ {
		labels = append(labels, said.Statement(n).Label)
	}
	if got := strings.Join(labels, " "); got != "l1 k1 f j k2 l2 l3" {
		t.Errorf("P5: the order of the statements: %s", got)
	}
	if !said.Holds(2, 3) || said.Holds(2, 4) {
		t.Errorf("P6: f is active at j alone, but %t, %t", said.Holds(2, 3), said.Holds(2, 4))
	}
}
