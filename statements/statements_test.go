package statements

import (
	"fmt"
	"reflect"
	"strings"
	"testing"

	"metaproof/api"
	"metaproof/record"
)

// base: a and b are constants; x, y, z variables, x and y of them with a $f; l is a label, dead a variable that is active no more.
const base = "$c a b $. $v x y z $. fx $f a x $. fy $f b y $. l $a a $. ${ $v dead $. gone $f a dead $. $} "

// broken takes the words behind base, and tells the number of the word that breaks a rule and the rule; else whether something is open.
func broken(t *testing.T, text string) string {
	d := &Database{}
	for _, word := range strings.Fields(base) {
		if rule := d.Take(word, api.Place{}); rule != 0 {
			t.Fatalf("P7: base: %s breaks %d", word, rule)
		}
	}
	if d.Open() {
		t.Fatalf("P6: behind base a statement is open")
	}
	for i, word := range strings.Fields(text) {
		if rule := d.Take(word, api.Place{}); rule != 0 {
			return fmt.Sprintf("%d R%d", i+1, rule)
		}
	}
	if d.Open() {
		return "open"
	}
	return "closed"
}

func expect(t *testing.T, promise string, cases [][2]string) {
	t.Helper()
	for _, c := range cases {
		if got := broken(t, c[0]); got != c[1] {
			t.Errorf("%s: %q: %s, want %s", promise, c[0], got, c[1])
		}
	}
}

func at(word int, rule int) string { return fmt.Sprintf("%d R%d", word, rule) }

func TestShapes(t *testing.T) {
	expect(t, "P6", [][2]string{
		{"", "closed"}, {"$c", "open"}, {"$c c", "open"}, {"$c c $.", "closed"}, {"$v v w $.", "closed"}, {"$d x y z $.", "closed"},
		{"m", "open"}, {"m $f", "open"}, {"m $f a z", "open"}, {"m $f a z $.", "closed"}, {"m $e a $.", "closed"}, {"m $e a x b y a $.", "closed"},
		{"m $a a $.", "closed"}, {"m $p a $= $.", "closed"}, {"m $p a x $= m any ( ) ? , x $.", "closed"}, {"m $p a $= x", "open"},
		{"m $p a $= x $. $c a", at(8, api.RTaken)}, {"m $p a $= x $. n $a new", at(9, api.RNotConst)}, {"m $p a $= x $. n $p a $.", at(10, api.RNoProof)},
		{"${", "open"}, {"${ $}", "closed"}, {"${ ${ $}", "open"}, {"${ ${ $} $}", "closed"}, {"${ $d x y $.", "open"},
	})
}

func TestFirstWord(t *testing.T) {
	expect(t, "P7", [][2]string{
		{"$}", at(1, api.RBlock)}, {"${ $} $}", at(3, api.RBlock)}, {"${ $c", at(2, api.RScope)}, {"${ $} $c", "open"}, {"${ ${ $} $c", at(4, api.RScope)},
		{"$f", at(1, api.RNoLabel)}, {"$e", at(1, api.RNoLabel)}, {"$a", at(1, api.RNoLabel)}, {"$p", at(1, api.RNoLabel)}, {"${ $f", at(2, api.RNoLabel)},
		{"$.", at(1, api.RKey)}, {"$=", at(1, api.RKey)}, {"$]", at(1, api.RKey)}, {"$)", at(1, api.RKey)}, {"$", at(1, api.RKey)}, {"$x", at(1, api.RKey)},
		{"m$", at(1, api.RKey)}, {"$cc", at(1, api.RKey)}, {"$c$", at(1, api.RKey)}, {"${$", at(1, api.RKey)}, {",$", at(1, api.RKey)},
		{"m,", at(1, api.RLabel)}, {"(", at(1, api.RLabel)}, {"?", at(1, api.RLabel)}, {"/", at(1, api.RLabel)}, {":", at(1, api.RLabel)},
		{"@", at(1, api.RLabel)}, {"[", at(1, api.RLabel)}, {"`", at(1, api.RLabel)}, {"{", at(1, api.RLabel)}, {"+", at(1, api.RLabel)}, {"^", at(1, api.RLabel)},
		{"azAZ09-_.", "open"}, {"-", "open"}, {".", "open"}, {"_", "open"},
		{"a", at(1, api.RTaken)}, {"x", at(1, api.RTaken)}, {"dead", at(1, api.RTaken)}, {"l", at(1, api.RTaken)}, {"fx", at(1, api.RTaken)}, {"gone", at(1, api.RTaken)},
		{"${ m $e a $. $} m", at(7, api.RTaken)}, {"m $p a $= $. m", at(6, api.RTaken)}, {"${ $v dead $. $} dead", at(6, api.RTaken)},
		{"$c , $. ,", at(4, api.RLabel)},
	})
}

func TestKeyword(t *testing.T) {
	for _, word := range strings.Fields("$c $v $d ${ $} $. $= $x $ m a $ff $] $)") {
		expect(t, "P7", [][2]string{{"m " + word, at(2, api.RNoKey)}})
	}
	for _, word := range strings.Fields("$f $e $a $p") {
		expect(t, "P7", [][2]string{{"m " + word, "open"}})
	}
}

func TestEnds(t *testing.T) {
	expect(t, "P7", [][2]string{
		{"$c $.", at(2, api.RShort)}, {"$v $.", at(2, api.RShort)}, {"$d $.", at(2, api.RShort)}, {"$d x $.", at(3, api.RShort)},
		{"m $f $.", at(3, api.RShort)}, {"m $f a $.", at(4, api.RShort)}, {"m $e $.", at(3, api.RShort)}, {"m $a $.", at(3, api.RShort)},
		{"m $p $.", at(3, api.RShort)}, {"m $p a $.", at(4, api.RNoProof)}, {"m $p a x $.", at(5, api.RNoProof)}, {"m $p $=", at(3, api.RShort)},
	})
	for _, head := range []string{"$c c", "$v v", "$d x y", "m $f a z", "m $e a", "m $a a", "m $p a", "m $p a $= x"} {
		count := len(strings.Fields(head))
		for _, word := range strings.Fields("$c $v $d $f $e $a $p ${ $} $x $ a$ $) $] $..") {
			expect(t, "P7", [][2]string{{head + " " + word, at(count+1, api.RKey)}})
		}
	}
	for _, head := range []string{"$c c", "$v v", "$d x y", "m $f a z", "m $e a", "m $a a", "m $p a $= x", "m $p a $="} {
		count := len(strings.Fields(head))
		expect(t, "P7", [][2]string{{head + " $=", at(count+1, api.RKey)}})
	}
	expect(t, "P7", [][2]string{{"$c $=", at(2, api.RKey)}, {"m $f $=", at(3, api.RKey)}, {"m $p a $= $. $.", at(6, api.RKey)}})
}

func TestDeclarations(t *testing.T) {
	expect(t, "P7", [][2]string{
		{"$c c c", at(3, api.RTaken)}, {"$c a", at(2, api.RTaken)}, {"$c l", at(2, api.RTaken)}, {"$c gone", at(2, api.RTaken)}, {"$c x", at(2, api.RTaken)},
		{"$c dead", at(2, api.RTaken)}, {"$c c $. $c c", at(5, api.RTaken)}, {"$c , ( l", at(4, api.RTaken)},
		{"$v v v", at(3, api.RTaken)}, {"$v a", at(2, api.RTaken)}, {"$v l", at(2, api.RTaken)}, {"$v gone", at(2, api.RTaken)}, {"$v x", at(2, api.RTaken)},
		{"$v dead $.", "closed"}, {"${ $v x", at(3, api.RTaken)}, {"$v dead dead", at(3, api.RTaken)}, {"$v dead $. $v dead", at(5, api.RTaken)},
		{"${ $v dead $. ${ $v dead", at(7, api.RTaken)}, {"${ $v dead $. $} ${ $v dead $. $} $v dead $.", "closed"}, {"${ $v v $. $} $c v", at(7, api.RTaken)},
		{"$d a", at(2, api.RNotVar)}, {"$d x dead", at(3, api.RNotVar)}, {"$d l", at(2, api.RNotVar)}, {"$d new", at(2, api.RNotVar)}, {"$d x x", at(3, api.RTwice)},
		{"$d x y x", at(4, api.RTwice)}, {"$d x y $. $d x y $.", "closed"}, {"$d x y a", at(4, api.RNotVar)}, {"$d z x $.", "closed"}, {"$v dead $. $d x dead $.", "closed"},
	})
}

func TestExpressions(t *testing.T) {
	for _, key := range []string{"$f", "$e", "$a", "$p"} {
		for _, word := range []string{"x", "z", "dead", "l", "new", "m", ","} {
			expect(t, "P7", [][2]string{{"m " + key + " " + word, at(3, api.RNotConst)}})
		}
	}
	for _, key := range []string{"$e", "$a", "$p"} {
		head := "m " + key + " a "
		expect(t, "P7", [][2]string{
			{head + "new", at(4, api.RNotSym)}, {head + "dead", at(4, api.RNotSym)}, {head + "l", at(4, api.RNotSym)}, {head + "m", at(4, api.RNotSym)},
			{head + "z", at(4, api.RNoFloat)}, {head + "x a y y b", "open"}, {head + "x z", at(5, api.RNoFloat)}, {head + "x fx", at(5, api.RNotSym)},
		})
	}
	expect(t, "P7", [][2]string{
		{"m $f a z z", at(5, api.RSurplus)}, {"m $f a z new", at(5, api.RSurplus)}, {"m $f a z a", at(5, api.RSurplus)},
		{"m $f a a", at(4, api.RNotVar)}, {"m $f a dead", at(4, api.RNotVar)}, {"m $f a new", at(4, api.RNotVar)}, {"m $f a l", at(4, api.RNotVar)},
		{"m $f a x", at(4, api.RTyped)}, {"m $f b x", at(4, api.RTyped)}, {"m $f a z $. n $f a z", at(9, api.RTyped)}, {"${ m $f a x", at(5, api.RTyped)},
	})
}

func TestActive(t *testing.T) {
	expect(t, "P6", [][2]string{
		{"${ m $f a z $. n $a a z $. $}", "closed"},
		{"${ m $f a z $. $} n $a a z", at(11, api.RNoFloat)},
		{"${ m $f a z $. $} n $f b z $. o $a a z $.", "closed"},
		{"${ m $f a z $. ${ n $f a z", at(11, api.RTyped)},
		{"${ $v v $. m $f a v $. ${ $} n $a a v $. $}", "closed"},
		{"${ $v v $. m $f a v $. $} n $a a v", at(14, api.RNotSym)},
		{"${ $v v $. m $f a v $. $} $v v $. n $a a v", at(17, api.RNoFloat)},
		{"${ $v v $. m $f a v $. $} $v v $. n $f b v $. o $a a v $.", "closed"},
		{"${ ${ $v v $. $} $d x v", at(9, api.RNotVar)},
		{"${ $v v $. ${ $} $d x v $. $} $d x v", at(14, api.RNotVar)},
		{"$v v v2 $. ${ $v w $. $} $d v v2 $. $d v w", at(16, api.RNotVar)},
		{"m $a a $. ${ n $a a $. $} o $p a $= n $.", "closed"},
	})
}

// said tells what was recorded, and of each statement up to which one it holds.
func said(t *testing.T, text string) []string {
	d := &Database{}
	for _, word := range strings.Fields(text) {
		if rule := d.Take(word, api.Place{}); rule != 0 {
			t.Fatalf("P7: %q: %s breaks %d", text, word, rule)
		}
	}
	r := d.Record()
	var lines []string
	for n := 0; n < r.Count(); n++ {
		last := n
		for at := n + 1; at < r.Count() && r.Holds(n, at); at++ {
			last = at
		}
		s := r.Statement(n)
		lines = append(lines, fmt.Sprintf("%s %d %s %d", s.Label, s.Kind, strings.Join(s.Symbols, " "), last))
	}
	return lines
}

func TestRecord(t *testing.T) {
	got := said(t, "$c a b $. $v x y $. fx $f a x $. $d x y $. ${ fy $f b y $. e $e a x b $. l $a a y $. ${ $v z $. $d z x y $. k $p b x $= x ( ? $. $} j $a a $. $} i $p a $= $.")
	want := []string{"fx 2 a x 8", " 1 x y 8", "fy 2 b y 7", "e 3 a x b 7", "l 4 a y 8", " 1 z x y 6", "k 5 b x 8", "j 4 a 8", "i 5 a 8"}
	if strings.Join(got, "|") != strings.Join(want, "|") {
		t.Errorf("P6: recorded: %q, want %q", got, want)
	}
}

func TestProofWords(t *testing.T) {
	d := &Database{}
	place := func(i int) api.Place { return api.Place{File: "m", Line: i, Col: 2 * i} }
	for i, word := range strings.Fields("$c a $. l $p a $= x l ( a ? $. k $p a $= $. $v v $. j $a a $. i $p a $= ) $.") {
		if rule := d.Take(word, place(i)); rule != 0 {
			t.Fatalf("P7: word %d, %s, breaks %d", i, word, rule)
		}
	}
	r := d.Record()
	for n, want := range []record.Statement{
		{Proof: []record.Word{{Text: "x", At: place(7)}, {Text: "l", At: place(8)}, {Text: "(", At: place(9)}, {Text: "a", At: place(10)}, {Text: "?", At: place(11)}}, End: place(12)},
		{Proof: []record.Word{}, End: place(17)},
		{Proof: []record.Word{}, End: place(24)},
		{Proof: []record.Word{{Text: ")", At: place(29)}}, End: place(30)},
	} {
		if got := r.Statement(n); !reflect.DeepEqual(got.Proof, want.Proof) || got.End != want.End {
			t.Errorf("P15: statement %d has the proof %v, ends at %v; want %v, %v", n, got.Proof, got.End, want.Proof, want.End)
		}
	}
}
