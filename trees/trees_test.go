package trees

import (
	"fmt"
	"reflect"
	"strings"
	"testing"

	"metaproof/api"
	"metaproof/grammar"
	"metaproof/record"
	"metaproof/statements"
)

func read(t *testing.T, text string) *record.Record {
	t.Helper()
	d := &statements.Database{}
	for i, word := range strings.Fields(text) {
		if rule := d.Take(word, api.Place{}); rule != 0 {
			t.Fatalf("P7: %q: word %d, %s, breaks %d", text, i+1, word, rule)
		}
	}
	r := d.Record()
	return &r
}

// tree tells the tree for some symbols, in the grammar of an assertion without variables that stands behind a text.
func tree(t *testing.T, text string, symbols string, code string) string {
	t.Helper()
	r := read(t, "$c w s n |- A B C ( ) > + $. $v p q r x y $. "+text+" last $a |- $.")
	g := grammar.Of(r, r.FindAssertion("last"))
	labels, e := Write(g, strings.Fields(symbols), code)
	if cap(labels) != len(labels) || (e == api.OK) != (labels != nil) {
		t.Errorf("P2: %q, %q to %s: %#v, %d", text, symbols, code, labels, e)
	}
	if e != api.OK {
		return fmt.Sprintf("error %d", e)
	}
	return strings.Join(labels, " ")
}

const (
	none = "error 10"
	two  = "error 11"
	long = "error 3"
)

func expect(t *testing.T, text string, cases [][3]string) {
	t.Helper()
	for _, c := range cases {
		if got := tree(t, text, c[0], c[1]); got != c[2] {
			t.Errorf("P18: %q: %q to %s is %s, want %s", text, c[0], c[1], got, c[2])
		}
	}
}

const typed = "fp $f w p $. fq $f w q $. fr $f w r $. fx $f s x $. fy $f s y $. "

func TestOne(t *testing.T) {
	expect(t, typed+"a $a w A $. b $a w ( p > q ) $. c $a s B p $. d $a |- x $.", [][3]string{
		{"A", "w", "a"},
		{"A", "s", none}, {"A", "|-", none}, {"A", "n", none}, {"A", "", none}, {"A", "A", none}, {"", "w", none},
		{"A A", "w", none}, {"B", "w", none}, {"w", "w", none}, {"p", "w", none},
		{"( A > A )", "w", "a a b"},
		{"( ( A > A ) > A )", "w", "a a b a b"},
		{"( A > ( A > A ) )", "w", "a a a b b"},
		{"( A > A", "w", none}, {"A > A )", "w", none}, {"( A > A ) )", "w", none}, {"( > )", "w", none}, {"( A A )", "w", none},
		{"B A", "s", "a c"}, {"B A", "|-", "a c d"}, {"B A", "w", none}, {"B B A", "s", none}, {"B", "s", none},
		{"B ( A > A )", "|-", "a a b c d"},
	})
}

func TestOrderOfGaps(t *testing.T) {
	const rules = " a $a w A $. b $a w B $. c $a s C $. "
	expect(t, "fp $f w p $. fq $f w q $. fx $f s x $."+rules+"d $a |- x q + p $. e $a |- p q x $.", [][3]string{
		{"C A + B", "|-", "b a c d"}, {"A B C", "|-", "a b c e"},
	})
	expect(t, "fx $f s x $. fq $f w q $. fp $f w p $."+rules+"d $a |- x q + p $. e $a |- p q x $.", [][3]string{
		{"C A + B", "|-", "c a b d"}, {"A B C", "|-", "c b a e"},
	})
}

func TestNoSymbols(t *testing.T) {
	expect(t, typed+"a $a w $. b $a s A p $. c $a w x $. d $a |- x y $. e $a n p q r $.", [][3]string{
		{"", "w", "a"}, {"", "s", none}, {"", "|-", none}, {"", "n", "a a a e"},
		{"A", "s", "a b"}, {"A", "w", "a b c"}, {"A A", "s", "a b c b"}, {"A A A", "w", "a b c b c b c"},
		{"A A", "|-", "a b a b d"}, {"A", "|-", none}, {"A A A", "|-", two}, {"A", "n", two},
	})
	expect(t, typed+"a $a w $. b $a w $.", [][3]string{{"", "w", two}, {"A", "w", none}})
}

func TestMany(t *testing.T) {
	expect(t, typed+"a $a w A $. b $a w p + q $. c $a s A $. d $a s A $. e $a |- ( x $. f $a |- ( p $.", [][3]string{
		{"A", "w", "a"}, {"A + A", "w", "a a b"}, {"A + A + A", "w", two}, {"A + A + A + A + A", "w", two},
		{"A", "s", two}, {"( A", "|-", two}, {"( A + A", "|-", "a a b f"}, {"( A + A + A", "|-", two}, {"A + + A", "w", none},
	})
}

func TestEndless(t *testing.T) {
	expect(t, typed+"a $a w p $. b $a w A $. c $a s x $. d $a |- p $. e $a |- x $. f $a n B $.", [][3]string{
		{"A", "w", two}, {"B", "w", none}, {"A", "s", none}, {"A", "|-", two}, {"B", "n", "f"}, {"", "w", none},
	})
	expect(t, typed+"a $a w x $. b $a s p $. c $a s A $. d $a |- B p $.", [][3]string{
		{"A", "s", two}, {"A", "w", two}, {"B A", "|-", two}, {"B", "|-", none}, {"B B", "|-", none},
	})
	expect(t, typed+"a $a w p q $. b $a w A $. c $a w B $.", [][3]string{
		{"A", "w", "b"}, {"A B", "w", "b c a"}, {"A B A", "w", two}, {"", "w", none},
	})
	expect(t, typed+"a $a w p q $. b $a w A $. c $a w $.", [][3]string{
		{"", "w", two}, {"A", "w", two}, {"A A", "w", two}, {"B", "w", none},
	})
	expect(t, typed+"a $a w p x $. b $a s $. c $a w A $. d $a |- ( x $.", [][3]string{
		{"A", "w", two}, {"", "w", none}, {"", "s", "b"}, {"(", "|-", "b d"},
	})
}

func TestSides(t *testing.T) {
	expect(t, typed+"a $a w A $. b $a w A p $. c $a s B $. d $a s x B $. e $a n p x $. f $a |- x + p $.", [][3]string{
		{"A A A A A A A A A A", "w", "a b b b b b b b b b"},
		{"B B B B B B B B B B", "s", "c d d d d d d d d d"},
		{"A A A B B", "n", "a b b c d e"}, {"A B", "n", "a c e"}, {"B A", "n", none}, {"A", "n", none}, {"B", "n", none},
		{"B B + A A A", "|-", "a b b c d f"}, {"+ A", "|-", none}, {"B +", "|-", none},
	})
}

// doubling: a tree of typecode n0 for no symbols has one label, of n1 3, of n2 7, and so on.
func doubling(depth int) string {
	text := "$c |- A w $."
	for i := 0; i <= depth; i++ {
		text += fmt.Sprintf(" $c n%d $. $v x%d y%d $. fx%d $f n%d x%d $. fy%d $f n%d y%d $.", i, i, i, i, i, i, i, i, i)
	}
	text += " a0 $a n0 $."
	for i := 1; i <= depth; i++ {
		text += fmt.Sprintf(" a%d $a n%d x%d y%d $.", i, i, i-1, i-1)
	}
	return text
}

func labels(t *testing.T, text string, symbols string, code string) (int, api.Errno) {
	t.Helper()
	r := read(t, text)
	list, e := Write(grammar.Of(r, r.Count()), strings.Fields(symbols), code)
	if cap(list) != len(list) || (e == api.OK) != (list != nil) {
		t.Errorf("P2: %s to %s: %d of %d, %d", symbols, code, len(list), cap(list), e)
	}
	return len(list), e
}

func TestLong(t *testing.T) {
	text := doubling(40) + " b $a w x5 $. c $a |- x5 x0 $. d $a A x5 x0 y0 $. e $a w A x30 $. f $a w A y30 $."
	for _, c := range []struct {
		symbols, code string
		count         int
		e             api.Errno
	}{
		{"", "n0", 1, api.OK}, {"", "n1", 3, api.OK}, {"", "n5", 63, api.OK}, {"", "w", 64, api.OK},
		{"", "|-", 0, api.ErrLong}, {"", "A", 0, api.ErrLong}, {"", "n6", 0, api.ErrLong}, {"", "n40", 0, api.ErrLong},
		{"A", "n40", 0, api.ErrNone}, {"A", "w", 0, api.ErrTwo},
	} {
		if count, e := labels(t, text, c.symbols, c.code); count != c.count || e != c.e {
			t.Errorf("P18: %q to %s: %d labels, %d, want %d, %d", c.symbols, c.code, count, e, c.count, c.e)
		}
	}
}

func TestGrid(t *testing.T) {
	g := newGrid(2, 3)
	for _, out := range [][2]int{{-1, 0}, {2, 0}, {0, -1}, {0, 3}, {1, 3}, {1 << 40, 1 << 40}} {
		if g.raise(out[0], out[1], 1) || g.at(out[0], out[1]) != 0 {
			t.Errorf("P18: there is a count at %v", out)
		}
	}
	if want := newGrid(2, 3); !reflect.DeepEqual(g, want) {
		t.Errorf("P18: a count outside shows within: %v", g)
	}
	for i, c := range []struct {
		more, want int
		raised     bool
	}{{0, 0, false}, {-1, 0, false}, {1, 1, true}, {0, 1, false}, {1, 2, true}, {1, 2, false}, {4, 2, false}} {
		if got := g.raise(1, 2, c.more); got != c.raised || g.at(1, 2) != c.want {
			t.Errorf("P18: case %d: the count is %d, raised %t", i, g.at(1, 2), got)
		}
	}
	if g.raise(0, 1, 4); g.at(0, 1) != many || g.at(0, 0) != 0 || g.at(1, 1) != 0 || g.at(0, 2) != 0 {
		t.Errorf("P18: the grid is %v", g)
	}
}

func TestHandedInIsNotChanged(t *testing.T) {
	r := read(t, doubling(2)+" a $a w A x1 $.")
	g := grammar.Of(r, r.Count())
	symbols := []string{"A", "B", "C"}
	list, e := Write(g, symbols[:1], "w")
	if e != api.OK || strings.Join(list, " ") != "a0 a0 a1 a" || strings.Join(symbols, " ") != "A B C" {
		t.Errorf("P2: %v, %d; the symbols are %v", list, e, symbols)
	}
	list[0] = "mine"
	if list, e = Write(g, symbols[:1], "w"); e != api.OK || list[0] != "a0" {
		t.Errorf("P2: what is written into a tree shows elsewhere: %v", list)
	}
}
