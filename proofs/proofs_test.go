package proofs

import (
	"fmt"
	"strings"
	"testing"

	"metaproof/api"
	"metaproof/reader"
	"metaproof/record"
	"metaproof/table"
)

// base: fp, fq, fr, e, a and b may be named behind it, gone and f.gone not; of a theorem on p and q the mandatory hypotheses are fp, fq and e.
const base = "$c w , $. $v p q r $. fp $f w p $. $d p q $. fq $f w q $. a $a w p $. fr $f w r $. ${ gone $e w $. $v x $. f.gone $f w x $. b $p w $= ? $. $} e $e , $.\n"

func read(t *testing.T, text string) *record.Record {
	t.Helper()
	files := &table.Table{}
	if e := files.Put("m", text); e != api.OK {
		t.Fatalf("P3: Put = %d", e)
	}
	said, fault := reader.Read(files, 0)
	if fault.Rule != 0 {
		t.Fatalf("P8: %q: %+v", text, fault)
	}
	return &said
}

// told writes each step with the column where it stands; or why there is none, and where.
func told(t *testing.T, text string) string {
	t.Helper()
	r := read(t, base+"t $p w p q $=\n"+text+" $. later $a w $.")
	steps, fault := Read(r, r.FindAssertion("t"))
	if fault.Why != 0 {
		if steps != nil {
			t.Errorf("P11: %q: there are steps beside a fault: %v", text, steps)
		}
		if fault.At.File != "m" {
			t.Errorf("P15: %q: the fault is in the file %q", text, fault.At.File)
		}
		return fmt.Sprintf("F%d %d:%d", fault.Why, fault.At.Line, fault.At.Col)
	}
	if fault != (Fault{}) {
		t.Errorf("P11: %q: a place without a fault: %v", text, fault)
	}
	var list []string
	for _, step := range steps {
		name := "?"
		if step.Kind == Names {
			name = r.Statement(step.Number).Label
		} else if step.Kind == Again {
			name = fmt.Sprintf("=%d", step.Number)
		}
		if step.At.File != "m" || step.At.Line != 3 {
			t.Errorf("P15: %q: %s stands at %v", text, name, step.At)
		}
		list = append(list, fmt.Sprintf("%s/%d", name, step.At.Col))
	}
	return strings.Join(list, " ")
}

func expect(t *testing.T, promise string, cases [][2]string) {
	t.Helper()
	for _, c := range cases {
		if got := told(t, c[0]); got != c[1] {
			t.Errorf("%s: %q: %s, want %s", promise, c[0], got, c[1])
		}
	}
}

// at tells a fault of the proof's line; end one at the `$.`.
func at(why int, col int) string { return fmt.Sprintf("F%d 3:%d", why, col) }

func end(why int, text string) string { return at(why, len(text)+2) }

func TestNormal(t *testing.T) {
	expect(t, "P11", [][2]string{
		{"fp", "fp/1"}, {"fp fq fr e a b", "fp/1 fq/4 fr/7 e/10 a/12 b/14"}, {"?", "?/1"}, {"? fp  ?", "?/1 fp/3 ?/7"}, {"a a fp fp", "a/1 a/3 fp/5 fp/8"},
		{"$( fp $) fq $( $) e", "fq/10 e/19"},
		{"", end(api.FEmpty, "")}, {"$( fp $)", end(api.FEmpty, "$( fp $)")},
		{"x", at(api.FLabel, 1)}, {"fp fq x y", at(api.FLabel, 7)}, {"? x", at(api.FLabel, 3)}, {"fp gone", at(api.FLabel, 4)}, {"f.gone", at(api.FLabel, 1)},
		{"t", at(api.FLabel, 1)}, {"later", at(api.FLabel, 1)}, {"p", at(api.FLabel, 1)}, {"w", at(api.FLabel, 1)}, {"??", at(api.FLabel, 1)}, {"FP", at(api.FLabel, 1)}, {"f", at(api.FLabel, 1)},
		{"fp ( a ) A", at(api.FLabel, 4)}, {"(a ) A", at(api.FLabel, 1)}, {") A", at(api.FLabel, 1)}, {"()", at(api.FLabel, 1)}, {"A", at(api.FLabel, 1)},
	})
}

func TestBlock(t *testing.T) {
	expect(t, "P12", [][2]string{
		{"( ) A", "fp/5"}, {"( ) ABC", "fp/5 fq/6 e/7"}, {"( fr a b ) ABCDEF", "fp/12 fq/13 e/14 fr/15 a/16 b/17"}, {"( b a ) DE", "b/9 a/10"}, {"$( $) ( $( ) $) b ) $( A $) D", "b/29"},
		{"( a x ) A", at(api.FLabel, 5)}, {"( ? ) A", at(api.FLabel, 3)}, {"( gone ) A", at(api.FLabel, 3)}, {"( t ) A", at(api.FLabel, 3)}, {"( later ) A", at(api.FLabel, 3)}, {"( ( ) A", at(api.FLabel, 3)}, {"( a) A", at(api.FLabel, 3)}, {"( p ) A", at(api.FLabel, 3)},
		{"( a fp ) A", at(api.FBlock, 5)}, {"( e ) A", at(api.FBlock, 3)}, {"( fq", at(api.FBlock, 3)}, {"( a b a ) A", at(api.FBlock, 7)}, {"( fr fr ) A", at(api.FBlock, 6)}, {"( a a x", at(api.FBlock, 5)}, {"( x a a", at(api.FLabel, 3)},
		{"(", end(api.FBlock, "(")}, {"( a", end(api.FBlock, "( a")}, {"( a b", end(api.FBlock, "( a b")}, {"( a x", at(api.FLabel, 5)},
	})
}

func TestLetters(t *testing.T) {
	expect(t, "P12", [][2]string{
		{"( a ) A B\tD", "fp/7 fq/9 a/11"}, {"( a ) AZ", "fp/7"}, {"( a ) AZBZEF", "fp/7 fq/9 =0/11 =1/12"}, {"( a ) AZBEF", at(api.FRange, 11)}, {"( a ) A Z\tE", "fp/7 =0/11"},
		{"( a ) ABZEZF", "fp/7 fq/8 =1/10 =2/12"}, {"( a ) DZEZFZG", "a/7 =0/9 =1/11 =2/13"}, {"( a ) ?", "?/7"}, {"( a ) ??A?", "?/7 ?/8 fp/9 ?/10"}, {"( a ) A?BZ?E", "fp/7 ?/8 fq/9 ?/11 =2/12"},
		{"( a ) Z", at(api.FLetter, 7)}, {"( a ) AZZ", at(api.FLetter, 9)}, {"( a ) A ZB Z Z", at(api.FLetter, 14)}, {"( a ) ?Z", at(api.FLetter, 8)}, {"( a ) A?Z", at(api.FLetter, 9)}, {"( a ) AUZ", at(api.FLetter, 9)}, {"( a ) UZ", at(api.FLetter, 8)},
		{"( a ) AU?", at(api.FLetter, 9)}, {"( a ) Y ?", at(api.FLetter, 9)}, {"( a ) A\nU B a", fmt.Sprintf("F%d 4:3", api.FRange)},
		{"( a ) a", at(api.FLetter, 7)}, {"( a ) A@", at(api.FLetter, 8)}, {"( a ) A[", at(api.FLetter, 8)}, {"( a ) A)", at(api.FLetter, 8)}, {"( a ) ( ) A", at(api.FLetter, 7)}, {"( a ) fp", at(api.FLetter, 7)}, {"( a ) A1", at(api.FLetter, 8)}, {"( a ) A>", at(api.FLetter, 8)}, {"( a ) ~", at(api.FLetter, 7)}, {"( a ) !", at(api.FLetter, 7)}, {"( a ) Aa!", at(api.FLetter, 8)}, {"( a ) UaA", at(api.FLetter, 8)},
		{"( a ) U", end(api.FLetter, "( a ) U")}, {"( a ) ABUVWXY", end(api.FLetter, "( a ) ABUVWXY")}, {"( a ) ?U", end(api.FLetter, "( a ) ?U")}, {"( a ) AZY", end(api.FLetter, "( a ) AZY")},
		{"( a )", end(api.FEmpty, "( a )")}, {"( )", end(api.FEmpty, "( )")}, {"( ) $( A $)", end(api.FEmpty, "( ) $( A $)")},
		{"( a ) E", at(api.FRange, 7)}, {"( a ) AE", at(api.FRange, 8)}, {"( a ) EZ", at(api.FRange, 7)}, {"( a ) T", at(api.FRange, 7)}, {"( a ) UA", at(api.FRange, 8)}, {"( a ) A U V\tT", at(api.FRange, 13)}, {"( ) D", at(api.FRange, 5)}, {"( a ) ?E", at(api.FRange, 8)}, {"( a ) Ea", at(api.FRange, 7)}, {"( a ) A?F", at(api.FRange, 9)},
	})
}

func TestLines(t *testing.T) {
	r := read(t, base+"t $p w p q $= (\na\n) A $( Z $) \n\n  BU\n\tD\n $.")
	_, fault := Read(r, r.FindAssertion("t"))
	if want := (api.Place{File: "m", Line: 7, Col: 2}); fault.Why != api.FRange || fault.At != want {
		t.Errorf("P15: %+v, want FRange at %v", fault, want)
	}
}

// numerals are made as the document's list goes on: the last letter runs first, then the ones ahead of it.
func numerals(count int) []string {
	heads := []string{""}
	var list []string
	for i := 0; i < len(heads) && len(list) < count; i++ {
		for letter := 'A'; letter <= 'T'; letter++ {
			list = append(list, heads[i]+string(letter))
		}
		if i == len(heads)-1 {
			var longer []string
			for _, head := range heads {
				if len(head) == len(heads[i]) {
					for letter := 'U'; letter <= 'Y'; letter++ {
						longer = append(longer, head+string(letter))
					}
				}
			}
			heads = append(heads, longer...)
		}
	}
	return list[:count]
}

func TestNumerals(t *testing.T) {
	list := numerals(800)
	for number, want := range map[int]string{1: "A", 20: "T", 21: "UA", 22: "UB", 40: "UT", 41: "VA", 120: "YT", 121: "UUA", 122: "UUB"} {
		if list[number-1] != want {
			t.Fatalf("the numeral %d is made as %s, not %s", number, list[number-1], want)
		}
	}
	// 3 mandatory hypotheses, no label, and as many tags as there is room for
	const tags = 360
	r := read(t, base+"t $p w p q $= ( ) "+strings.Repeat("AZ", tags)+" $.")
	steps, fault := Read(r, r.FindAssertion("t"))
	if fault.Why != 0 || len(steps) != tags {
		t.Fatalf("P12: %+v, %d steps", fault, len(steps))
	}
	for i, numeral := range list {
		r := read(t, base+"t $p w p q $= ( ) "+strings.Repeat("AZ", tags)+numeral+" $.")
		steps, fault := Read(r, r.FindAssertion("t"))
		if i >= 3+tags {
			if fault.Why != api.FRange {
				t.Errorf("P12: %s, %d: %+v", numeral, i+1, fault)
			}
			continue
		}
		if fault.Why != 0 || len(steps) != tags+1 {
			t.Fatalf("P12: %s, %d: %+v, %d steps", numeral, i+1, fault, len(steps))
		}
		last := steps[tags]
		if i < 3 && last.Kind != Names || i >= 3 && (last.Kind != Again || last.Number != i-3) {
			t.Errorf("P12: %s, %d: %+v", numeral, i+1, last)
		}
	}
}

func TestGreatNumerals(t *testing.T) {
	for _, digit := range strings.Split("UVWXY", "") {
		for count := 1; count < 800; count++ {
			text := "( ) " + strings.Repeat(digit, count) + "A"
			if got := told(t, text); got != at(api.FRange, len(text)) {
				t.Fatalf("P12: %d times %s: %s", count, digit, got)
			}
		}
	}
}

// TestNothingToName: without mandatory hypotheses, labels and tags each numeral is too great, but a numeral all the same.
func TestNothingToName(t *testing.T) {
	for text, want := range map[string]Fault{
		"( ) U":   {api.FLetter, api.Place{File: "m", Line: 1, Col: 25}},
		"( ) U?":  {api.FLetter, api.Place{File: "m", Line: 1, Col: 24}},
		"( ) UA":  {api.FRange, api.Place{File: "m", Line: 1, Col: 24}},
		"( ) A":   {api.FRange, api.Place{File: "m", Line: 1, Col: 23}},
		"( ) ?UU": {api.FLetter, api.Place{File: "m", Line: 1, Col: 27}},
		"( )":     {api.FEmpty, api.Place{File: "m", Line: 1, Col: 23}},
	} {
		r := read(t, "$c w $. t $p w $= "+text+" $.")
		if steps, fault := Read(r, 0); steps != nil || fault != want {
			t.Errorf("P12: %s: %v, %+v, want %+v", text, steps, fault, want)
		}
	}
}

func TestNoTheorem(t *testing.T) {
	r := read(t, base)
	for number := -2; number < r.Count()+2; number++ {
		steps, fault := Read(r, number)
		if r.Statement(number).Kind != record.Theorem && (steps != nil || fault.Why != api.FEmpty) {
			t.Errorf("P1: the proof of statement %d: %v, %+v", number, steps, fault)
		}
	}
}
