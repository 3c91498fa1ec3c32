package frames

import (
	"fmt"
	"reflect"
	"strings"
	"testing"

	"metaproof/api"
	"metaproof/record"
	"metaproof/statements"
)

func read(t *testing.T, text string) *record.Record {
	t.Helper()
	d := &statements.Database{}
	for i, word := range strings.Fields(text) {
		if rule := d.Take(word, api.Place{}); rule != 0 {
			t.Fatalf("P7: %q: word %d, %s, breaks %d", text, i+1, word, rule)
		}
	}
	r := d.Record()
	return &r
}

// lines tells the frame of an assertion behind the base, its lines joined.
func lines(t *testing.T, text string, label string) string {
	t.Helper()
	r := read(t, "$c w |- , $. $v p q r s $. "+text)
	number := r.FindAssertion(label)
	if number < 0 {
		t.Fatalf("P10: %q: no assertion %s", text, label)
	}
	return strings.Join(Lines(r, number), " | ")
}

func expect(t *testing.T, cases [][3]string) {
	t.Helper()
	for _, c := range cases {
		if got := lines(t, c[0], c[1]); got != c[2] {
			t.Errorf("P10: %q: the frame of %s is %s, want %s", c[0], c[1], got, c[2])
		}
	}
}

func TestHypotheses(t *testing.T) {
	const typed = "fr $f w r $. fq $f w q $. fp $f , p $. "
	expect(t, [][3]string{
		{"a $a w $.", "a", "a $a w"},
		{"a $p w , $= x y $.", "a", "a $p w ,"},
		{typed + "a $a w $.", "a", "a $a w"},
		{typed + "a $a w p , r p $.", "a", "fr $f w r | fp $f , p | a $a w p , r p"},
		{typed + "a $p w q $= fp q ? $.", "a", "fq $f w q | a $p w q"},
		{typed + "e $e |- q , $. a $a w $.", "a", "fq $f w q | e $e |- q , | a $a w"},
		{typed + "e $e |- $. a $a w $.", "a", "e $e |- | a $a w"},
		{typed + "e $e |- q $. d $e |- p p $. a $a w r q $.", "a", "fr $f w r | fq $f w q | fp $f , p | e $e |- q | d $e |- p p | a $a w r q"},
		{"fr $f w r $. e $e |- r $. fq $f w q $. fp $f w p $. d $e w p $. fs $f w s $. a $a w s $.", "a",
			"fr $f w r | e $e |- r | fp $f w p | d $e w p | fs $f w s | a $a w s"},
		{typed + "e $e |- q $. a $a w $. b $a w $. d $e |- p $.", "b", "fq $f w q | e $e |- q | b $a w"},
		{typed + "a $a w p $. b $a w $. e $e |- r $.", "a", "fp $f , p | a $a w p"},
		{typed + "a $a w p $. b $a w q $.", "b", "fq $f w q | b $a w q"},
	})
}

func TestActiveHypotheses(t *testing.T) {
	expect(t, [][3]string{
		{"${ fp $f w p $. e $e |- p $. a $a w $. $} fq $f w q $. b $a w q $.", "a", "fp $f w p | e $e |- p | a $a w"},
		{"${ fp $f w p $. e $e |- p $. a $a w $. $} fq $f w q $. b $a w q $.", "b", "fq $f w q | b $a w q"},
		{"${ fp $f w p $. $} gp $f |- p $. a $a w p $.", "a", "gp $f |- p | a $a w p"},
		{"${ fp $f w p $. a $a w p $. $} ${ gp $f |- p $. b $a w p $. $} hp $f , p $. c $a w p $.", "a", "fp $f w p | a $a w p"},
		{"${ fp $f w p $. a $a w p $. $} ${ gp $f |- p $. b $a w p $. $} hp $f , p $. c $a w p $.", "b", "gp $f |- p | b $a w p"},
		{"${ fp $f w p $. a $a w p $. $} ${ gp $f |- p $. b $a w p $. $} hp $f , p $. c $a w p $.", "c", "hp $f , p | c $a w p"},
		{"fp $f w p $. e $e |- p $. ${ d $e |- $. ${ c $e w $. $} a $a w $. $}", "a", "fp $f w p | e $e |- p | d $e |- | a $a w"},
		{"fp $f w p $. e $e |- p $. ${ d $e |- $. ${ c $e w $. $} $} a $a w $.", "a", "fp $f w p | e $e |- p | a $a w"},
		{"${ $v v $. fv $f w v $. a $a w v $. $} ${ $v v $. gv $f |- v $. b $a w v $. $}", "b", "gv $f |- v | b $a w v"},
		{"${ $v v $. fv $f w v $. a $a w v $. $} ${ $v v $. gv $f |- v $. b $a w v $. $}", "a", "fv $f w v | a $a w v"},
	})
}

func TestPairs(t *testing.T) {
	const typed = "fr $f w r $. fq $f w q $. fp $f w p $. "
	const rqp = "fr $f w r | fq $f w q | fp $f w p | "
	expect(t, [][3]string{
		{typed + "$d p q $. a $a w p q r $.", "a", rqp + "$d q p | a $a w p q r"},
		{typed + "$d p q r $. a $a w p q r $.", "a", rqp + "$d r q | $d r p | $d q p | a $a w p q r"},
		{typed + "$d p q $. $d r p $. $d q p $. a $a w p q r $.", "a", rqp + "$d r p | $d q p | a $a w p q r"},
		{typed + "$d p q $. $d p r $. a $a w q r $.", "a", "fr $f w r | fq $f w q | a $a w q r"},
		{typed + "$d p q $. $d p r $. a $a w p $.", "a", "fp $f w p | a $a w p"},
		{typed + "$d q s p $. a $a w p q $.", "a", "fq $f w q | fp $f w p | $d q p | a $a w p q"},
		{typed + "$d p q $. a $a w $.", "a", "a $a w"},
		{typed + "$d p q $. e $e w q $. a $a w p $.", "a", "fq $f w q | fp $f w p | e $e w q | $d q p | a $a w p"},
		{typed + "a $a w p q $. b $a w $. $d p q $.", "a", "fq $f w q | fp $f w p | a $a w p q"},
		{typed + "$d p q $. a $a w p q $. $d p r $. b $a w p r $.", "b", "fr $f w r | fp $f w p | $d r p | b $a w p r"},
		{typed + "${ $d p q $. a $a w p q $. $} b $a w p q $.", "a", "fq $f w q | fp $f w p | $d q p | a $a w p q"},
		{typed + "${ $d p q $. a $a w p q $. $} b $a w p q $.", "b", "fq $f w q | fp $f w p | b $a w p q"},
		{typed + "$d p q $. ${ ${ $d p r $. $} $d q r $. a $a w p q r $. $}", "a", rqp + "$d r q | $d q p | a $a w p q r"},
		{typed + "${ $v v $. $d v p $. $} ${ $v v $. fv $f w v $. a $a w v p $. $}", "a", "fp $f w p | fv $f w v | a $a w v p"},
		{"$d p q $. fp $f w p $. fq $f w q $. a $a w q p $.", "a", "fp $f w p | fq $f w q | $d p q | a $a w q p"},
		{"$d p q $. ${ fp $f w p $. fq $f w q $. $} ${ fq2 $f w q $. fp2 $f w p $. a $a w q p $. $}", "a", "fq2 $f w q | fp2 $f w p | $d q p | a $a w q p"},
	})
}

func TestFrame(t *testing.T) {
	r := read(t, "$c w $. $v p q $. fp $f w p $. $d p q $. a $a w p $. fq $f w q $. e $e w $. b $a w q p $.")
	for number, want := range map[int]Frame{
		2: {Hypotheses: []int{0}},
		5: {Hypotheses: []int{0, 3, 4}, Pairs: []Pair{{"p", "q"}}},
	} {
		if got := Of(r, number); !reflect.DeepEqual(got, want) {
			t.Errorf("P10: the frame of statement %d: %+v, want %+v", number, got, want)
		}
	}
	for _, number := range []int{-1, 6, 1000} {
		Of(r, number)
		Lines(r, number)
	}
}

func TestAllHypotheses(t *testing.T) {
	r := read(t, "$c w $. $v p q $. fp $f w p $. $d p q $. a $a w p $. fq $f w q $. ${ e $e w $. b $p w q p $= $. $} c $a w $.")
	want := [][]int{nil, nil, {0}, nil, nil, {0, 3, 4}, nil}
	if got := AllHypotheses(r); !reflect.DeepEqual(got, want) {
		t.Errorf("P10: the mandatory hypotheses are %v, want %v", got, want)
	}
	if got := AllHypotheses(&record.Record{}); len(got) != 0 {
		t.Errorf("P10: the mandatory hypotheses of nothing are %v", got)
	}
}

func TestGreatestFrame(t *testing.T) {
	const count = 250
	var text, names strings.Builder
	for i := 0; i < count; i++ {
		fmt.Fprintf(&names, " v%d", i)
		fmt.Fprintf(&text, " f%d $f w v%d $.", i, i)
	}
	r := read(t, "$c w $. $v"+names.String()+" $."+text.String()+" $d"+names.String()+" $. a $a w"+names.String()+" $.")
	got := Lines(r, r.FindAssertion("a"))
	if len(got) != count+count*(count-1)/2+1 || cap(got) != len(got) {
		t.Fatalf("P10: %d lines, room for %d", len(got), cap(got))
	}
	i := count
	for one := 0; one < count; one++ {
		for other := one + 1; other < count; other++ {
			if want := fmt.Sprintf("$d v%d v%d", one, other); got[i] != want {
				t.Fatalf("P10: line %d is %s, want %s", i, got[i], want)
			}
			i++
		}
	}
}
