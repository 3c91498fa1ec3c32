package player

import (
	"fmt"
	"strings"
	"testing"

	"metaproof/api"
	"metaproof/frames"
	"metaproof/proofs"
	"metaproof/reader"
	"metaproof/record"
	"metaproof/table"
)

// base: the statements that the document's examples of proofs begin with.
const base = "$c ( ) > w |- $. $v p q r $. wp $f w p $. wq $f w q $. wr $f w r $. wi $a w ( p > q ) $. ${ min $e |- p $. maj $e |- ( p > q ) $. mp $a |- q $. $} k $a |- ( p > ( q > p ) ) $.\n"

func read(t *testing.T, text string) *record.Record {
	t.Helper()
	files := &table.Table{}
	if e := files.Put("m", text); e != api.OK {
		t.Fatalf("P3: Put = %d", e)
	}
	said, fault := reader.Read(files, 0)
	if fault.Rule != 0 {
		t.Fatalf("P8: %q: %+v", text, fault)
	}
	return &said
}

// played tells how the proof of the theorem t goes that stands behind the text: why it fails, and at which of its words, from 1 on.
func played(t *testing.T, text string, statement string, proof string) string {
	t.Helper()
	r := read(t, text+"t $p "+statement+" $=\n"+strings.Join(strings.Fields(proof), "\n")+"\n$. later $a w $."+strings.Repeat(" $}", strings.Count(text, "${")-strings.Count(text, "$}")))
	number := r.FindAssertion("t")
	steps, fault := proofs.Read(r, number)
	if fault.Why == 0 {
		fault = Play(r, number, frames.AllHypotheses(r), steps)
	}
	if fault.Why == 0 {
		if fault != (proofs.Fault{}) {
			t.Errorf("P15: a place without a fault: %v", fault)
		}
		return "ok"
	}
	first := strings.Count(text, "\n") + 1
	return fmt.Sprintf("F%d %d:%d", fault.Why, fault.At.Line-first, fault.At.Col)
}

// at tells a fault at a word of the proof; the last is the `$.`.
func at(why int, word int) string { return fmt.Sprintf("F%d %d:1", why, word) }

func expect(t *testing.T, text string, cases [][3]string) {
	t.Helper()
	for _, c := range cases {
		if got := played(t, text, c[0], c[1]); got != c[2] {
			t.Errorf("P13: %s $= %s: %s, want %s", c[0], c[1], got, c[2])
		}
	}
}

func TestPlay(t *testing.T) {
	expect(t, base, [][3]string{
		{"w p", "wp", "ok"}, {"w ( p > q )", "wp wq wi", "ok"}, {"w ( ( p > q ) > r )", "wp wq wi wr wi", "ok"}, {"w ( p > ( q > r ) )", "wp wq wr wi wi", "ok"},
		{"|- ( ( p > q ) > ( p > ( p > q ) ) )", "wp wq wi wp k", "ok"},
		{"w ( p > q )", "( wi ) A B C", "ok"}, {"w ( ( p > p ) > ( p > p ) )", "( wi ) A A B Z C B", "ok"}, {"w ( ( p > q ) > ( p > q ) )", "( wi ) A Z B Z C D E C C", "ok"},
		{"w ( ( p > p ) > ( p > p ) )", "( wi ) A Z C B Z D Z B", "ok"},
		{"w ( p > q )", "wi", at(api.FUnder, 1)}, {"w ( p > q )", "wp wi", at(api.FUnder, 2)}, {"w ( p > q )", "wp wq wi wi wp", at(api.FUnder, 4)}, {"|- q", "wp wq mp", at(api.FUnder, 3)}, {"w p", "wp mp", at(api.FUnder, 2)},
		{"w ( p > q )", "wp wq", at(api.FLeft, 3)}, {"w p", "wp wp", at(api.FLeft, 3)}, {"w ( p > q )", "wr wp wq wi", at(api.FLeft, 5)}, {"w p", "( wi ) A Z B", at(api.FUnder, 6)}, {"w p", "( wi ) A Z C", at(api.FLeft, 7)},
		{"w ( p > q )", "wp", at(api.FGoal, 2)}, {"w ( p > q )", "wq wp wi", at(api.FGoal, 4)}, {"|- p", "wp", at(api.FGoal, 2)}, {"w p", "wq", at(api.FGoal, 2)}, {"w p p", "wp", at(api.FGoal, 2)}, {"w", "wp", at(api.FGoal, 2)},
		{"w p", "wp wp k", at(api.FGoal, 4)},
	})
}

func TestTypes(t *testing.T) {
	const types = "$c w x $. $v p q $. wp $f w p $. xq $f x q $. wx $a w q $. a $a w p q $. b $a x w p $. e $e x p $.\n"
	expect(t, types, [][3]string{
		{"w q", "xq wx", "ok"}, {"w p", "wp wx", at(api.FType, 2)}, {"w p q", "wp xq a", "ok"}, {"w p q", "xq wp a", at(api.FType, 3)}, {"w p q", "wp wp a", at(api.FType, 3)}, {"w q q", "xq xq a", at(api.FType, 3)},
		{"w p p", "wp e a", "ok"}, {"w w p", "wp b wx", "ok"}, {"x w w p", "wp b wx b", "ok"}, {"x w q q", "xq wx xq a b", "ok"}, {"w p", "e wx", "ok"}, {"x w q", "xq wx b", "ok"},
	})
}

func TestHypotheses(t *testing.T) {
	const open = base + "${ h $e |- p $. g $e |- ( p > q ) $. i $e |- ( q > r ) $.\n"
	expect(t, open, [][3]string{
		{"|- p", "h", "ok"}, {"|- q", "wp wq h g mp", "ok"}, {"|- r", "wq wr wp wq h g mp i mp", "ok"}, {"|- q", "wq wp h g mp", at(api.FHyp, 5)}, {"|- q", "wp wq g h mp", at(api.FHyp, 5)}, {"|- r", "wp wr h g mp", at(api.FHyp, 5)},
		{"|- r", "wp wr h i mp", at(api.FHyp, 5)}, {"|- q", "wp wq wp g mp", at(api.FHyp, 5)}, {"|- q", "wp wq h wp mp", at(api.FHyp, 5)}, {"|- q", "h wq h g mp", at(api.FType, 5)}, {"|- q", "wp h g h mp", at(api.FType, 5)}, {"|- q", "h h g g mp", at(api.FType, 5)},
		{"|- q", "wp wq h mp", at(api.FUnder, 4)}, {"|- ( q > p )", "wp wq wp wi h wp wq k mp", "ok"}, {"|- ( q > p )", "wp wq wp wi h wq wp k mp", at(api.FHyp, 9)},
	})
	// at once: q becomes p, and p becomes q
	expect(t, base+"${ a $e |- ( p > q ) $. s $a |- ( q > p ) $. $} ${ h $e |- ( q > p ) $.\n", [][3]string{
		{"|- ( p > q )", "wq wp h s", "ok"}, {"|- ( q > p )", "wq wp h s", at(api.FGoal, 5)}, {"|- ( p > q )", "wp wq h s", at(api.FHyp, 4)},
	})
}

func TestNothing(t *testing.T) {
	const empty = "$c w |- $. $v p q $. wp $f w p $. wq $f w q $. none $a w $. j $a w p q $. ${ e $e |- p q p $. l $a |- p $. $} m $a |- $.\n"
	expect(t, empty, [][3]string{
		{"w", "none", "ok"}, {"w", "none none j", "ok"}, {"w p", "wp none j", "ok"}, {"w q", "none wq j", "ok"}, {"|-", "none none m l", "ok"}, {"|-", "none wq m l", at(api.FHyp, 4)}, {"|- p", "wp none m l", at(api.FHyp, 4)}, {"|-", "m", "ok"}, {"|- w", "m", at(api.FGoal, 2)},
	})
}

func TestApart(t *testing.T) {
	const axioms = "$c ( ) > w |- $. $v p q r s d $. wp $f w p $. wq $f w q $. wr $f w r $. ws $f w s $. wd $f w d $. wi $a w ( p > q ) $. none $a w $. ${ $d p q $. ap $a |- ( p > q ) $. $}\n"
	expect(t, axioms, [][3]string{
		{"|- ( p > q )", "wp wq ap", at(api.FApart, 3)}, {"|- ( p > p )", "wp wp ap", at(api.FApart, 3)}, {"|- ( p > )", "wp none ap", "ok"}, {"|- ( > p )", "none wp ap", "ok"}, {"|- ( > )", "none none ap", "ok"},
		{"|- ( p > p )", "wp none ap", at(api.FGoal, 4)},
	})
	expect(t, axioms+"${ $d p q $. $d q r s $. $d p d $.\n", [][3]string{
		{"|- ( p > q )", "wp wq ap", "ok"}, {"|- ( q > p )", "wq wp ap", "ok"}, {"|- ( p > r )", "wp wr ap", at(api.FApart, 3)}, {"|- ( s > r )", "ws wr ap", "ok"}, {"|- ( q > q )", "wq wq ap", at(api.FApart, 3)},
		{"|- ( p > ( q > r ) )", "wp wq wr wi ap", at(api.FApart, 5)}, {"|- ( ( p > r ) > q )", "wp wr wi wq ap", "ok"}, {"|- ( q > ( s > r ) )", "wq ws wr wi ap", "ok"}, {"|- ( ( p > p ) > ( q > q ) )", "wp wp wi wq wq wi ap", "ok"},
		{"|- ( ( s > p ) > ( q > p ) )", "ws wp wi wq wp wi ap", at(api.FApart, 7)}, {"|- ( ( p > r ) > ( q > s ) )", "wp wr wi wq ws wi ap", at(api.FApart, 7)}, {"|- ( ( q > p ) > ( r > q ) )", "wq wp wi wr wq wi ap", at(api.FApart, 7)},
	})
	// the $d that count are those at the theorem, even of variables that are not mandatory in it; and those at the assertion, not at the theorem
	const dummy = axioms + "$d p q $. free $a |- ( p > r ) $. ${ $d p d $. inner $a w $. $} ${ $d d q $. c $e |- ( d > q ) $. cut $a |- q $. $}\n"
	expect(t, dummy, [][3]string{
		{"|- ( p > p )", "wp wp free", "ok"}, {"|- ( p > q )", "wp wq ap", "ok"}, {"|- ( p > d )", "wp wd ap", at(api.FApart, 3)}, {"|- q", "wq wp wp wq ap cut", "ok"}, {"|- q", "wq wd wd wq ap cut", at(api.FApart, 5)},
	})
	expect(t, dummy+"${ $d d q $.\n", [][3]string{
		{"|- q", "wq wd wd wq ap cut", "ok"}, {"|- q", "wq wr wp wq ap cut", at(api.FHyp, 6)}, {"|- q", "wq wr wr wq ap cut", at(api.FApart, 5)}, {"|- ( q > q )", "wq wp wp wq ap cut", at(api.FGoal, 7)},
	})
	// what a hypothesis asks for comes ahead of the pairs
	expect(t, axioms+"${ $d p q $. h $e |- p $. both $a |- q $. $} ${ g $e |- p $.\n", [][3]string{
		{"|- q", "wp wq g both", at(api.FApart, 4)}, {"|- q", "wq wq g both", at(api.FHyp, 4)}, {"|- q", "g wq g both", at(api.FType, 4)}, {"|- q", "wq g both", at(api.FUnder, 3)},
	})
}

func TestEachPair(t *testing.T) {
	const many = "$c w $. $v a b c d e $. wa $f w a $. wb $f w b $. wc $f w c $. wd $f w d $. we $f w e $. ${ $d a b c $. $d c d $. ax $a w a b c d $. $}\n"
	variables := strings.Split("abcde", "")
	for i, one := range variables {
		for _, other := range variables[i+1:] {
			text := many + "${"
			for j, x := range variables {
				for _, y := range variables[j+1:] {
					if x != one || y != other {
						text += " $d " + y + " " + x + " $."
					}
				}
			}
			wants := [2]string{"ok", "ok"}
			for i, needed := range []string{"ab ac bc cd", "ab ac bc ce"} {
				if strings.Contains(needed, one+other) {
					wants[i] = at(api.FApart, 5)
				}
			}
			expect(t, text+"\n", [][3]string{{"w a b c d", "wa wb wc wd ax", wants[0]}, {"w a b c e", "wa wb wc we ax", wants[1]}})
		}
	}
}

func TestLong(t *testing.T) {
	symbols := func(count int) string { return strings.Repeat(" S", count) }
	const axioms = "$c w S |- $. $v p q $. wp $f w p $. wq $f w q $. s $a w S p $. j $a w p q $. none $a w $. ${ h $e w p p $. two $a |- p $. $}"
	for count := 28; count < 36; count++ {
		long := "w" + symbols(count)
		// or tells what comes where nothing is too long
		or := func(other string, word int) string {
			if count < api.MaxExpr {
				return other
			}
			return at(api.FLong, word)
		}
		// a hypothesis, an axiom without hypotheses, and one in which variables are replaced
		expect(t, axioms+" ${ e $e "+long+" $.\n", [][3]string{{long, "e", or("ok", 1)}, {long, "wp e", or(at(api.FLeft, 3), 2)}, {long, "( ) A", or("ok", 3)}, {long, "( ) A Z B", or(at(api.FLeft, 6), 3)}})
		expect(t, axioms+" l $a "+long+" $.\n", [][3]string{{long, "l", or("ok", 1)}, {long, "( l ) A", or("ok", 4)}})
		expect(t, axioms+" l $a w"+symbols(count/2)+" $. k $a w"+symbols(count-count/2)+" $.\n", [][3]string{{long, "l k j", or("ok", 3)}, {long, "( l k j ) A B Z C", or("ok", 9)}, {long, "l k j wp", or(at(api.FLeft, 5), 3)}})
	}
	expect(t, axioms+" l $a w"+symbols(api.MaxExpr-2)+" $.\n", [][3]string{{"w" + symbols(api.MaxExpr-1), "l s", "ok"}, {"w" + symbols(api.MaxExpr), "l s s", at(api.FLong, 3)}})
	// what a hypothesis asks for may be longer than what can be shown: it is just another expression
	const halves = axioms + " l $a w S S S S S S S S S S S S S S S S S S S S $. m $a w S S $.\n"
	expect(t, halves, [][3]string{{"|-", "l l two", at(api.FHyp, 3)}, {"|- S S", "m m m j two", "ok"}, {"|- S S", "m m j m two", at(api.FHyp, 5)}, {"|- S", "none s none s s two", "ok"}})
	// too long comes behind all that could be wrong with the hypotheses
	expect(t, axioms+" ${ $d p q $. far $a w p q p q p q $. $} l $a w"+symbols(20)+" $. m $a |- $.\n", [][3]string{
		{"w", "l l far", at(api.FLong, 3)}, {"w", "wp l far", at(api.FLong, 3)}, {"w", "wp wp far", at(api.FApart, 3)}, {"w", "wp wp l j far", at(api.FApart, 5)}, {"w", "l m far", at(api.FType, 3)}, {"w", "l far", at(api.FUnder, 2)},
	})
}

func TestStrangeSteps(t *testing.T) {
	r := read(t, base+"t $p w p $= wp $.")
	number := r.FindAssertion("t")
	hypotheses := frames.AllHypotheses(r)
	for kind := 0; kind < 5; kind++ {
		for of := -2; of < r.Count()+2; of++ {
			Play(r, number, hypotheses, []proofs.Step{{Kind: kind, Number: of}})
			Play(r, number, nil, []proofs.Step{{Kind: kind, Number: of}})
			Play(r, of, hypotheses, nil)
		}
	}
	if fault := Play(r, number, hypotheses, nil); fault.Why != api.FGoal {
		t.Errorf("P1: without a step: %+v", fault)
	}
}
