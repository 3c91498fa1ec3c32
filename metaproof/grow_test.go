package metaproof

import (
	"fmt"
	"strings"
	"testing"

	"metaproof/api"
)

// This file reckons P18 a second time: trees are grown from the smallest on, on strings and maps, and compared with what Parse tells on databases that are made by throwing dice.

// rule is a production: what it makes, and which variables in it stand for trees.
type rule struct {
	label, code string
	makes       []string
	takes       [][2]string // variable and typecode, in the order of the $f
}

func (r rule) taken(symbol string) string {
	for _, take := range r.takes {
		if take[0] == symbol {
			return take[1]
		}
	}
	return ""
}

// rules tells the grammar of an assertion; of what no assertion is: that of one without variables behind them all.
func (r *reckoning) rules(label string) []rule {
	var list []rule
	if k := r.all[label]; k != nil {
		for _, h := range k.hypotheses {
			if h[1] == "$f" {
				list = append(list, rule{label: h[0], code: h[2], makes: h[3:]})
			}
		}
	}
	for _, ahead := range r.order {
		if ahead == label {
			break
		}
		k := r.all[ahead]
		words := strings.Fields(k.shows)
		made := rule{label: ahead, code: words[0], makes: words[1:]}
		good := k.row.Verdict == api.Axiom && len(k.pairs) == 0
		for _, h := range k.hypotheses {
			if h[1] == "$e" {
				good = false
				break
			}
			good = good && strings.Count(" "+strings.Join(words[1:], "  ")+" ", " "+h[3]+" ") == 1
			made.takes = append(made.takes, [2]string{h[3], h[2]})
		}
		if good {
			list = append(list, made)
		}
	}
	return list
}

// plant is a tree: its number, its labels, and how many these are, if not too many.
type plant struct {
	id     int
	labels []string
	count  int
}

// garden has, by typecode and symbols, at most two trees: a third one would tell nothing more.
type garden struct {
	plants map[string][]*plant
	seen   map[string]bool
}

func grown(rules []rule, symbols []string) *garden {
	g := &garden{map[string][]*plant{}, map[string]bool{}}
	pieces := map[string]bool{}
	for i := 0; i <= len(symbols); i++ {
		for j := i; j <= len(symbols); j++ {
			pieces[strings.Join(symbols[i:j], " ")] = true
		}
	}
	for before := -1; before < len(g.seen); {
		before = len(g.seen)
		for _, r := range rules {
			for piece := range pieces {
				g.match(r, piece, r.makes, strings.Fields(piece), map[string]*plant{})
			}
		}
	}
	return g
}

// match goes on where some of what a rule makes is still to be found in what is left of a piece.
func (g *garden) match(r rule, piece string, makes, left []string, filled map[string]*plant) {
	if len(makes) == 0 {
		if len(left) == 0 {
			g.plant(r, piece, filled)
		}
		return
	}
	code := r.taken(makes[0])
	if code == "" {
		if len(left) > 0 && left[0] == makes[0] {
			g.match(r, piece, makes[1:], left[1:], filled)
		}
		return
	}
	for i := 0; i <= len(left); i++ {
		for _, p := range g.plants[code+":"+strings.Join(left[:i], " ")] {
			filled[makes[0]] = p
			g.match(r, piece, makes[1:], left[i:], filled)
		}
	}
}

func (g *garden) plant(r rule, piece string, filled map[string]*plant) {
	bed := r.code + ":" + piece
	p := &plant{id: len(g.seen), count: 1}
	name := r.label
	for _, take := range r.takes {
		within := filled[take[0]]
		name += fmt.Sprintf(" %d", within.id)
		p.count += within.count
		p.labels = append(p.labels, within.labels...)
	}
	p.labels = append(p.labels, r.label)
	if p.count > api.MaxSteps {
		p.count, p.labels = api.MaxSteps+1, nil
	}
	if !g.seen[name] && len(g.plants[bed]) < 2 {
		g.seen[name] = true
		g.plants[bed] = append(g.plants[bed], p)
	}
}

func (g *garden) tree(code string, symbols []string) string {
	plants := g.plants[code+":"+strings.Join(symbols, " ")]
	switch {
	case len(symbols) > api.MaxParse:
		return errLong
	case len(plants) == 0:
		return errNone
	case len(plants) > 1:
		return errTwo
	case plants[0].count > api.MaxSteps:
		return errLong
	}
	return strings.Join(plants[0].labels, " ")
}

// soil is what the generated databases begin with.
const soil = "$c w s n |- A B ( ) + $. $v p q x y z $. fq $f w q $. fx $f s x $. fp $f w p $. fz $f n z $. fy $f s y $."

// somePattern tells symbols for an axiom; most often it has no variable twice.
func somePattern(d *dice) string {
	text := ""
	variables := strings.Fields("p q x y z")
	for i := d.below(5); i > 0; i-- {
		if len(variables) > 0 && d.below(2) == 0 {
			at := d.below(len(variables))
			text += " " + variables[at]
			if d.below(12) > 0 {
				variables = append(variables[:at:at], variables[at+1:]...)
			}
		} else {
			text += " " + strings.Fields("A B ( ) +")[d.below(5)]
		}
	}
	return text
}

// someFormula goes by the rules, so that often there is a tree.
func someFormula(d *dice, rules []rule, code string, depth int) []string {
	var fit []rule
	for _, r := range rules {
		if r.code == code {
			fit = append(fit, r)
		}
	}
	if len(fit) == 0 || depth == 0 || d.below(8) == 0 {
		leaves := map[string]string{"w": "pq", "s": "xy", "n": "z", "|-": "A"}[code]
		return []string{string(leaves[d.below(len(leaves))])}
	}
	r := fit[d.below(len(fit))]
	var formula []string
	for _, symbol := range r.makes {
		if within := r.taken(symbol); within != "" {
			formula = append(formula, someFormula(d, rules, within, depth-1)...)
		} else {
			formula = append(formula, symbol)
		}
	}
	return formula
}

// growth tells a part of a database: an axiom, perhaps with a $d or $e; a theorem; a $d or $e for what is behind; a block.
func (r *reckoning) growth(d *dice, number int) string {
	code := strings.Fields("w s n |-")[d.below(4)]
	axiom := fmt.Sprintf("a%d $a %s%s $.", number, code, somePattern(d))
	switch d.below(14) {
	case 0:
		return "${ $d " + []string{"p q", "x p q", "y z"}[d.below(3)] + " $. " + axiom + " $}"
	case 1:
		return fmt.Sprintf("${ e%d $e |- %s $. %s $}", number, []string{"p", "x y", "A", ""}[d.below(4)], axiom)
	case 2:
		return fmt.Sprintf("a%d $p w%s $= ? $.", number, somePattern(d))
	case 3:
		return "${"
	case 4:
		if len(r.scopes) > 1 {
			return "$}"
		}
	case 5:
		return []string{"$d p q $.", fmt.Sprintf("e%d $e |- q $.", number)}[d.below(2)]
	case 6, 7, 8, 9, 10:
		formula := someFormula(d, r.rules(""), code, 1+d.below(4))
		if len(formula) <= api.MaxParse+2 {
			form := []string{"a%d $a |- %s $.", "a%d $p |- %s $= ? $."}[d.below(2)]
			return fmt.Sprintf(form, number, strings.Join(formula, " "))
		}
	}
	return axiom
}

// someGrowth makes a database, and reckons it.
func someGrowth(d *dice) (string, *reckoning) {
	r := &reckoning{scopes: []scope{{}}, all: map[string]*known{}}
	r.read(spots("soil", soil))
	text := "$[ soil $]"
	for i := 0; i < 18 && len(text) < 600; i++ {
		part := r.growth(d, i)
		text += " " + part
		r.read(spots("m", part))
	}
	return text + strings.Repeat(" $}", len(r.scopes)-1), r
}

// replay: a tree is a proof that its symbols are of its typecode, right behind the assertion of a label.
func replay(t *testing.T, text, label, goal, tree string) {
	t.Helper()
	begin := strings.Index(text, " "+label+" $")
	end := begin + strings.Index(text[begin:], "$.") + len("$.")
	v := verified(t, file("m", text[:end]+" it $p "+goal+" $= "+tree+" $."+text[end:]), file("soil", soil))
	if got := rowOf(v, "it"); got.Verdict != api.Verified || stepsOf(t, v, "it") != tree {
		t.Fatalf("P18: %q: the tree %s is no proof of %s: %+v", text, tree, goal, got)
	}
}

func TestManyTrees(t *testing.T) {
	d := dice(5)
	deep, counts := 0, map[string]int{}
	for round := 0; round < 1000; round++ {
		text, r := someGrowth(&d)
		v := verified(t, file("m", text), file("soil", soil))
		for _, label := range r.order {
			symbols := strings.Fields(r.all[label].shows)[1:]
			g := &garden{}
			if len(symbols) <= api.MaxParse {
				g = grown(r.rules(label), symbols)
			}
			for _, code := range strings.Fields("w s n |- A none") {
				got, want := treeOf(t, v, label, code), g.tree(code, symbols)
				if got != want {
					t.Fatalf("P18: %q: Parse(%q, %q) = %s, want %s", text, label, code, got, want)
				}
				counts[want]++
				if !strings.HasPrefix(want, "error") {
					deep += strings.Count(want, " ") / 2
					replay(t, text, label, strings.Join(append([]string{code}, symbols...), " "), want)
				}
			}
		}
	}
	if deep < 500 || counts[errNone] < 500 || counts[errTwo] < 500 || counts[errLong] < 50 {
		t.Errorf("the trees are too plain: %d, %d, %d, %d", deep, counts[errNone], counts[errTwo], counts[errLong])
	}
}
