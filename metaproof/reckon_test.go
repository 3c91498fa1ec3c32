package metaproof

import (
	"fmt"
	"sort"
	"strings"
	"testing"

	"metaproof/api"
)

// This file reckons P11 to P17 a second time, on strings and maps, and compares what it finds on databases that are made by throwing dice.

// lib is what the generated databases begin with: it is read as one line of the file lib.
const lib = "$c ( ) > w |- $. $v p q r $. wp $f w p $. wq $f w q $. wr $f w r $. wi $a w ( p > q ) $. none $a w $. ${ min $e |- p $. maj $e |- ( p > q ) $. mp $a |- q $. $} k $a |- ( p > ( q > p ) ) $. ${ $d p q $. ap $a |- ( p > q ) $. $} ${ h $e |- p $. g $a |- ( q > p ) $. $} ${ $d p r $. o $e |- ( p > r ) $. c $a |- r $. $} wide $a w ( ( p > p ) > ( p > ( p > p ) ) ) $."

// known is an assertion that was read: what it asks for, what it shows, and what was found out.
type known struct {
	hypotheses [][]string // label, keyword, symbols
	pairs      [][2]string
	shows      string

	row   api.Row
	steps []string
	names map[string]bool
}

// reckoning is a database as far as it was read.
type reckoning struct {
	scopes []scope
	all    map[string]*known
	order  []string
}

func (r *reckoning) top() *scope { return &r.scopes[len(r.scopes)-1] }

type spot struct {
	text string
	at   api.Place
}

// spots takes a text without comments and inclusions apart.
func spots(name, text string) []spot {
	var list []spot
	for i, line := range strings.Split(text, "\n") {
		begin := -1
		for j, b := range line + " " {
			if b != ' ' && begin < 0 {
				begin = j
			}
			if b == ' ' && begin >= 0 {
				list = append(list, spot{line[begin:j], api.Place{File: name, Line: i + 1, Col: begin + 1}})
				begin = -1
			}
		}
	}
	return list
}

func (r *reckoning) read(list []spot) {
	var statement []spot
	for _, word := range list {
		switch word.text {
		case "${":
			r.scopes = append(r.scopes, r.top().copy())
		case "$}":
			r.scopes = r.scopes[:len(r.scopes)-1]
		case "$.":
			r.end(statement, word.at)
			statement = nil
		default:
			statement = append(statement, word)
		}
	}
}

func (r *reckoning) end(statement []spot, at api.Place) {
	var texts []string
	var proof []spot
	for i, word := range statement {
		if word.text == "$=" {
			proof = statement[i+1:]
			break
		}
		texts = append(texts, word.text)
	}
	switch {
	case texts[0] == "$d":
		r.top().apart = append(r.top().apart, texts[1:])
	case texts[0] == "$c" || texts[0] == "$v":
	case texts[1] == "$f" || texts[1] == "$e":
		r.top().hypotheses = append(r.top().hypotheses, texts)
	default:
		r.assert(texts, proof, at)
	}
}

func (r *reckoning) assert(texts []string, proof []spot, at api.Place) {
	k := &known{shows: strings.Join(texts[2:], " "), row: api.Row{Label: texts[0], Verdict: api.Axiom}}
	lines := strings.Split(r.top().frame(texts), " | ")
	for _, line := range lines[:len(lines)-1] {
		words := strings.Fields(line)
		if words[0] == "$d" {
			k.pairs = append(k.pairs, [2]string{words[1], words[2]})
		} else {
			k.hypotheses = append(k.hypotheses, words)
		}
	}
	if texts[1] == "$p" {
		r.judge(k, proof, at)
	}
	r.all[texts[0]] = k
	r.order = append(r.order, texts[0])
}

// hypothesis tells what an active hypothesis shows, or nothing.
func (r *reckoning) hypothesis(label string) string {
	for _, h := range r.top().hypotheses {
		if h[0] == label {
			return strings.Join(h[2:], " ")
		}
	}
	return ""
}

func (r *reckoning) nameable(label string) bool {
	return r.all[label] != nil || r.hypothesis(label) != ""
}

// piece is a step: a label, `?`, or `=` and the number of an earlier one.
type piece struct {
	text string
	at   api.Place
}

func (r *reckoning) judge(k *known, proof []spot, end api.Place) {
	pieces, why, at := r.pieces(k, proof, end)
	k.row.Verdict, k.row.Why, k.row.At = api.Failed, why, at
	if why != 0 {
		return
	}
	for _, piece := range pieces {
		if piece.text == "?" {
			k.row.Verdict, k.row.At = api.Incomplete, piece.at
			return
		}
	}
	k.row.Why, k.row.At = r.play(k, pieces, end)
	if k.row.Why != 0 {
		return
	}
	k.names = map[string]bool{}
	for _, piece := range pieces {
		k.names[piece.text] = true
	}
	_, open := r.uses(k)
	k.row.Verdict = api.Verified
	if len(open) > 0 {
		k.row.Verdict = api.Checked
	}
}

func (r *reckoning) pieces(k *known, proof []spot, end api.Place) ([]piece, int, api.Place) {
	if len(proof) > 0 && proof[0].text == "(" {
		return r.unpacked(k, proof[1:], end)
	}
	var list []piece
	for _, word := range proof {
		if word.text != "?" && !r.nameable(word.text) {
			return nil, api.FLabel, word.at
		}
		list = append(list, piece(word))
	}
	if list == nil {
		return nil, api.FEmpty, end
	}
	return list, 0, api.Place{}
}

// numerals are those of up to four letters, made as the document's list goes on.
func numerals() []string {
	var list []string
	heads := []string{""}
	for length := 1; length <= 4; length++ {
		var longer []string
		for _, head := range heads {
			for _, last := range "ABCDEFGHIJKLMNOPQRST" {
				list = append(list, head+string(last))
			}
			for _, digit := range "UVWXY" {
				longer = append(longer, head+string(digit))
			}
		}
		heads = longer
	}
	return list
}

var numeralOf = numerals()

// numberOf tells the number of a numeral; 0, if it has too many letters.
func numberOf(numeral string) int {
	for i, other := range numeralOf {
		if other == numeral {
			return i + 1
		}
	}
	return 0
}

func (r *reckoning) unpacked(k *known, proof []spot, end api.Place) ([]piece, int, api.Place) {
	var things []string
	taken := map[string]bool{}
	for _, h := range k.hypotheses {
		things = append(things, h[0])
		taken[h[0]] = true
	}
	for {
		if len(proof) == 0 {
			return nil, api.FBlock, end
		}
		word := proof[0]
		proof = proof[1:]
		if word.text == ")" {
			break
		}
		if !r.nameable(word.text) {
			return nil, api.FLabel, word.at
		}
		if taken[word.text] {
			return nil, api.FBlock, word.at
		}
		taken[word.text] = true
		things = append(things, word.text)
	}
	var list []piece
	numeral, before := "", ""
	for _, word := range proof {
		for i, letter := range strings.Split(word.text, "") {
			at := word.at
			at.Col += i
			switch {
			case strings.Contains("UVWXY", letter):
				numeral += letter
			case strings.Contains("ABCDEFGHIJKLMNOPQRST", letter):
				number := numberOf(numeral + letter)
				if number == 0 || number > len(things) {
					return nil, api.FRange, at
				}
				list = append(list, piece{things[number-1], at})
				numeral = ""
			case letter == "Z" && before != "" && strings.Contains("ABCDEFGHIJKLMNOPQRST", before):
				things = append(things, fmt.Sprintf("=%d", len(list)-1))
			case letter == "?" && numeral == "":
				list = append(list, piece{"?", at})
			default:
				return nil, api.FLetter, at
			}
			before = letter
		}
	}
	if numeral != "" {
		return nil, api.FLetter, end
	}
	if list == nil {
		return nil, api.FEmpty, end
	}
	return list, 0, api.Place{}
}

// shown is what a step shows, and the labels by which it does.
type shown struct {
	text   string
	labels []string
}

func (r *reckoning) play(k *known, pieces []piece, end api.Place) (int, api.Place) {
	var stack, every []shown
	for _, piece := range pieces {
		var s shown
		if piece.text[0] == '=' {
			var number int
			fmt.Sscanf(piece.text, "=%d", &number)
			s = every[number]
		} else if text := r.hypothesis(piece.text); text != "" {
			s = shown{text, []string{piece.text}}
		} else {
			a := r.all[piece.text]
			if len(stack) < len(a.hypotheses) {
				return api.FUnder, piece.at
			}
			args := stack[len(stack)-len(a.hypotheses):]
			text, why := r.apply(a, args)
			if why != 0 {
				return why, piece.at
			}
			for _, arg := range args {
				s.labels = append(s.labels, arg.labels...)
			}
			s = shown{text, append(s.labels, piece.text)}
			stack = stack[:len(stack)-len(args)]
		}
		if len(strings.Fields(s.text)) > 32 {
			return api.FLong, piece.at
		}
		every = append(every, s)
		stack = append(stack, s)
	}
	if len(stack) > 1 {
		return api.FLeft, end
	}
	if stack[0].text != k.shows {
		return api.FGoal, end
	}
	k.steps = stack[0].labels
	return 0, api.Place{}
}

// apply tells what an assertion shows, or why it does not.
func (r *reckoning) apply(a *known, args []shown) (string, int) {
	becomes := map[string]string{}
	replaced := func(text string) string {
		var list []string
		for _, symbol := range strings.Fields(text) {
			if other, is := becomes[symbol]; is {
				list = append(list, strings.Fields(other)...)
			} else {
				list = append(list, symbol)
			}
		}
		return strings.Join(list, " ")
	}
	for i, h := range a.hypotheses {
		typecode, rest, _ := strings.Cut(args[i].text, " ")
		if h[1] == "$f" && typecode != h[2] {
			return "", api.FType
		}
		if h[1] == "$f" {
			becomes[h[3]] = rest
		} else if args[i].text != replaced(strings.Join(h[2:], " ")) {
			return "", api.FHyp
		}
	}
	for _, pair := range a.pairs {
		for _, one := range strings.Fields(becomes[pair[0]]) {
			for _, other := range strings.Fields(becomes[pair[1]]) {
				if strings.Contains("pqr", one) && strings.Contains("pqr", other) && !r.apart(one, other) {
					return "", api.FApart
				}
			}
		}
	}
	return replaced(a.shows), 0
}

func (r *reckoning) apart(one, other string) bool {
	for _, d := range r.top().apart {
		if one != other && holds(d, one) && holds(d, other) {
			return true
		}
	}
	return false
}

// uses tells what a theorem whose proof was played reaches: axioms, and theorems without a proof.
func (r *reckoning) uses(k *known) ([]string, []string) {
	reached := map[string]bool{}
	var reach func(names map[string]bool)
	reach = func(names map[string]bool) {
		for name := range names {
			if r.all[name] != nil && !reached[name] {
				reached[name] = true
				reach(r.all[name].names)
			}
		}
	}
	reach(k.names)
	if k.row.Verdict == api.Axiom {
		reached[k.row.Label] = true
	}
	var axioms, open []string
	for _, label := range r.order {
		if reached[label] && r.all[label].row.Verdict == api.Axiom {
			axioms = append(axioms, label)
		} else if reached[label] && r.all[label].names == nil {
			open = append(open, label)
		}
	}
	return axioms, open
}

// tree is a proof that grows: what it shows, and from what.
type tree struct {
	label string
	shown shown
	parts []*tree
}

// grow throws trees at the assertions till some fit; now and then one that does not fit is kept too.
func (r *reckoning) grow(d *dice) *tree {
	var pool []*tree
	for _, h := range r.top().hypotheses {
		pool = append(pool, &tree{label: h[0], shown: shown{text: strings.Join(h[2:], " ")}})
	}
	leaves := len(pool)
	for try := 0; try < 150 && len(pool) < leaves+8; try++ {
		label := r.order[d.below(len(r.order))]
		a := r.all[label]
		next := &tree{label: label}
		var args []shown
		for _, h := range a.hypotheses {
			part := pool[d.below(len(pool))]
			for i := d.below(8); i > 0 && !strings.HasPrefix(part.shown.text, h[2]); i-- {
				part = pool[d.below(len(pool))]
			}
			next.parts = append(next.parts, part)
			args = append(args, part.shown)
		}
		text, why := r.apply(a, args)
		if why == api.FType && d.below(6) > 0 || why != 0 && why != api.FType && d.below(40) > 0 || len(strings.Fields(text)) > 32 && d.below(3) > 0 {
			continue
		}
		if why != 0 {
			text = a.shows
		}
		next.shown.text = text
		pool = append(pool, next)
	}
	if d.below(8) == 0 || len(pool) == leaves {
		return pool[d.below(len(pool))]
	}
	return pool[leaves+d.below(len(pool)-leaves)]
}

func (t *tree) normal() []string {
	var list []string
	for _, part := range t.parts {
		list = append(list, part.normal()...)
	}
	return append(list, t.label)
}

// packer writes a tree as a compressed proof.
type packer struct {
	d       *dice
	names   []string
	tagged  map[*tree]int
	letters []string
}

func (p *packer) pack(t *tree) {
	if number, is := p.tagged[t]; is && p.d.below(4) > 0 {
		p.letters = append(p.letters, numeralOf[len(p.names)+number-1])
		return
	}
	for _, part := range t.parts {
		p.pack(part)
	}
	for i, name := range p.names {
		if name == t.label {
			p.letters = append(p.letters, numeralOf[i])
		}
	}
	if p.d.below(3) == 0 && p.tagged[t] == 0 {
		p.tagged[t] = len(p.tagged) + 1
		p.letters = append(p.letters, "Z")
	}
}

func (r *reckoning) compressed(d *dice, label string, t *tree) []string {
	lines := strings.Split(r.top().frame(append([]string{label, "$p"}, strings.Fields(t.shown.text)...)), " | ")
	p := &packer{d: d, tagged: map[*tree]int{}}
	for _, line := range lines[:len(lines)-1] {
		if !strings.HasPrefix(line, "$d") {
			p.names = append(p.names, strings.Fields(line)[0])
		}
	}
	words := []string{"("}
	labels := t.normal()
	sort.Strings(labels)
	if d.below(9) == 0 {
		labels = append(labels, r.order[d.below(len(r.order))])
	}
	if d.below(20) == 0 {
		words = append(words, labels[d.below(len(labels))])
	}
	for _, name := range labels {
		if !holds(p.names, name) {
			p.names = append(p.names, name)
			words = append(words, name)
		}
	}
	words = append(words, ")")
	p.pack(t)
	if d.below(2) == 0 {
		return append(words, strings.Join(p.letters, ""))
	}
	return append(words, p.letters...)
}

// spoil changes a word or a letter of a proof.
func spoil(d *dice, words []string) []string {
	others := strings.Fields("? ? ? ? ( ) x wp wq wr wi k mp ap g A B C D U Z ?A AZ t0 t1 t2 t3 t4 min e0 e1 e2 e3")
	i := d.below(len(words))
	other := others[d.below(len(others))]
	list := append([]string(nil), words[:i]...)
	switch d.below(5) {
	case 0:
		return append(list, words[i+1:]...)
	case 1:
		return append(append(list, other), words[i+1:]...)
	case 2:
		return append(append(list, other), words[i:]...)
	}
	last := words[len(words)-1]
	j := d.below(len(last))
	const letters = "ABCDEFGHTUVWXYZZ???a("
	letter := letters[d.below(len(letters)):][:1]
	changed := []string{last[:j] + last[j+1:], last[:j] + letter + last[j+1:], last[:j] + letter + last[j:], last + letter}[d.below(4)]
	list = append([]string(nil), words[:len(words)-1]...)
	if changed == "" {
		return list
	}
	return append(list, changed)
}

// someLetters is a compressed proof that shows nothing in particular.
func someLetters(d *dice, labels []string) []string {
	const letters = "AABBCCDDEFFGHIJTUVZZZZ"
	words := []string{"(", labels[d.below(len(labels))], ")", ""}
	for i := d.below(30); i > 0; i-- {
		words[3] += letters[d.below(len(letters)):][:1]
	}
	if words[3] == "" {
		return words[:3]
	}
	return words
}

func (r *reckoning) theorem(d *dice, number int) string {
	label := fmt.Sprintf("t%d", number)
	t := r.grow(d)
	proof := t.normal()
	if d.below(12) == 0 {
		proof[d.below(len(proof))] = "?"
	} else if d.below(2) == 0 {
		proof = r.compressed(d, label, t)
	} else if d.below(8) == 0 {
		proof = someLetters(d, r.order)
	}
	for d.below(4) == 0 && len(proof) > 0 {
		proof = spoil(d, proof)
	}
	shows := t.shown.text
	if d.below(30) == 0 {
		shows += " p"
	}
	blank := []string{" ", "\n", "  "}[d.below(3)]
	return label + " $p " + shows + " $=" + blank + strings.Join(proof, blank) + " $."
}

func (r *reckoning) part(d *dice, number int) string {
	variables := strings.Split("pqr", "")
	one := d.below(3)
	switch d.below(12) {
	case 0, 1:
		return "${"
	case 2:
		if len(r.scopes) > 1 {
			return "$}"
		}
	case 3, 4:
		return "$d " + variables[one] + " " + variables[(one+1+d.below(2))%3] + " $."
	case 5:
		return fmt.Sprintf("e%d $e %s $.", number, []string{"|- p", "|- ( p > q )", "|- ( q > r )", "w r", "|- ( p > r )"}[d.below(5)])
	}
	return r.theorem(d, number)
}

func reckoned() *reckoning {
	r := &reckoning{scopes: []scope{{}}, all: map[string]*known{}}
	r.read(spots("lib", lib))
	return r
}

// someProofs makes a database of theorems, and reckons it.
func someProofs(d *dice) (string, *reckoning) {
	r := reckoned()
	text := "$[ lib $]"
	for i := 0; i < 16; i++ {
		part := r.part(d, i)
		blank := []string{" ", "\n"}[d.below(2)]
		if len(text)+len(part)+80 > api.MaxData {
			break
		}
		ahead := len(spots("m", text))
		text += blank + part
		r.read(spots("m", text)[ahead:])
	}
	return text + strings.Repeat(" $}", len(r.scopes)-1), r
}

func TestManyProofs(t *testing.T) {
	d := dice(4)
	whys, verdicts, open := [13]int{}, [6]int{}, 0
	for round := 0; round < 2000; round++ {
		text, r := someProofs(&d)
		v := verified(t, file("m", text), file("lib", lib))
		rows := v.Rows()
		if len(rows) != len(r.order) {
			t.Fatalf("P15: %q: %d rows, want %d", text, len(rows), len(r.order))
		}
		for i, label := range r.order {
			k := r.all[label]
			whys[k.row.Why]++
			verdicts[k.row.Verdict]++
			if rows[i] != k.row {
				t.Fatalf("P11 to P15: %q: %+v, want %+v", text, rows[i], k.row)
			}
			verdict := fmt.Sprintf("error %d", api.ErrVerdict)
			uses, steps := verdict, verdict
			if k.row.Verdict == api.Axiom || k.names != nil {
				axioms, others := r.uses(k)
				uses = strings.Join(axioms, " ") + " | " + strings.Join(others, " ")
				open += len(others)
			}
			if k.names != nil {
				steps = strings.Join(k.steps, " ")
			}
			if len(k.steps) > api.MaxSteps {
				steps = fmt.Sprintf("error %d", api.ErrLong)
			}
			if got := usesOf(t, v, label); got != uses {
				t.Fatalf("P16: %q: Uses(%s) = %s, want %s", text, label, got, uses)
			}
			if got := stepsOf(t, v, label); got != steps {
				t.Fatalf("P17: %q: Steps(%s) = %s, want %s", text, label, got, steps)
			}
		}
	}
	if open < 200 {
		t.Errorf("the proofs are too plain: %d times something without a proof is reached", open)
	}
	for why := api.FEmpty; why <= api.FGoal; why++ {
		if whys[why] < 30 {
			t.Errorf("the proofs are too plain: why %d comes %d times", why, whys[why])
		}
	}
	for verdict := api.Axiom; verdict <= api.Verified; verdict++ {
		if verdicts[verdict] < 200 {
			t.Errorf("the proofs are too plain: verdict %d comes %d times", verdict, verdicts[verdict])
		}
	}
}
