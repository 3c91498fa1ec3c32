package proofs

import (
	"metaproof/api"
	"metaproof/frames"
	"metaproof/record"
)

// compressed is a compressed proof as far as it was read.
type compressed struct {
	names  []int // the statements that a numeral may name: the mandatory hypotheses, then the labels of the block
	tagged []int // the steps that one may name behind these
	steps  []Step
	digits int  // what the digits of the open numeral are worth; 0, if none is open
	behind bool // a numeral stands right ahead
}

func readCompressed(r *record.Record, number int) ([]Step, Fault) {
	theorem := r.Statement(number)
	c := &compressed{names: frames.Hypotheses(r, number)}
	next, fault := c.takeBlock(r, number)
	for i := next; i >= 0 && i < len(theorem.Proof) && fault.Why == 0; i++ {
		fault = c.takeWord(theorem.Proof[i])
	}
	if fault.Why == 0 && c.digits > 0 {
		fault = Fault{Why: api.FLetter, At: theorem.End}
	}
	if fault.Why == 0 && len(c.steps) == 0 {
		fault = Fault{Why: api.FEmpty, At: theorem.End}
	}
	if fault.Why != 0 {
		return nil, fault
	}
	return c.steps, Fault{}
}

// takeBlock takes the block of labels, and tells which of the proof's words is the first behind it.
func (c *compressed) takeBlock(r *record.Record, number int) (int, Fault) {
	theorem := r.Statement(number)
	for i := 1; i < len(theorem.Proof); i++ {
		word := theorem.Proof[i]
		if word.Text == ")" {
			return i + 1, Fault{}
		}
		named := r.FindHolding(word.Text, number)
		if named < 0 {
			return 0, Fault{Why: api.FLabel, At: word.At}
		}
		if has(c.names, named) {
			return 0, Fault{Why: api.FBlock, At: word.At}
		}
		c.names = append(c.names, named)
	}
	return 0, Fault{Why: api.FBlock, At: theorem.End}
}

func (c *compressed) takeWord(word record.Word) Fault {
	at := word.At
	for i := 0; i < len(word.Text); i++ {
		why := c.takeLetter(word.Text[i], at)
		if why != 0 {
			return Fault{Why: why, At: at}
		}
		at.Col++
	}
	return Fault{}
}

func (c *compressed) takeLetter(letter byte, at api.Place) int {
	if letter >= 'A' && letter <= 'T' {
		return c.endNumeral(int(letter-'A')+1, at)
	}
	if letter >= 'U' && letter <= 'Y' {
		c.takeDigit(int(letter-'U') + 1)
		return 0
	}
	if letter == 'Z' && c.behind {
		c.tagged = append(c.tagged, len(c.steps)-1)
		c.behind = false
		return 0
	}
	if letter == '?' && c.digits == 0 {
		c.addStep(Step{Kind: Unknown, At: at})
		return 0
	}
	return api.FLetter
}

// takeDigit lets the worth grow no more once it is past all that can be named, so that no numeral is too great to be counted.
func (c *compressed) takeDigit(digit int) {
	c.behind = false
	if c.digits <= len(c.names)+len(c.tagged) {
		c.digits = c.digits*5 + digit
	}
}

func (c *compressed) endNumeral(unit int, at api.Place) int {
	index := c.digits*20 + unit - 1
	c.digits = 0
	if index < len(c.names) {
		c.addStep(Step{Kind: Names, Number: c.names[index], At: at})
		c.behind = true
		return 0
	}
	index -= len(c.names)
	if index < len(c.tagged) {
		c.addStep(Step{Kind: Again, Number: c.tagged[index], At: at})
		c.behind = true
		return 0
	}
	return api.FRange
}

func (c *compressed) addStep(step Step) {
	c.steps = append(c.steps, step)
	c.behind = false
}

func has(list []int, number int) bool {
	for i := 0; i < len(list); i++ {
		if list[i] == number {
			return true
		}
	}
	return false
}
