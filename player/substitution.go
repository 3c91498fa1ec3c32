package player

import (
	"metaproof/api"
	"metaproof/record"
)

// substitution has variables, and what each becomes.
type substitution struct {
	variables []string
	becomes   [][]string
}

// fit lays an expression to a mandatory hypothesis, and tells why it does not fit, or 0. A variable's $f comes ahead of each $e that it stands in.
func (s *substitution) fit(hypothesis record.Statement, expression []string) int {
	if hypothesis.Kind == record.Essential {
		if !equal(s.replace(hypothesis.Symbols), expression) {
			return api.FHyp
		}
		return 0
	}
	if len(expression) == 0 || expression[0] != hypothesis.Typecode() {
		return api.FType
	}
	s.variables = append(s.variables, hypothesis.Variable())
	s.becomes = append(s.becomes, expression[1:])
	return 0
}

// replace goes no further than it takes to see that the expression is too long: no other expression is like it then.
func (s *substitution) replace(symbols []string) []string {
	var replaced []string
	for i := 0; i < len(symbols) && len(replaced) <= api.MaxExpr; i++ {
		index := s.find(symbols[i])
		if index < 0 {
			replaced = append(replaced, symbols[i])
		} else {
			replaced = append(replaced, s.becomes[index]...)
		}
	}
	return replaced
}

func (s *substitution) find(symbol string) int {
	for i := 0; i < len(s.variables) && i < len(s.becomes); i++ {
		if s.variables[i] == symbol {
			return i
		}
	}
	return -1
}

func equal(one []string, other []string) bool {
	if len(one) != len(other) {
		return false
	}
	for i := 0; i < len(one); i++ {
		if one[i] != other[i] {
			return false
		}
	}
	return true
}
