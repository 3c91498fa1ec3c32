package statements

import "metaproof/api"

// checkSymbol tells the rule that a word without `$` breaks in the open statement, ahead of any `$=`.
func (d *Database) checkSymbol(word string) int {
	switch d.kind {
	case constants:
		if has(d.symbols, word) || d.names.isTaken(word) {
			return api.RTaken
		}
		return 0
	case variables:
		if has(d.symbols, word) || d.names.isTakenForVariable(word) {
			return api.RTaken
		}
		return 0
	case disjoint:
		return d.checkDisjoint(word)
	}
	if len(d.symbols) == 0 {
		return d.checkTypecode(word)
	}
	if d.kind == floating {
		return d.checkFloating(word)
	}
	return d.checkExpression(word)
}

func (d *Database) checkDisjoint(word string) int {
	if !d.names.isActive(word) {
		return api.RNotVar
	}
	if has(d.symbols, word) {
		return api.RTwice
	}
	return 0
}

func (d *Database) checkTypecode(word string) int {
	if !d.names.isConstant(word) {
		return api.RNotConst
	}
	return 0
}

func (d *Database) checkFloating(word string) int {
	if len(d.symbols) > 1 {
		return api.RSurplus
	}
	if !d.names.isActive(word) {
		return api.RNotVar
	}
	if d.names.isTyped(word) {
		return api.RTyped
	}
	return 0
}

func (d *Database) checkExpression(word string) int {
	if d.names.isConstant(word) {
		return 0
	}
	if !d.names.isActive(word) {
		return api.RNotSym
	}
	if !d.names.isTyped(word) {
		return api.RNoFloat
	}
	return 0
}

func isLabel(word string) bool {
	for i := 0; i < len(word); i++ {
		if !isLabelByte(word[i]) {
			return false
		}
	}
	return true
}

func isLabelByte(b byte) bool {
	if b >= 'a' && b <= 'z' || b >= 'A' && b <= 'Z' || b >= '0' && b <= '9' {
		return true
	}
	return b == '-' || b == '_' || b == '.'
}
