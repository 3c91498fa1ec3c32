package statements

// names has the one set of names (P6). Blocks nest, so what is active is a stack: its lists shrink when a block ends.
type names struct {
	labels    []string
	constants []string
	variables []string // active or not

	active []string // the active variables
	typed  []string // the variables that have an active $f
	blocks []block  // the open ones, the innermost last
}

// block remembers how much was active when it began.
type block struct {
	active int
	typed  int
}

func (n *names) inBlock() bool {
	return len(n.blocks) > 0
}

func (n *names) beginBlock() {
	n.blocks = append(n.blocks, block{active: len(n.active), typed: len(n.typed)})
}

func (n *names) endBlock() {
	last := len(n.blocks) - 1
	if last < 0 {
		return
	}
	begin := n.blocks[last]
	n.blocks = n.blocks[:last]
	n.active = first(n.active, begin.active)
	n.typed = first(n.typed, begin.typed)
}

func (n *names) addLabel(word string) {
	n.labels = append(n.labels, word)
}

func (n *names) addConstants(words []string) {
	n.constants = append(n.constants, words...)
}

func (n *names) addVariables(words []string) {
	n.active = append(n.active, words...)
	for i := 0; i < len(words); i++ {
		if !has(n.variables, words[i]) {
			n.variables = append(n.variables, words[i])
		}
	}
}

func (n *names) addTyped(word string) {
	n.typed = append(n.typed, word)
}

func (n *names) isConstant(word string) bool {
	return has(n.constants, word)
}

func (n *names) isActive(word string) bool {
	return has(n.active, word)
}

func (n *names) isTyped(word string) bool {
	return has(n.typed, word)
}

// isTaken: a label or a constant may not even have the name of a variable that is active no more.
func (n *names) isTaken(word string) bool {
	return has(n.labels, word) || has(n.constants, word) || has(n.variables, word)
}

// isTakenForVariable: a variable that is active no more may be declared again.
func (n *names) isTakenForVariable(word string) bool {
	return has(n.labels, word) || has(n.constants, word) || has(n.active, word)
}

func has(list []string, word string) bool {
	for i := 0; i < len(list); i++ {
		if list[i] == word {
			return true
		}
	}
	return false
}

func first(list []string, count int) []string {
	if count < 0 || count > len(list) {
		return list
	}
	return list[:count]
}
