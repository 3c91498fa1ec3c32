package player

import "metaproof/apart"

// keepsApart tells whether the substitution keeps the mandatory pairs of the assertion of a number apart.
func (p *player) keepsApart(number int, s *substitution) bool {
	pairs := apart.At(p.record, number, s.variables)
	within := p.variablesWithin(s.becomes)
	for i := 0; i < len(within); i++ {
		for j := i + 1; j < len(within); j++ {
			if pairs.Apart(i, j) && !p.areApart(within[i], within[j]) {
				return false
			}
		}
	}
	return true
}

// variablesWithin tells of each list of symbols the positions of its variables, each once: so they are looked up once, not once for every pair.
func (p *player) variablesWithin(lists [][]string) [][]int {
	within := make([][]int, len(lists))
	for i := 0; i < len(lists); i++ {
		within[i] = p.positions(lists[i])
	}
	return within
}

func (p *player) positions(symbols []string) []int {
	var found []int
	for i := 0; i < len(symbols); i++ {
		position := p.apart.Position(symbols[i])
		if position >= 0 && !has(found, position) {
			found = append(found, position)
		}
	}
	return found
}

func (p *player) areApart(ones []int, others []int) bool {
	for i := 0; i < len(ones); i++ {
		for j := 0; j < len(others); j++ {
			if !p.apart.Apart(ones[i], others[j]) {
				return false
			}
		}
	}
	return true
}

func has(list []int, number int) bool {
	for i := 0; i < len(list); i++ {
		if list[i] == number {
			return true
		}
	}
	return false
}
