package trees

// many stands for every count above 1: whether there is more than one is all that is asked for, and endlessly many could not be counted.
const many = 2

// grid counts by line and column: 0, 1 or many; 0 outside of it.
type grid struct {
	lines, columns int
	counts         []int
}

func newGrid(lines int, columns int) *grid {
	return &grid{lines: lines, columns: columns, counts: make([]int, lines*columns)}
}

// index tells where a count stands, or -1.
func (g *grid) index(line int, column int) int {
	if line < 0 || line >= g.lines || column < 0 || column >= g.columns {
		return -1
	}
	return line*g.columns + column
}

func (g *grid) at(line int, column int) int {
	i := g.index(line, column)
	if i < 0 || i >= len(g.counts) {
		return 0
	}
	return g.counts[i]
}

// raise makes a count greater by some more, up to many, and tells whether it is.
func (g *grid) raise(line int, column int, more int) bool {
	i := g.index(line, column)
	if i < 0 || i >= len(g.counts) || more <= 0 || g.counts[i] == many {
		return false
	}
	g.counts[i] += more
	if g.counts[i] > many {
		g.counts[i] = many
	}
	return true
}
