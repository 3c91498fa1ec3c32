package trees

import "metaproof/grammar"

// span is some symbols that stand side by side.
type span struct {
	begin, end int
}

// chart counts the trees for all spans of some symbols.
type chart struct {
	grammar *grammar.Grammar
	symbols []string
	side    int   // how many places there are at which a span may begin or end
	counts  *grid // by typecode and begin, and by end
}

func newChart(g *grammar.Grammar, symbols []string) *chart {
	side := len(symbols) + 1
	c := &chart{grammar: g, symbols: symbols, side: side, counts: newGrid(g.Codes()*side, side)}
	for begin := len(symbols); begin >= 0; begin-- {
		c.fill(begin)
	}
	return c
}

// count tells how many trees of a typecode there are for a span.
func (c *chart) count(code int, s span) int {
	if s.begin < 0 || s.begin >= c.side {
		return 0
	}
	return c.counts.at(code*c.side+s.begin, s.end)
}

// fill counts the trees that begin at a place; those that begin behind it must be counted by then. Within a tree are others that begin where it does: so all are reckoned anew as long as a count rises, which it does at most up to many.
func (c *chart) fill(begin int) {
	risen := true
	for risen {
		risen = false
		fresh := c.reckon(begin)
		for code := 0; code < c.grammar.Codes(); code++ {
			for end := begin; end < c.side; end++ {
				more := fresh.at(code, end) - c.count(code, span{begin: begin, end: end})
				if c.counts.raise(code*c.side+begin, end, more) {
					risen = true
				}
			}
		}
	}
}

// reckon tells, by typecode and end, how many trees begin at a place that have within them only such as are counted already.
func (c *chart) reckon(begin int) *grid {
	fresh := newGrid(c.grammar.Codes(), c.side)
	for n := 0; n < c.grammar.Count(); n++ {
		production := c.grammar.Production(n)
		ways := c.ways(production, begin)
		for end := begin; end < c.side; end++ {
			fresh.raise(production.Code, end, ways.at(len(production.Parts), end))
		}
	}
	return fresh
}

// ways tells, by a number of parts and end, in how many ways the first parts of a production make the symbols from a place on.
func (c *chart) ways(production grammar.Production, begin int) *grid {
	parts := len(production.Parts)
	ways := newGrid(parts+1, c.side)
	ways.raise(0, begin, 1)
	for k := 0; k < parts; k++ {
		for from := begin; from < c.side; from++ {
			ahead := ways.at(k, from)
			for end := from; ahead > 0 && end < c.side; end++ {
				more := ahead * c.fits(production, k, span{begin: from, end: end})
				ways.raise(k+1, end, more)
			}
		}
	}
	return ways
}

// fits tells in how many ways one part of a production makes a span.
func (c *chart) fits(production grammar.Production, part int, s span) int {
	if part < 0 || part >= len(production.Parts) {
		return 0
	}
	gap := production.Parts[part].Gap
	if gap >= 0 && gap < len(production.Gaps) {
		return c.count(production.Gaps[gap], s)
	}
	if s.begin < 0 || s.begin >= len(c.symbols) || s.end != s.begin+1 {
		return 0
	}
	if c.symbols[s.begin] != production.Parts[part].Symbol {
		return 0
	}
	return 1
}
