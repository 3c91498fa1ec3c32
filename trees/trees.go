// Package trees tells the syntax tree of some symbols (P18).
package trees

import (
	"metaproof/api"
	"metaproof/grammar"
)

// Write tells the tree of a typecode for some symbols as a normal proof; or that there is none, that there are more, or that it is too long.
func Write(g *grammar.Grammar, symbols []string, code string) ([]string, api.Errno) {
	c := newChart(g, symbols)
	number := g.Find(code)
	whole := span{begin: 0, end: len(symbols)}
	switch c.count(number, whole) {
	case 0:
		return nil, api.ErrNone
	case many:
		return nil, api.ErrTwo
	}
	w := &writer{chart: c}
	w.write(number, whole)
	if w.begun > api.MaxSteps {
		return nil, api.ErrLong
	}
	labels := make([]string, len(w.labels))
	copy(labels, w.labels)
	return labels, api.OK
}

// writer writes the labels of a tree. It counts the trees within when they begin, to end in time: those for no symbols may be more than could be gone through.
type writer struct {
	chart  *chart
	begun  int
	labels []string
}

// write writes the tree of a typecode for a span that has just one.
func (w *writer) write(code int, s span) {
	w.begun++
	if w.begun > api.MaxSteps {
		return
	}
	for n := 0; n < w.chart.grammar.Count(); n++ {
		production := w.chart.grammar.Production(n)
		if production.Code != code {
			continue
		}
		ways := w.chart.ways(production, s.begin)
		if ways.at(len(production.Parts), s.end) > 0 {
			w.fill(production, ways, s)
			return
		}
	}
}

// fill writes the trees in the gaps of a production that makes a span, then its label.
func (w *writer) fill(production grammar.Production, ways *grid, s span) {
	spans := w.chart.split(production, ways, s)
	for i := 0; i < len(spans) && i < len(production.Gaps); i++ {
		w.write(production.Gaps[i], spans[i])
	}
	w.labels = append(w.labels, production.Label)
}

// split tells the spans of the gaps of a production that makes a span in just one way.
func (c *chart) split(production grammar.Production, ways *grid, s span) []span {
	spans := make([]span, len(production.Gaps))
	end := s.end
	for k := len(production.Parts) - 1; k >= 0; k-- {
		begin := c.beginOf(production, ways, k, end)
		gap := production.Parts[k].Gap
		if gap >= 0 && gap < len(spans) {
			spans[gap] = span{begin: begin, end: end}
		}
		end = begin
	}
	return spans
}

// beginOf tells where the part of a production begins that ends at a place.
func (c *chart) beginOf(production grammar.Production, ways *grid, part int, end int) int {
	for begin := 0; begin < end; begin++ {
		if ways.at(part, begin) > 0 && c.fits(production, part, span{begin: begin, end: end}) > 0 {
			return begin
		}
	}
	return end
}
