// Package words takes a file's data apart (P4), so that whoever reads the words meets neither blanks nor comments.
package words

import "metaproof/api"

// Item is what the data has next, and its place: a word; else a broken rule; else, if End, nothing more.
type Item struct {
	Text string
	Rule int
	End  bool
	At   api.Place
}

// IsWord tells whether the item is a word.
func (i Item) IsWord() bool {
	return i.Rule == 0 && !i.End
}

// Scanner stands ahead of one byte of a file, or at the file's end.
type Scanner struct {
	file api.File
	next int
	line int
	col  int
}

// New makes a scanner that stands at the file's begin.
func New(file api.File) *Scanner {
	return &Scanner{file: file, line: 1, col: 1}
}

// Next goes behind the next word that is in no comment.
func (s *Scanner) Next() Item {
	item := s.run()
	for item.IsWord() && item.Text == "$(" {
		last := s.comment()
		if !last.IsWord() {
			return last
		}
		item = s.run()
	}
	return item
}

// comment goes behind the comment whose `$(` was read: its last item is `$)`, or a fault.
func (s *Scanner) comment() Item {
	item := s.run()
	for item.IsWord() && item.Text != "$)" {
		if holdsBracket(item.Text) {
			return Item{Rule: api.RNest, At: item.At}
		}
		item = s.run()
	}
	if item.End {
		return Item{Rule: api.ROpen, At: item.At}
	}
	return item
}

// run takes all up to the next blank as one: a byte that may not stand there stands in the word's stead.
func (s *Scanner) run() Item {
	for s.next < len(s.file.Data) && isBlank(s.file.Data[s.next]) {
		s.step()
	}
	at := s.place()
	begin := s.next
	for s.next < len(s.file.Data) && !isBlank(s.file.Data[s.next]) {
		if !isPrintable(s.file.Data[s.next]) {
			return Item{Rule: api.RByte, At: s.place()}
		}
		s.step()
	}
	if begin >= s.next || s.next > len(s.file.Data) {
		return Item{End: true, At: at}
	}
	return Item{Text: s.file.Data[begin:s.next], At: at}
}

// step goes behind one byte. A line ends behind its byte 10, not ahead of it.
func (s *Scanner) step() {
	if s.next >= len(s.file.Data) {
		return
	}
	if s.file.Data[s.next] == '\n' {
		s.line++
		s.col = 0
	}
	s.col++
	s.next++
}

func (s *Scanner) place() api.Place {
	return api.Place{File: s.file.Name, Line: s.line, Col: s.col}
}

// HoldsDollar tells whether the text may be neither a symbol nor a file's name.
func HoldsDollar(text string) bool {
	for i := 0; i < len(text); i++ {
		if text[i] == '$' {
			return true
		}
	}
	return false
}

func holdsBracket(text string) bool {
	for i := 1; i < len(text); i++ {
		if text[i-1] == '$' && (text[i] == '(' || text[i] == ')') {
			return true
		}
	}
	return false
}

func isBlank(b byte) bool {
	return b == ' ' || b == '\t' || b == '\n' || b == '\f' || b == '\r'
}

func isPrintable(b byte) bool {
	return b >= '!' && b <= '~'
}
