package frames

import "metaproof/record"

// Lines writes the frame of the assertion of a number: its hypotheses, its pairs, itself.
func Lines(r *record.Record, number int) []string {
	frame := Of(r, number)
	count := len(frame.Hypotheses)
	lines := make([]string, count+len(frame.Pairs)+1)
	for i := 0; i < count; i++ {
		lines[i] = line(r.Statement(frame.Hypotheses[i]))
	}
	for i := 0; i < len(frame.Pairs); i++ {
		lines[count+i] = "$d " + frame.Pairs[i].One + " " + frame.Pairs[i].Other
	}
	lines[len(lines)-1] = line(r.Statement(number))
	return lines
}

func line(statement record.Statement) string {
	text := statement.Label + " " + keyword(statement.Kind)
	for i := 0; i < len(statement.Symbols); i++ {
		text += " " + statement.Symbols[i]
	}
	return text
}

func keyword(kind int) string {
	switch kind {
	case record.Floating:
		return "$f"
	case record.Essential:
		return "$e"
	case record.Axiom:
		return "$a"
	}
	return "$p"
}
