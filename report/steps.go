package report

import (
	"metaproof/api"
	"metaproof/frames"
	"metaproof/proofs"
	"metaproof/record"
)

// Steps tells the proof of the assertion of a number as a normal one (P17).
func (r *Report) Steps(number int) ([]string, api.Errno) {
	if !r.isProved(number) {
		return nil, api.ErrVerdict
	}
	steps, fault := proofs.Read(&r.record, number)
	if fault.Why != 0 {
		return nil, api.ErrVerdict
	}
	w := &writer{record: &r.record}
	for i := 0; i < len(steps); i++ {
		w.write(steps[i])
		if len(w.labels) > api.MaxSteps {
			return nil, api.ErrLong
		}
	}
	return tighten(w.labels), api.OK
}

// span is some labels that stand side by side.
type span struct {
	begin, end int
}

// writer is a normal proof as far as it was written. What a step rests on stands right ahead of its own label, so that all together is one span.
type writer struct {
	record *record.Record
	labels []string
	spans  []span // of each step
	there  []int  // where the spans begin of the expressions that no assertion has taken away
}

func (w *writer) write(step proofs.Step) {
	begin := len(w.labels)
	if step.Kind == proofs.Again {
		w.repeat(step.Number)
	} else {
		begin = w.takeAway(step.Number)
		w.labels = append(w.labels, w.record.Statement(step.Number).Label)
	}
	w.spans = append(w.spans, span{begin: begin, end: len(w.labels)})
	w.there = append(w.there, begin)
}

// repeat writes the labels of an earlier step once more.
func (w *writer) repeat(number int) {
	if number < 0 || number >= len(w.spans) {
		return
	}
	earlier := w.spans[number]
	for i := earlier.begin; i >= 0 && i < earlier.end && i < len(w.labels); i++ {
		label := w.labels[i]
		w.labels = append(w.labels, label)
	}
}

// takeAway takes away what the statement of a number rests on, and tells where the labels of that begin.
func (w *writer) takeAway(number int) int {
	count := 0
	if w.record.Statement(number).IsAssertion() {
		count = len(frames.Hypotheses(w.record, number))
	}
	first := len(w.there) - count
	if count == 0 || first < 0 {
		return len(w.labels)
	}
	begin := w.there[first]
	w.there = w.there[:first]
	return begin
}
