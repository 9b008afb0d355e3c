package record

import (
	"cmp"
	"slices"

	"acme/api"
)

func compareRuns(a, b api.MillRun) int {
	return cmp.Or(cmp.Compare(a.Machine, b.Machine), cmp.Compare(a.From, b.From))
}

// runsText returns the text of valid runs.
func runsText(l []api.MillRun) string {
	w := writer{}
	for _, run := range slices.SortedFunc(slices.Values(l), compareRuns) {
		w.line("run", run.Machine, api.Span{Low: run.From, High: run.To}, run.Coil, run.Die)
	}
	return w.end("end", len(l))
}

// runs reads runs, whether they are valid or not.
func (r *reader) runs() []api.MillRun {
	var l []api.MillRun
	for r.sees("run ") {
		var run api.MillRun
		var hours api.Span
		r.next("run", &run.Machine, &hours, &run.Coil, &run.Die)
		run.From, run.To = hours.Low, hours.High
		r.must(len(l) == 0 || compareRuns(run, l[len(l)-1]) > 0)
		l = append(l, run)
	}
	r.end("end", len(l))
	return l
}
