package record_test

import (
	"slices"
	"strings"
	"testing"

	"acme/api"
	"acme/mill"
	"acme/record"
)

// TestRunsExample is for P13.3: the chapter's example 2.
func TestRunsExample(t *testing.T) {
	if text, e := record.Runs(works()); text != worksText || e != api.OK {
		t.Error(text, e)
	}
	for i, want := range []int{829, 830} {
		if got := sum(worksLines()[i] + "\n"); got != want {
			t.Error(i, got, want)
		}
	}
}

// TestRuns is for P13.3: runs stand in ascending order of machine and hour, whatever their order was.
func TestRuns(t *testing.T) {
	for i, c := range []struct {
		l    []api.MillRun
		want []string
	}{
		{nil, nil}, {[]api.MillRun{}, nil}, {[]api.MillRun{run(0, 0, 0, 0, 0)}, []string{"run 0 0..0 0 0"}}, {[]api.MillRun{run(1000, 100000, 100000, 1000, 999)}, []string{"run 1000 100000..100000 1000 999"}}, {[]api.MillRun{run(0, 0, 100000, 3, 4)}, []string{"run 0 0..100000 3 4"}},
		// By numbers, not by digits; neither coils nor dies matter.
		{[]api.MillRun{run(10, 0, 0, 1, 1), run(9, 1, 1, 2, 2)}, []string{"run 9 1..1 2 2", "run 10 0..0 1 1"}}, {[]api.MillRun{run(1, 10, 10, 1, 1), run(1, 9, 9, 2, 2)}, []string{"run 1 9..9 2 2", "run 1 10..10 1 1"}}, {[]api.MillRun{run(1, 0, 4, 9, 9), run(1, 5, 9, 0, 0)}, []string{"run 1 0..4 9 9", "run 1 5..9 0 0"}},
		{[]api.MillRun{run(3, 0, 1, 1, 1), run(1, 8, 9, 1, 1), run(2, 7, 7, 1, 1), run(1, 0, 7, 1, 1)}, []string{"run 1 0..7 1 1", "run 1 8..9 1 1", "run 2 7..7 1 1", "run 3 0..1 1 1"}},
	} {
		if text, e := record.Runs(c.l); text != counted(c.want...) || e != api.OK {
			t.Error(i, text, e)
		}
	}
	if text, e := record.Runs(nil); text != "end 0 0\n" || e != api.OK {
		t.Error(text, e)
	}
}

// manyRuns returns as many runs as there may be, the sum of whose lines is beyond 65521, and these lines.
func manyRuns() (l []api.MillRun, all []string) {
	for number := range 60 {
		l = append(l, run(1000, 99940+number, 99940+number, 999, 999))
		hour := []byte("999")
		hour[1], hour[2] = '4'+byte(number/10), '0'+byte(number%10)
		all = append(all, "run 1000 99"+string(hour)+"..99"+string(hour)+" 999 999")
	}
	return l, all
}

// TestRunsLargeSum is for P13.3 and P13.4: the sum is taken modulo 65521.
func TestRunsLargeSum(t *testing.T) {
	l, want := manyRuns()
	whole := 0
	for _, b := range []byte(lined(want...)) {
		whole += int(b)
	}
	if whole <= 65521 {
		t.Error("the sum is too small for this test", whole)
	}
	text, e := record.Runs(l)
	if text != counted(want...) || e != api.OK {
		t.Error(text, e)
	}
	if got, line, e := record.ReadRuns(text); !slices.Equal(got, l) || line != 0 || e != api.OK {
		t.Error(got, line, e)
	}
}

// TestRunsAnyOrder is for P13.3: the order of runs does not matter.
func TestRunsAnyOrder(t *testing.T) {
	r := dice()
	for range 300 {
		l := anyRuns(r)
		want := runsOf(t, l)
		shuffled := slices.Clone(l)
		r.Shuffle(len(l), func(i, k int) { shuffled[i], shuffled[k] = shuffled[k], shuffled[i] })
		if text, e := record.Runs(shuffled); text != want || e != api.OK {
			t.Error(l, text, e)
		}
	}
}

// badWorks returns runs with an error, by what it is.
func badWorks() map[api.Errno][][]api.MillRun {
	wrong := [][]api.MillRun{{run(1, 1, 0, 1, 1)}, append(works(), run(1, 5, 4, 1, 1)), {run(-1, 0, 0, 1, 1), run(3, 0, 0, 1, 1), run(3, 0, 0, 1, 1)}}
	for _, n := range outside(0, 1000) {
		wrong = append(wrong, []api.MillRun{run(n, 0, 9, 1, 1)}, append(works(), run(7, 0, 9, n, 1)), append(works(), run(7, 0, 9, 1, n)))
	}
	for _, n := range outside(0, 100000) {
		wrong = append(wrong, []api.MillRun{run(1, n, n, 1, 1)}, append(works(), run(7, n, 5, 1, 1)), append(works(), run(7, 5, n, 1, 1)))
	}
	return map[api.Errno][][]api.MillRun{
		api.ErrLong:  {shifts(61), make([]api.MillRun, 61), make([]api.MillRun, 5000)},
		api.ErrArg:   wrong,
		api.ErrTwice: {append(works(), works()[0]), append(works(), run(1, 4, 5, 1, 1)), append(works(), run(2, 9, 12, 1, 1)), append(works(), run(1, 0, 9, 1, 1), run(-1, 0, 0, 0, 0)), {run(3, 5, 9, 1, 1), run(3, 0, 5, 1, 1)}, make([]api.MillRun, 60)},
	}
}

// TestRunsErrors is for P13.3: the errors are those of mill.Check, for the order that was given.
func TestRunsErrors(t *testing.T) {
	for want, all := range badWorks() {
		for _, l := range all {
			if e := mill.Check(l); e != want {
				t.Error("mill.Check", l, e, want)
			}
			if text, e := record.Runs(l); text != "" || e != want {
				t.Error(l, text, e, want)
			}
		}
	}
}

// TestReadRunsExample is for P13.4: the chapter's example 2.
func TestReadRunsExample(t *testing.T) {
	if l, line, e := record.ReadRuns(worksText); !slices.Equal(l, []api.MillRun{run(1, 4, 4, 6, 3), run(2, 0, 9, 5, 3)}) || line != 0 || e != api.OK {
		t.Error(l, line, e)
	}
}

// TestReadRuns is for P13.4: each value comes from its place, and each limit can be reached.
func TestReadRuns(t *testing.T) {
	for i, c := range []struct {
		lines []string
		want  []api.MillRun
	}{
		{nil, nil}, {[]string{"run 0 0..0 0 0"}, []api.MillRun{run(0, 0, 0, 0, 0)}}, {[]string{"run 1 2..3 4 5"}, []api.MillRun{run(1, 2, 3, 4, 5)}}, {[]string{"run 1000 100000..100000 1000 1000"}, []api.MillRun{run(1000, 100000, 100000, 1000, 1000)}}, {[]string{"run 9 0..100000 0 1000"}, []api.MillRun{run(9, 0, 100000, 0, 1000)}},
		{[]string{"run 9 7..8 3 4", "run 9 9..9 2 1", "run 9 10..10 2 1", "run 10 0..3 1 1"}, []api.MillRun{run(9, 7, 8, 3, 4), run(9, 9, 9, 2, 1), run(9, 10, 10, 2, 1), run(10, 0, 3, 1, 1)}},
	} {
		if l, line, e := record.ReadRuns(counted(c.lines...)); !slices.Equal(l, c.want) || line != 0 || e != api.OK {
			t.Error(i, l, line, e)
		}
	}
}

// TestReadRunsForm is for P13.4: a line that is not as it should be is found, whatever the sum is and whatever comes after it.
func TestReadRunsForm(t *testing.T) {
	for _, wrong := range []string{
		"", " ", "run", "run ", "run 3", "run 3 0..1", "run 3 0..1 5", "run 3 0..1 5 3 1", "run 3 0..1 5 3 ", "run  3 0..1 5 3", " run 3 0..1 5 3", "run 3 0 5 3", "run 3 0 1 5 3", "run 3 0.1 5 3", "run 3 0...1 5 3", "run 3 0.. 5 3", "run 3 ..1 5 3", "run 3 0..1 5  3", "run 3 0..1 5\t3", "Run 3 0..1 5 3", "runs 3 0..1 5 3", "run3 0..1 5 3", "run 3..3 0..1 5 3", "run 3 0..1 x 3", "run 3 0..1 5 3\r", "run 3 0..1 5 \xff",
		"run +3 0..1 5 3", "run 03 0..1 5 3", "run 3 00..1 5 3", "run 3 0..01 5 3", "run 3 -0..1 5 3", "run 3 0..1 05 3", "run 3 0..1 5 03", "run 3 0..1 -0 3", "run 3 0..1 5 -0", "run 9223372036854775808 0..1 5 3", "run 3 0..9223372036854775808 5 3", "run 3 0..1 5 -9223372036854775809",
		"end", "end ", "end 2", "end 2 ", "end  2", "end 2  1", "end 2 x", "end 2 1 1", "end 2 1 ", "end 2 01", "end 2 +1", "end 02 1", "end +2 1", "end 2 -0", "end 2 9223372036854775808", "ends 2 1", "note a", "drawing m",
		// The number of lines is another one.
		"end 1 1659", "end 3 1659", "end 0 1659", "end -2 1659", "end 2..2 1659", "end 1659", "end 1659 2", "end 9223372036854775807 1659", "end 9223372036854775808 1659", "end 1 1", "end 22 1659",
	} {
		for i, text := range []string{lined(append(worksLines(), wrong)...), counted(append(worksLines(), wrong)...), lined(append(worksLines(), wrong, "x")...), lined(append(worksLines(), wrong)...) + "end 2 1659\n", lined(append(worksLines(), wrong)...) + "x"} {
			if l, line, e := record.ReadRuns(text); l != nil || line != 3 || e != api.ErrForm {
				t.Error(i, text, l, line, e)
			}
		}
	}
}

// TestReadRunsOrder is for P13.4: each run is greater than the one before by machine, then by its first hour, before anything else is said of it.
func TestReadRunsOrder(t *testing.T) {
	for _, second := range []string{"run 5 20..29 1 1", "run 5 20..20 1 1", "run 5 20..30 2 2", "run 5 20..29 0 2", "run 5 19..19 2 2", "run 5 19..40 2 2", "run 5 -20..40 2 2", "run 4 20..29 2 2", "run 4 30..39 2 2", "run 4 99999..99999 2 2", "run -5 30..39 2 2", "run 5 20..19 1 1", "run 4 9223372036854775807..9 1 1", "run 5 -9223372036854775808..9 1 1", "run -9223372036854775808 21..22 1 1"} {
		for _, first := range [][]string{{"run 5 20..29 1 1"}, {"run 3 0..50000 1 1", "run 5 20..29 1 1"}} {
			text := counted(append(first, second, "run 6 0..1 1 1")...)
			if l, line, e := record.ReadRuns(text); l != nil || line != len(first)+1 || e != api.ErrForm {
				t.Error(text, l, line, e)
			}
		}
	}
	for _, second := range []string{"run 5 21..22 1 1", "run 6 0..19 1 1", "run 6 20..29 1 1", "run 5 21..9 1 1", "run 10 0..0 1 1", "run 5 100..100 1 1", "run 9223372036854775807 -5..6 1 1", "run 5 9223372036854775807..6 1 1"} {
		if _, line, e := record.ReadRuns(counted("run 5 20..29 1 1", second)); line != 0 || e == api.ErrForm {
			t.Error(second, line, e)
		}
	}
	// Machines and hours below 0 are no form, but an argument.
	if l, line, e := record.ReadRuns(counted("run -2 5..6 1 1", "run -1 -7..-6 1 1", "run -1 -5..-6 1 1")); l != nil || line != 0 || e != api.ErrArg {
		t.Error(l, line, e)
	}
}

// TestReadRunsCut is for P13.4: a text that ends before a line feed is cut in this line.
func TestReadRunsCut(t *testing.T) {
	for length := range len(worksText) {
		want := 1 + strings.Count(worksText[:length], "\n")
		if l, line, e := record.ReadRuns(worksText[:length]); l != nil || line != want || e != api.ErrRecordCut {
			t.Error(length, l, line, e)
		}
	}
	for _, rest := range []string{"x", "run 1 4..4 6 3", "run 0 4..4 6 3", "end", "end 7 1", "end 2 1", "\xff"} {
		if l, line, e := record.ReadRuns(lined(worksLines()...) + rest); l != nil || line != 3 || e != api.ErrRecordCut {
			t.Error(rest, l, line, e)
		}
	}
}

// TestReadRunsSum is for P13.4: another sum than the right one is wrong; the number of lines comes before it, what follows and the runs themselves after it.
func TestReadRunsSum(t *testing.T) {
	for _, end := range []string{"0", "1658", "1660", "-1659", "67180", "16590", "165", "9223372036854775807"} {
		for _, rest := range []string{"", "x", "\n", "end 2 1659\n"} {
			if l, line, e := record.ReadRuns(lined(worksLines()...) + "end 2 " + end + "\n" + rest); l != nil || line != 3 || e != api.ErrRecordSum {
				t.Error(end, rest, l, line, e)
			}
		}
	}
	for _, wrong := range []string{"run 2 9..0 5 3", "run 1 4..5 6 3\nrun 1 5..5 1 1"} {
		if l, line, e := record.ReadRuns(wrong + "\nend " + string('1'+byte(strings.Count(wrong, "\n"))) + " 5\n"); l != nil || line != 2+strings.Count(wrong, "\n") || e != api.ErrRecordSum {
			t.Error(l, line, e)
		}
	}
	if l, line, e := record.ReadRuns("end 0 1\n"); l != nil || line != 1 || e != api.ErrRecordSum {
		t.Error(l, line, e)
	}
}

// TestReadRunsAfterEnd is for P13.4: nothing may follow the end.
func TestReadRunsAfterEnd(t *testing.T) {
	bad := counted("run 2 9..0 5 3", "run 2 12..0 5 3")
	for _, rest := range []string{"\n", " ", "x", "x\n", "\x00", "run 3 0..9 5 3\n", "end 2 1659\n", "end 2 1659", worksText} {
		for _, text := range []string{worksText, bad} {
			if l, line, e := record.ReadRuns(text + rest); l != nil || line != 4 || e != api.ErrForm {
				t.Error(text, rest, l, line, e)
			}
		}
	}
	if l, line, e := record.ReadRuns("end 0 0\n\n"); l != nil || line != 2 || e != api.ErrForm {
		t.Error(l, line, e)
	}
}

// TestReadRunsLong is for P13.4: a text that is too long is not looked at, one that is just as long as it may be is.
func TestReadRunsLong(t *testing.T) {
	for _, text := range []string{worksText, "", "x\n"} {
		long := text + strings.Repeat("x", 8000-len(text))
		if l, line, e := record.ReadRuns(long); l != nil || line == 0 || e == api.OK || e == api.ErrLong {
			t.Error(text, l, line, e)
		}
		for _, more := range []string{"x", "\n", strings.Repeat("y", 50000)} {
			if l, line, e := record.ReadRuns(long + more); l != nil || line != 0 || e != api.ErrLong {
				t.Error(text, l, line, e)
			}
		}
	}
}

// TestReadRunsCheck is for P13.4: the errors of mill.Check come last.
func TestReadRunsCheck(t *testing.T) {
	_, all := manyRuns()
	for want, texts := range map[api.Errno][]string{
		api.ErrLong:  {counted(append(all, "run 1000 100000..100000 1 1")...), counted(append(all, "run 1000 100000..99999 1 1")...), counted(append(all, "run 1001 0..0 1 1")...)},
		api.ErrArg:   {counted("run 1 5..4 1 1"), counted("run -1 5..5 1 1"), counted("run 1001 5..5 1 1"), counted("run 1 -1..5 1 1"), counted("run 1 5..100001 1 1"), counted("run 1 5..5 -1 1"), counted("run 1 5..5 1001 1"), counted("run 1 5..5 1 -1"), counted("run 1 5..5 1 1001"), counted("run 1 5..4 1 1", "run 2 0..9 1 1", "run 2 9..9 1 1"), counted(append(all[:59:59], "run 1001 0..0 1 1")...), counted("run -9223372036854775808 9223372036854775807..-9223372036854775808 9223372036854775807 9223372036854775807")},
		api.ErrTwice: {counted("run 1 5..9 1 1", "run 1 9..9 1 1"), counted("run 1 5..9 1 1", "run 1 6..6 1 1"), counted("run 1 5..9 1 1", "run 1 8..12 1 1", "run 2 5..4 1 1")},
	} {
		for _, text := range texts {
			if l, line, e := record.ReadRuns(text); l != nil || line != 0 || e != want {
				t.Error(text, l, line, e, want)
			}
		}
	}
	if l, line, e := record.ReadRuns(counted(all...)); len(l) != 60 || line != 0 || e != api.OK {
		t.Error(l, line, e)
	}
}

// TestReadRunsByWords is for P13.4: texts that are nearly right, against what the chapter says line by line.
func TestReadRunsByWords(t *testing.T) {
	r := dice()
	seen := map[api.Errno]int{}
	for range 20000 {
		text := runsOf(t, anyRuns(r))
		text = mixed(r, text, "end "+anyOf(r, lastNumber(text), lastNumber(text), "3"))
		want, wantE := runsError(text)
		l, line, e := record.ReadRuns(text)
		if line != want || e != wantE || e == api.OK && !slices.Equal(l, runsIn(text)) || e != api.OK && l != nil {
			t.Fatal(text, l, line, e, want, wantE)
		}
		if e == api.OK && runsOf(t, l) != text {
			t.Fatal(text, l)
		}
		seen[e]++
	}
	for _, e := range []api.Errno{api.OK, api.ErrArg, api.ErrForm, api.ErrTwice, api.ErrRecordCut, api.ErrRecordSum} {
		if seen[e] < 20 {
			t.Error("seldom", e, seen[e])
		}
	}
}

// lastNumber returns how many runs a text says it has.
func lastNumber(text string) string {
	words := strings.Fields(text)
	return words[len(words)-2]
}
