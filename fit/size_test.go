package fit_test

import (
	"slices"
	"testing"

	"acme/api"
	"acme/fit"
)

// TestScrew is for P3.4: the chapter's and the document's examples, and others that are worked out by hand.
func TestScrew(t *testing.T) {
	for i, c := range []struct {
		f     api.ThreadForm
		t     api.FitThread
		depth api.Span
		want  int
	}{
		{metric(), lean(-2500, 2500, 7500, 12500), usual(), 0}, {metric(), lean(-2500, 2500, 7510, 12510), usual(), 9}, {metric(), turned(587, 577, -2500, 2500, 7500, 12500), usual(), 26},
		// Turns with the errors 0, 10 and -4 (the document's example 7).
		{metric(), lean(-2500, 2500, 7510, 12510, 17496, 22496), usual(), 13},
		// Errors of pitch count whichever way they go, and wherever they are.
		{metric(), lean(-2500, 2500, 7490, 12490), usual(), 9}, {metric(), lean(-2510, 2490, 7500, 12500), usual(), 9}, {metric(), lean(-2500, 2500, 7510, 12510, 17500, 22500), usual(), 9}, {metric(), lean(-2500, 2500, 7510, 12510, 17510, 22510), usual(), 9}, {metric(), lean(-2500, 2500, 7510, 12510, 17520, 22520), usual(), 18},
		// A thick tooth, and thin ones: 4990 wide, 5 units off.
		{metric(), lean(-2500, 2510, 7500, 12500), usual(), 9}, {metric(), lean(-2495, 2495, 7505, 12495), usual(), -8}, {metric(), lean(-2495, 2495, 7510, 12500), usual(), -4}, {metric(), lean(-2500, 2490, 7510, 12500), usual(), 0}, {metric(), lean(7, 7), usual(), -4332},
		// Just as great as a size, and a thousandth more.
		{leaning(10000, 1000, 1000), turned(1000, 1000, -2500, 2500, 7502, 12502), usual(), 1}, {leaning(10000, 1000, 999), turned(1000, 999, -2500, 2500, 7502, 12502), usual(), 2}, {leaning(10000, 1000, 1000), turned(1000, 1000, -2500, 2498), usual(), -1}, {leaning(10000, 1000, 1001), turned(1000, 1001, -2500, 2498), usual(), 0},
		// A lean that is less, at the crest; a depth on one side only.
		{metric(), turned(577, 567, -2500, 2500), usual(), 26}, {metric(), turned(587, 597, -2500, 2500), usual(), 78}, {metric(), turned(587, 577, -2500, 2500), span(0, 3000), 0}, {metric(), turned(587, 577, -2500, 2500), span(1000, 3000), -8}, {metric(), turned(587, 577, -2500, 2500), span(-3000, -1000), 26},
		// A quarter of the pitch need not be an integer.
		{leaning(101, 0, 500), turned(0, 500, -25, 25), usual(), -1}, {leaning(101, 0, 500), turned(0, 500, -25, 26), usual(), 1}, {leaning(102, 0, 500), turned(0, 500, -25, 26), usual(), 0},
		// As far as limits go.
		{leaning(200000, 1, 0), turned(3000, 3000, -10000000, 10000000), span(-200000, 200000), 20000000*1000 - 100000*1000 + 200000*2999 + 200000*3000},
		{leaning(200000, 1, 0), turned(3000, 3000, -10000000, -10000000), span(200000, 200000), -100000*1000 - 200000*2999 - 200000*3000},
		{leaning(200000, 0, 1), turned(0, 0, -10000000, -10000000, 10000000, 10000000), span(0, 0), 20000000*1000 - 200000*1000 - 100000*1000},
	} {
		if got, e := fit.Screw(c.f, c.t, c.depth); got != c.want || e != api.OK {
			t.Error(i, got, e, c.want)
		}
	}
}

// TestNut is for P3.4: the chapter's and the document's examples, and others that are worked out by hand.
func TestNut(t *testing.T) {
	for i, c := range []struct {
		f     api.ThreadForm
		t     api.FitThread
		depth api.Span
		want  int
	}{
		{metric(), ofExamples(), usual(), 17}, {metric(), lean(-2500, 2500, 7500, 12500), usual(), 0}, {metric(), lean(-2500, 2500, 7510, 12510), usual(), -9}, {metric(), lean(-2500, 2500, 7490, 12490), usual(), -9},
		{metric(), lean(-2500, 2500, 7510, 12510, 17496, 22496), usual(), -13}, {metric(), lean(-2510, 2510, 7500, 12500), usual(), 0}, {metric(), lean(-2510, 2500, 7490, 12500), usual(), 8}, {metric(), lean(-2500, 2510, 7490, 12500), usual(), 0}, {metric(), lean(7, 7), usual(), -4333},
		{leaning(10000, 1000, 1000), turned(1000, 1000, -2500, 2502), usual(), 1}, {leaning(10000, 1000, 1001), turned(1000, 1001, -2500, 2502), usual(), 0}, {leaning(10000, 1000, 1000), turned(1000, 1000, -2500, 2498), usual(), -1}, {leaning(10000, 1000, 999), turned(1000, 999, -2500, 2498), usual(), -2},
		// A lean that is more narrows the groove at the crest, one that is less at the root.
		{metric(), turned(587, 577, -2500, 2500), usual(), -26}, {metric(), turned(567, 577, -2500, 2500), usual(), -26}, {metric(), turned(577, 597, -2500, 2500), usual(), -52}, {metric(), turned(587, 577, -2500, 2500), span(-3000, 0), 0}, {metric(), turned(587, 577, -2500, 2500), span(-3000, -1000), 8}, {metric(), turned(587, 577, -2500, 2500), span(1000, 3000), -26},
		{leaning(101, 0, 500), turned(0, 500, -25, 25), usual(), -1}, {leaning(101, 0, 500), turned(0, 500, -25, 26), usual(), 1}, {leaning(102, 0, 500), turned(0, 500, -25, 26), usual(), 0}, {leaning(99+2, 0, 1001), turned(0, 1001, -25, 26), usual(), 0},
		{leaning(200000, 1, 0), turned(3000, 3000, -10000000, 10000000), span(-200000, -200000), 20000000*1000 - 100000*1000 + 200000*2999 + 200000*3000},
		{leaning(200000, 0, 1), turned(3000, 3000, -10000000, -10000000, 10000000, 10000000), span(0, 200000), 200000*1000 - 20000000*1000 - 100000*1000 - 200000*2999 - 200000*3000},
	} {
		if got, e := fit.Nut(c.f, c.t, c.depth); got != c.want || e != api.OK {
			t.Error(i, got, e, c.want)
		}
	}
}

// TestSizeSearch is for P3.4: into which perfect nuts a screw goes, and which perfect screws go into a nut, height by height.
func TestSizeSearch(t *testing.T) {
	r := dice()
	threads := append(goodThreads(), argLess()...)
	for _, f := range forms() {
		for range 60 {
			threads = append(threads, anyThread(r, f, 1+r.IntN(6), 30))
		}
	}
	for _, thread := range threads {
		for _, f := range forms() {
			for _, depth := range depths() {
				turns := len(thread.Turns)
				if got, e := fit.Screw(f, thread, depth); e != api.OK || !isScrewSize(f, asIs(thread), got, turns, depth) {
					t.Error("Screw", f, thread, depth, got, e)
				}
				if got, e := fit.Nut(f, thread, depth); e != api.OK || !isNutSize(f, asIs(thread), got, turns, depth) {
					t.Error("Nut", f, thread, depth, got, e)
				}
			}
		}
	}
}

// argLess returns valid threads whose leans are far from those of all forms.
func argLess() []api.FitThread {
	return []api.FitThread{turned(0, 0, -2500, 2500), turned(3000, 0, -2500, 2500, 7500, 12500), turned(0, 3000, -26, 25, 75, 126)}
}

// TestSizeNone is for P3.4: a form without leans has no sizes; one lean is enough.
func TestSizeNone(t *testing.T) {
	for i, thread := range goodThreads() {
		if got, e := fit.Screw(straight(), thread, usual()); got != 0 || e != api.ErrNone {
			t.Error(i, got, e)
		}
		if got, e := fit.Nut(straight(), thread, usual()); got != 0 || e != api.ErrNone {
			t.Error(i, got, e)
		}
		for _, f := range []api.ThreadForm{leaning(10000, 0, 1), leaning(10000, 1, 0)} {
			if _, e := fit.Screw(f, thread, usual()); e != api.OK {
				t.Error(i, f, e)
			}
			if _, e := fit.Nut(f, thread, usual()); e != api.OK {
				t.Error(i, f, e)
			}
		}
	}
}

// TestFormCounts is for the chapter's section Types: of a form only the pitch and both leans count.
func TestFormCounts(t *testing.T) {
	other := metric(func(f *api.ThreadForm) {
		f.Above, f.Below, f.Starts, f.LeftHand, f.Taper = 0, 1, 8, true, 100
	})
	for i, thread := range goodThreads() {
		once, _ := fit.Screw(metric(), thread, usual())
		twice, _ := fit.Screw(other, thread, usual())
		if once != twice {
			t.Error(i, once, twice)
		}
		once, _ = fit.Nut(metric(), thread, usual())
		twice, _ = fit.Nut(other, thread, usual())
		if once != twice {
			t.Error(i, once, twice)
		}
	}
	screw, nut, goes, _ := fit.Show(metric(), 10, 5, 7, usual())
	screw2, nut2, goes2, _ := fit.Show(other, 10, 5, 7, usual())
	if !slices.Equal(screw.Turns, screw2.Turns) || !slices.Equal(nut.Turns, nut2.Turns) || goes != goes2 {
		t.Error(screw, screw2, nut, nut2, goes, goes2)
	}
	once, _ := fit.Cost(metric(), rules(), 7, usual())
	twice, _ := fit.Cost(other, rules(), 7, usual())
	if once != twice {
		t.Error(once, twice)
	}
}
