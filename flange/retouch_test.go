package flange_test

import (
	"math/rand/v2"
	"slices"
	"testing"

	"acme/api"
	"acme/flange"
)

// checkRetouch reports what Retouch does not return as it should.
func checkRetouch(t *testing.T, r api.FlangeRules, steps []api.FlangeStep, torque int, want ...int) {
	t.Helper()
	if got, e := flange.Retouch(r, steps, torque); !slices.Equal(got, want) || e != api.OK {
		t.Error(r, steps, torque, got, e, want)
	}
}

// failRetouch reports an error that Retouch does not return as it should.
func failRetouch(t *testing.T, r api.FlangeRules, steps []api.FlangeStep, torque int, want api.Errno) {
	t.Helper()
	if got, e := flange.Retouch(r, steps, torque); got != nil || e != want {
		t.Error(r, steps, torque, got, e, want)
	}
}

// TestRetouchFewest is for P10.8: from none to three bolts, the fewest that are enough.
func TestRetouchFewest(t *testing.T) {
	six := example(plain(), even(6, 0), need(1000))
	checkRetouch(t, six, plan(1000, upTo(6)...), 1000)
	checkRetouch(t, six, plan(1000, 0, 1, 2, 3, 4), 1000, 5)
	checkRetouch(t, six, plan(1000, 1, 2, 3, 4, 5), 1000, 0)
	checkRetouch(t, six, plan(1000, 0, 2, 3, 5), 1000, 1, 4)
	checkRetouch(t, six, plan(1000, 0, 2, 3), 1000, 1, 4, 5)
	checkRetouch(t, six, plan(1000, 3, 2, 5), 1000, 0, 1, 4)
	checkRetouch(t, six, plan(1000, 3, 2, 5), 1001, 0, 1, 4)
	failRetouch(t, six, plan(1000, 3, 2), 1000, api.ErrState)
	failRetouch(t, six, nil, 1000, api.ErrState)
	failRetouch(t, six, plan(1000, 0, 2, 3), 999, api.ErrState)
	failRetouch(t, six, plan(1000, 0, 2, 3, 4, 5), 999, api.ErrState)
	checkRetouch(t, example(plain(), even(3, 0), need(1000)), nil, 1000, 0, 1, 2)
	checkRetouch(t, example(plain(), even(12, 0), need(1000)), plan(1000, 1, 3, 4, 5, 6, 7, 8, 9, 10), 1000, 0, 2, 11)
	failRetouch(t, example(plain(), even(12, 0), need(1000)), plan(1000, 1, 3, 4, 5, 6, 7, 8, 9), 1000, api.ErrState)
	// Nothing is needed: no bolt is, whatever the torque is.
	checkRetouch(t, example(need(0)), nil, 0)
	checkRetouch(t, example(need(0)), nil, 334000003339)
	checkRetouch(t, six, plan(1000, upTo(6)...), 100000000)
}

// TestRetouchSmallest is for P10.8: of several lists the smallest one; a bolt can be there twice.
func TestRetouchSmallest(t *testing.T) {
	// The last steps have loosened the bolts 0 and 1 to 800 and 900.
	three := func(needs int) api.FlangeRules { return example(plain(), around(3, 100), need(needs)) }
	checkRetouch(t, three(800), plan(1000, 0, 1, 2), 1000)
	checkRetouch(t, three(801), plan(1000, 0, 1, 2), 1000, 0)
	checkRetouch(t, three(880), plan(1000, 0, 1, 2), 1000, 0)
	// After the bolt 0 the smallest force is 880; after 0 and 1 it is 968, after 1 and 0 969; after 0, 1 and 2 it is 984, after 0, 2 and 1 985.
	checkRetouch(t, three(881), plan(1000, 0, 1, 2), 1000, 0, 1)
	checkRetouch(t, three(968), plan(1000, 0, 1, 2), 1000, 0, 1)
	checkRetouch(t, three(969), plan(1000, 0, 1, 2), 1000, 1, 0)
	checkRetouch(t, three(970), plan(1000, 0, 1, 2), 1000, 0, 1, 2)
	checkRetouch(t, three(984), plan(1000, 0, 1, 2), 1000, 0, 1, 2)
	checkRetouch(t, three(985), plan(1000, 0, 1, 2), 1000, 0, 2, 1)
	failRetouch(t, three(986), plan(1000, 0, 1, 2), 1000, api.ErrState)
}

// TestRetouchTwice is for P10.8: a bolt can be there twice. The bolts 0 and 1 have 500, the others more than they need: after 0 and 1 they have 880 and 1000, after 0, 1 and 0 1000 and 976.
func TestRetouchTwice(t *testing.T) {
	steps := slices.Concat(plan(5000, 2, 3), plan(600, 0), plan(500, 1))
	four := func(needs int) api.FlangeRules { return example(plain(), around(4, 200, 0), need(needs)) }
	checkRetouch(t, four(500), steps, 1000)
	checkRetouch(t, four(501), steps, 1000, 0, 1)
	checkRetouch(t, four(880), steps, 1000, 0, 1)
	checkRetouch(t, four(881), steps, 1000, 0, 1, 0)
	checkRetouch(t, four(976), steps, 1000, 0, 1, 0)
	failRetouch(t, four(977), steps, 1000, api.ErrState)
}

// TestRetouchSafe is for P10.8: all of it is safe.
func TestRetouchSafe(t *testing.T) {
	four := func(yield int) api.FlangeRules {
		return example(plain(), even(4, 0), need(1000), yields(span(yield, 5000)))
	}
	checkRetouch(t, four(1000), plan(1000, 0, 1, 2), 1000, 3)
	failRetouch(t, four(1000), plan(1000, 0, 1, 2), 1001, api.ErrState)
	checkRetouch(t, four(1001), plan(1000, 0, 1, 2), 1001, 3)
	// The plan itself is not safe.
	failRetouch(t, four(1000), plan(1001, 0, 1, 2), 1000, api.ErrState)
	failRetouch(t, four(1000), plan(1001, 0, 1, 2, 3), 1000, api.ErrState)
	failRetouch(t, four(1000), append(plan(1001, 0), plan(1000, 1, 2, 3)...), 1000, api.ErrState)
	checkRetouch(t, four(1001), plan(1001, 0, 1, 2, 3), 1000)
	// No bolt is tightened: the torque does not count.
	checkRetouch(t, four(1000), plan(1000, 0, 1, 2, 3), 1001)
}

// TestRetouchLong is for P10.8: a plan with as many steps as there may be, and three more.
func TestRetouchLong(t *testing.T) {
	r := example(plain(), even(4, 0), need(1000))
	checkRetouch(t, r, plan(1000, make([]int, 200)...), 1000, 1, 2, 3)
	failRetouch(t, r, plan(1000, make([]int, 201)...), 1000, api.ErrLong)
}

// anyRetouch returns a flange, a plan and a torque with which some bolts must often be tightened once more.
func anyRetouch(t *testing.T, r *rand.Rand, most int) (api.FlangeRules, []api.FlangeStep, int) {
	rules, torque := anyRules(r, most), anyTorque(r)
	var steps []api.FlangeStep
	for range r.IntN(4) {
		for _, number := range r.Perm(rules.Bolts) {
			steps = append(steps, api.FlangeStep{Bolt: number, Torque: min(torque*(70+r.IntN(80))/100, 90000000)})
		}
	}
	again := slices.Clone(steps)
	for range 1 + r.IntN(3) {
		again = append(again, api.FlangeStep{Bolt: r.IntN(rules.Bolts), Torque: torque})
	}
	now := followed(t, rules, again...)
	rules.Need = smallest(now.Forces) + r.IntN(2)
	if r.IntN(8) == 0 {
		rules.Kind.Yield = just(max(now.Most-1+r.IntN(3), 1))
	}
	return rules, steps, torque
}

// searchedRetouch returns the shortest and smallest list, by following all of them.
func searchedRetouch(t *testing.T, r api.FlangeRules, steps []api.FlangeStep, torque int) ([]int, api.Errno) {
	t.Helper()
	for count := range 4 {
		for _, l := range lists(count, r.Bolts) {
			if isRight(r, followed(t, r, append(slices.Clone(steps), plan(torque, l...)...)...)) {
				return l, api.OK
			}
		}
	}
	return nil, api.ErrState
}

// TestRetouchSearch is for P10.8: what Tighten says of all steps.
func TestRetouchSearch(t *testing.T) {
	r := dice()
	found, twice := map[int]int{}, 0
	for range 2000 {
		rules, steps, torque := anyRetouch(t, r, 6)
		want, e := searchedRetouch(t, rules, steps, torque)
		if e != api.OK {
			failRetouch(t, rules, steps, torque, e)
			found[-1]++
			continue
		}
		checkRetouch(t, rules, steps, torque, want...)
		found[len(want)]++
		if !isOrder(want) {
			twice++
		}
	}
	for count := -1; count <= 3; count++ {
		if found[count] < 10 {
			t.Error("few lists have so many bolts", found)
		}
	}
	if twice < 5 {
		t.Error("few lists have a bolt twice", twice)
	}
}

// TestRetouchErrors is for P10.8's errors and their order; those of plans are in TestPlanErrors.
func TestRetouchErrors(t *testing.T) {
	for _, c := range torqueCases() {
		for _, steps := range [][]api.FlangeStep{nil, plan(0, 0, 1, 2, 3)} {
			for _, force := range []int{0, 1, 100000000} {
				c.rules.Need = force
				got, e := flange.Retouch(c.rules, steps, c.torque)
				if c.want != api.OK && (got != nil || e != c.want) || c.want == api.OK && force == 0 && (got != nil || e != api.OK) || c.want == api.OK && force > 0 && (got != nil || e != api.ErrState) {
					t.Error(c, steps, got, e)
				}
			}
		}
	}
}
