package flange_test

import (
	"math/rand/v2"
	"slices"
	"testing"

	"acme/api"
	"acme/bolt"
	"acme/flange"
)

// truth is the true forces of all bolts, what each has truly lost since it was tightened last, and the greatest force that there was.
type truth struct {
	forces, lost []int
	most         int
}

func noForce(count int) truth { return truth{forces: make([]int, count), lost: make([]int, count)} }

// step tightens a bolt that alone would truly have some force; what the others lose is rounded either way.
func (now *truth) step(r *rand.Rand, rules api.FlangeRules, number, force int) {
	gain := max(force-now.forces[number], 0)
	now.forces[number] += gain
	now.lost[number] = 0
	for other := range now.forces {
		if other == number {
			continue
		}
		loss := gain * rules.Share[distance(rules, number, other)-1]
		rounded := loss / 1000
		if loss%1000 > 0 {
			rounded += r.IntN(2)
		}
		now.lost[other] += rounded
		now.forces[other] = max(now.forces[other]-rounded, 0)
	}
	now.most = max(now.most, slices.Max(now.forces))
}

// trueForce returns a force that a torque can truly give a bolt; it is one of the ends as often as not.
func trueForce(r *rand.Rand, rules api.FlangeRules, torque int) int {
	alone := aloneOf(rules, torque)
	return []int{alone.Low, alone.High, within(r, alone), within(r, alone)}[r.IntN(4)]
}

// runOf returns what Run does.
func runOf(t *testing.T, r api.FlangeRules, steps []api.FlangeStep) api.FlangeNow {
	t.Helper()
	now, e := flange.Run(r, steps)
	if e != api.OK {
		t.Fatal(r, steps, e)
	}
	return now
}

// holds reports what Run says of a truth that is not so.
func holds(t *testing.T, now api.FlangeNow, truly truth) {
	t.Helper()
	for i, force := range truly.forces {
		if force < now.Forces[i].Low || force > now.Forces[i].High || truly.lost[i] < now.Lost[i].Low || truly.lost[i] > now.Lost[i].High || truly.most > now.Most {
			t.Fatal(i, now, truly)
		}
	}
}

// TestTruth is for P10.9: whatever is true, all forces lie in Forces after each step, none was greater than Most, and what is said to be tight or safe truly is.
func TestTruth(t *testing.T) {
	r := dice()
	found := map[[2]bool]int{}
	for range 1000 {
		rules := anyRules(r, 12)
		steps := anyPlan(r, rules, 40)
		now := runOf(t, rules, steps)
		rules.Need, rules.Kind.Yield = now.Forces[r.IntN(rules.Bolts)].Low, just(max(now.Most-r.IntN(2), 1))
		for range 5 {
			truly := noForce(rules.Bolts)
			for done, s := range steps {
				truly.step(r, rules, s.Bolt, trueForce(r, rules, s.Torque))
				if done%5 == 0 {
					holds(t, runOf(t, rules, steps[:done+1]), truly)
				}
			}
			holds(t, now, truly)
			tight, safe, e := flange.Judge(rules, steps)
			found[[2]bool{tight, safe}]++
			if e != api.OK || tight && slices.Min(truly.forces) < rules.Need || safe && truly.most > rules.Kind.Yield.Low {
				t.Error(rules, steps, tight, safe, e, truly)
			}
		}
	}
	if len(found) < 4 {
		t.Error("none are tight and safe, or not", found)
	}
}

// TestTruthReached is for P10.9: both ends of a force are true of some truth, if just this bolt is tightened; and Most is.
func TestTruthReached(t *testing.T) {
	r := dice()
	for range 300 {
		rules, torque := anyRules(r, 12), anyTorque(r)
		number := r.IntN(rules.Bolts)
		now, alone := runOf(t, rules, plan(torque, number)), aloneOf(rules, torque)
		if now.Forces[number] != alone || now.Most != alone.High {
			t.Error(rules, torque, now, alone)
		}
	}
}

// TestFewest is for P10.10: after as many rounds as Rounds says the flange is tight and safe, and after fewer it is not; no other order that begins with the bolt 0 needs fewer.
func TestFewest(t *testing.T) {
	r := dice()
	found := 0
	for range 400 {
		rules, torque := anyRules(r, 6), anyTorque(r)
		rules = wanting(t, r, rules, torque)
		order, fewest, e := flange.Order(rules, torque)
		tried := append([]int{0}, shuffledFrom1(r, rules.Bolts)...)
		rounds, f := flange.Rounds(rules, tried, torque)
		if e != api.OK {
			if e != api.ErrState || f != api.ErrState {
				t.Error(rules, torque, e, f)
			}
			continue
		}
		again, g := flange.Rounds(rules, order, torque)
		if g != api.OK || again != fewest || f == api.OK && rounds < fewest {
			t.Error(rules, torque, order, fewest, again, tried, rounds)
		}
		for count := range fewest + 1 {
			tight, safe, e := flange.Judge(rules, plan(torque, slices.Repeat(order, count)...))
			if e != api.OK || count > 0 && (tight && safe) != (count == fewest) {
				t.Error(rules, torque, order, fewest, count, tight, safe, e)
			}
		}
		// Right says the same.
		for count := 1; count <= fewest; count++ {
			right, e := flange.Right(rules, order, count, []int{torque})
			if e != api.OK || (len(right) == 1) != (count == fewest) {
				t.Error(rules, torque, order, fewest, count, right, e)
			}
		}
		if fewest > 1 {
			found++
		}
	}
	if found < 100 {
		t.Error("few need more than a round", found)
	}
}

// shuffledFrom1 returns the numbers from 1 to count - 1 in any order.
func shuffledFrom1(r *rand.Rand, count int) []int {
	var numbers []int
	for _, n := range r.Perm(count - 1) {
		numbers = append(numbers, n+1)
	}
	return numbers
}

// TestTurned is for P10.11: turned around by some places, or mirrored.
func TestTurned(t *testing.T) {
	r := dice()
	for range 300 {
		rules := anyRules(r, 12)
		steps := anyPlan(r, rules, 40)
		now, by := runOf(t, rules, steps), r.IntN(rules.Bolts)
		for _, place := range []func(number int) int{
			func(number int) int { return (number + by) % rules.Bolts },
			func(number int) int { return (by + rules.Bolts - number) % rules.Bolts },
		} {
			turned := slices.Clone(steps)
			for i := range turned {
				turned[i].Bolt = place(steps[i].Bolt)
			}
			got := runOf(t, rules, turned)
			for number := range rules.Bolts {
				if got.Forces[place(number)] != now.Forces[number] || got.Lost[place(number)] != now.Lost[number] || got.Most != now.Most {
					t.Fatal(rules, steps, by, now, got)
				}
			}
		}
	}
}

// TestTurnedOrder is for P10.11: rounds in an order that is turned, or mirrored, are as many, and the torques that are right the same.
func TestTurnedOrder(t *testing.T) {
	r := dice()
	for range 300 {
		rules, torque := anyRules(r, 12), anyTorque(r)
		rules = wanting(t, r, rules, torque)
		order, by := r.Perm(rules.Bolts), r.IntN(rules.Bolts)
		var turned, mirrored []int
		for _, number := range order {
			turned, mirrored = append(turned, (number+by)%rules.Bolts), append(mirrored, (by+rules.Bolts-number)%rules.Bolts)
		}
		rounds, e := flange.Rounds(rules, order, torque)
		right, f := flange.Right(rules, order, 3, []int{torque / 2, torque, torque / 3 * 2})
		for _, other := range [][]int{turned, mirrored} {
			again, g := flange.Rounds(rules, other, torque)
			same, h := flange.Right(rules, other, 3, []int{torque / 2, torque, torque / 3 * 2})
			if again != rounds || e != g || !slices.Equal(right, same) || f != h {
				t.Error(rules, torque, order, other, rounds, e, again, g, right, same)
			}
		}
	}
}

// TestKnownBetter is for P10.12: with narrower frictions no span is wider, and what was tight or safe is so still.
func TestKnownBetter(t *testing.T) {
	r := dice()
	narrower := 0
	for range 500 {
		rules := anyRules(r, 12)
		steps := anyPlan(r, rules, 40)
		better := rules
		better.Kind.OnThread, better.Kind.OnHead = part(r, rules.Kind.OnThread), part(r, rules.Kind.OnHead)
		now, known := runOf(t, rules, steps), runOf(t, better, steps)
		for i, s := range known.Forces {
			was := now.Forces[i]
			if s.Low < was.Low || s.High > was.High || known.Most > now.Most || known.Lost[i].Low < now.Lost[i].Low || known.Lost[i].High > now.Lost[i].High {
				t.Fatal(rules, better, steps, now, known)
			}
			if s.High-s.Low < was.High-was.Low {
				narrower++
			}
		}
	}
	if narrower < 500 {
		t.Error("few are narrower", narrower)
	}
}

// TestNoShare is for P10.12: with no share above 0, one round gives each bolt the force of its torque.
func TestNoShare(t *testing.T) {
	r := dice()
	for range 200 {
		rules, torque := anyRules(r, 12), anyTorque(r)
		rules.Share = make([]int, rules.Bolts/2)
		order := r.Perm(rules.Bolts)
		force, e := bolt.Force(rules.Kind, api.BoltWay{Kind: api.BoltTorque, Torque: just(torque)})
		now := runOf(t, rules, plan(torque, order...))
		if e != api.OK || !slices.Equal(now.Forces, slices.Repeat([]api.Span{force}, rules.Bolts)) || !slices.Equal(now.Lost, make([]api.Span, rules.Bolts)) || now.Most != force.High {
			t.Error(rules, torque, order, now, force, e)
		}
		rules.Need, rules.Kind.Yield = force.Low, just(max(force.High, 1))
		checkRounds(t, rules, order, torque, 1)
		rules.Need++
		checkRounds(t, rules, order, torque, 0)
	}
}

// TestOnceMore is for P10.13: with the bolts of Retouch the flange is tight and safe, with any shorter list it is not; if it is already, the list is empty.
func TestOnceMore(t *testing.T) {
	r := dice()
	found := map[int]int{}
	for range 1000 {
		rules, steps, torque := anyRetouch(t, r, 6)
		judged := func(numbers []int) bool {
			tight, safe, e := flange.Judge(rules, append(slices.Clone(steps), plan(torque, numbers...)...))
			if e != api.OK {
				t.Fatal(rules, steps, torque, numbers, e)
			}
			return tight && safe
		}
		got, e := flange.Retouch(rules, steps, torque)
		shorter := len(got)
		if e != api.OK {
			shorter = 4
		} else if !judged(got) || judged(nil) != (len(got) == 0) {
			t.Error(rules, steps, torque, got)
		}
		for count := range shorter {
			for _, l := range lists(count, rules.Bolts) {
				if judged(l) {
					t.Error("a shorter list is enough", rules, steps, torque, got, e, l)
				}
			}
		}
		found[shorter]++
	}
	for count := range 5 {
		if found[count] < 10 {
			t.Error("few lists have so many bolts", found)
		}
	}
}
