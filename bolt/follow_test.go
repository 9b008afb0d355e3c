package bolt_test

import (
	"math/rand/v2"
	"testing"

	"acme/api"
	"acme/bolt"
)

// forceOf returns what Force does.
func forceOf(t *testing.T, b api.BoltKind, w api.BoltWay) api.Span {
	t.Helper()
	force, e := bolt.Force(b, w)
	if e != api.OK {
		t.Fatal(b, w, e)
	}
	return force
}

// TestForceIsTrue is for P9.11: all forces lie in Force, and both ends are forces of some truth.
func TestForceIsTrue(t *testing.T) {
	r := dice()
	for range 1000 {
		b, w := wideBolt(r), wideWay(r)
		force := forceOf(t, b, w)
		if all := forcesOf(b, w.Kind, anyTruths(r, b, w)); !lies(all, force) {
			t.Error(b, w, force, all)
		}
		if all := forcesOf(b, w.Kind, corners(b, w)); all != force {
			t.Error(b, w, force, all)
		}
	}
}

// TestTorqueIsLeast is for P9.11: the torque is enough, and one less is not.
func TestTorqueIsLeast(t *testing.T) {
	r := dice()
	for i := range 1000 {
		b, force := wideBolt(r), r.IntN([]int{10, 10000, api.MaxBoltForce + 1}[i%3])
		now := truth{onThread: r.IntN(1001), onHead: r.IntN(1001)}
		torque, e := bolt.Torque(b, force, [2]int{now.onThread, now.onHead})
		now.torque = torque
		if got := now.force(b, api.BoltTorque); e != api.OK || got < force {
			t.Error(b, force, now, e, got)
		}
		if torque == 0 {
			continue
		}
		now.torque--
		if got := now.force(b, api.BoltTorque); got >= force {
			t.Error("one less is enough", b, force, now, got)
		}
		b.OnThread, b.OnHead = just(now.onThread), just(now.onHead)
		if torque <= api.MaxBoltTorque && (forceOf(t, b, byTorque(just(torque))).Low < force || forceOf(t, b, byTorque(just(torque-1))).High >= force) {
			t.Error("Force says otherwise", b, force, torque)
		}
	}
}

// rightFor reports whether a torque that is set is right at all corners of the truths; true torques are between those of the ends of wrong.
func rightFor(b api.BoltKind, want, wrong api.Span, set int) bool {
	w := byTorque(span(max(set+wrong.Low, 0), max(set+wrong.High, 0)))
	return sure(b, w.Kind, want, corners(b, w))
}

// wideWant returns a bolt, wanted forces and a wrong wrench, for which torques often are right.
func wideWant(r *rand.Rand) (b api.BoltKind, want, wrong api.Span) {
	b = wideBolt(r)
	if r.IntN(2) == 0 {
		b.OnThread, b.OnHead = few(r, 0, 1000), few(r, 0, 1000)
	}
	want = part(r, span(0, b.Yield.High))
	want.Low = r.IntN(min(want.Low+1, []int{1, 1000, want.Low + 1}[r.IntN(3)]))
	reach := []int{0, 10, 100000, api.MaxBoltTorque}[r.IntN(4)]
	return b, want, part(r, span(-reach, reach))
}

// TestRightIsRight is for P9.12: torques of Right are right in all truths, and those just beyond its ends in some truth are not.
func TestRightIsRight(t *testing.T) {
	r := dice()
	found := map[api.Errno]int{}
	for range 2000 {
		b, want, wrong := wideWant(r)
		right, e := bolt.Right(b, want, wrong)
		found[e]++
		if e != api.OK {
			for _, set := range []int{0, r.IntN(1000000), r.IntN(api.MaxBoltTorque), api.MaxBoltTorque} {
				if rightFor(b, want, wrong, set) {
					t.Error("one is right", b, want, wrong, set, e)
				}
			}
			continue
		}
		for _, set := range []int{right.Low, within(r, right), right.High} {
			w := byTorque(span(max(set+wrong.Low, 0), max(set+wrong.High, 0)))
			if !rightFor(b, want, wrong, set) || !sure(b, w.Kind, want, anyTruths(r, b, w)) {
				t.Error(b, want, wrong, right, set)
			}
		}
		for _, set := range []int{right.Low - 1, right.High + 1} {
			if set >= 0 && set <= api.MaxBoltTorque && rightFor(b, want, wrong, set) {
				t.Error("one more is right", b, want, wrong, right, set)
			}
		}
	}
	if found[api.OK] < 300 || found[api.ErrState] < 300 {
		t.Error("few have, or have not, a right torque", found)
	}
}

// TestBestIsRight is for P9.12: the force of each way of Best lies in want, and no bolt is beyond its yield; that of each other way does not, or one can be.
func TestBestIsRight(t *testing.T) {
	r := dice()
	found := map[bool]int{}
	for range 1000 {
		b, want, _ := wideWant(r)
		var ways []api.BoltWay
		for range 1 + r.IntN(20) {
			ways = append(ways, wideWay(r))
			// A way whose force is about what is wanted.
			torque, _ := bolt.Torque(b, within(r, want), [2]int{b.OnThread.Low, b.OnHead.High})
			if len(ways) < 20 && torque < api.MaxBoltTorque {
				ways = append(ways, byTorque(just(torque)))
			}
		}
		ways = ways[:min(len(ways), 20)]
		best := map[int]bool{}
		numbers, _ := bolt.Best(b, ways, want)
		for _, number := range numbers {
			best[number] = true
		}
		for number, w := range ways {
			if sure(b, w.Kind, want, corners(b, w)) != best[number] || best[number] && !sure(b, w.Kind, want, anyTruths(r, b, w)) {
				t.Error(b, want, w, best[number])
			}
			found[best[number]]++
		}
	}
	if found[true] < 500 || found[false] < 500 {
		t.Error("few are right, or not", found)
	}
}

// TestLearnedIsTrue is for P9.13: the true frictions are learned, and no force is wider with what was learned.
func TestLearnedIsTrue(t *testing.T) {
	r := dice()
	found := 0
	for range 1000 {
		b := wideBolt(r)
		now := truth{onThread: within(r, b.OnThread), onHead: within(r, b.OnHead), torque: r.IntN([]int{1000, 1000000000, api.MaxBoltTorque}[r.IntN(3)])}
		force := now.force(b, api.BoltTorque)
		if force > api.MaxBoltForce {
			continue
		}
		by := []int{0, 1, force/50 + 1}[r.IntN(3)]
		torque := span(max(now.torque-by, 0), now.torque+r.IntN(by+1))
		measured := span(max(force-r.IntN(by+1), 0), min(force+r.IntN(by+1), api.MaxBoltForce))
		onThread, onHead, e := bolt.Learn(b, torque, measured)
		if e != api.OK || !lies(just(now.onThread), onThread) || !lies(just(now.onHead), onHead) || !lies(onThread, b.OnThread) || !lies(onHead, b.OnHead) {
			t.Error(b, torque, measured, now, onThread, onHead, e)
			continue
		}
		known := b
		known.OnThread, known.OnHead = onThread, onHead
		if known != b {
			found++
		}
		for range 5 {
			if w := wideWay(r); !lies(forceOf(t, known, w), forceOf(t, b, w)) {
				t.Error("a force is wider", b, known, w)
			}
		}
		// Nothing more is learned from the same once more.
		if again, onHeadAgain, e := bolt.Learn(known, torque, measured); again != onThread || onHeadAgain != onHead || e != api.OK {
			t.Error("more is learned", known, torque, measured, again, onHeadAgain, e)
		}
	}
	if found < 200 {
		t.Error("few learn something", found)
	}
}

// TestNarrower is for P9.14: with narrower spans no force is wider, and what was safe is so still.
func TestNarrower(t *testing.T) {
	r := dice()
	found := map[[2]bool]int{}
	for range 3000 {
		b, w := wideBolt(r), wideWay(r)
		b.Yield.High = api.MaxBoltForce
		known, way := narrower(r, b), narrowerWay(r, w)
		if inner, outer := forceOf(t, known, way), forceOf(t, b, w); !lies(inner, outer) {
			t.Error(b, known, w, way, inner, outer)
		}
		before, possibleBefore, e := bolt.Safe(b, w)
		after, possibleAfter, f := bolt.Safe(known, way)
		if e != api.OK || f != api.OK || before && !after || possibleAfter && !possibleBefore {
			t.Error(b, known, w, way, before, after, e, f)
		}
		found[[2]bool{before, after}]++
	}
	if found[[2]bool{true, true}] < 100 || found[[2]bool{false, true}] < 100 || found[[2]bool{false, false}] < 100 {
		t.Error("few are safe, or become so", found)
	}
}

// TestNarrowerRight is for P9.14: no torque that was right ceases to be right.
func TestNarrowerRight(t *testing.T) {
	r := dice()
	found := map[bool]int{}
	for range 2000 {
		b, want, wrong := wideWant(r)
		known, better := narrower(r, b), part(r, wrong)
		before, e := bolt.Right(b, want, wrong)
		after, f := bolt.Right(known, want, better)
		if e == api.OK && (f != api.OK || !lies(before, after)) {
			t.Error(b, known, want, wrong, better, before, after, f)
		}
		if e == api.OK {
			found[before != after]++
		}
	}
	if found[true] < 100 {
		t.Error("few have more torques", found)
	}
}

// TestLoosenIsLess is for P9.15: what loosens a bolt that surely holds is above 0, and less than what tightens it.
func TestLoosenIsLess(t *testing.T) {
	r := dice()
	found := 0
	for i := range 2000 {
		b := wideBolt(r)
		b.Lead = 1 + r.IntN(min(b.Lead, 1+(b.Thread*b.OnThread.Low+b.Head*b.OnHead.Low)/900))
		surely, _, e := bolt.Holds(b)
		if e != api.OK {
			t.Fatal(b, e)
		}
		if !surely {
			continue
		}
		found++
		force := 1 + r.IntN([]int{10, 10000, api.MaxBoltForce}[i%3])
		if torque, e := bolt.Loosen(b, span(force, api.MaxBoltForce)); torque.Low <= 0 || e != api.OK {
			t.Error(b, force, torque, e)
		}
		on := [2]int{within(r, b.OnThread), within(r, b.OnHead)}
		b.OnThread, b.OnHead = just(on[0]), just(on[1])
		loosens, e := bolt.Loosen(b, just(force))
		tightens, f := bolt.Torque(b, force, on)
		if e != api.OK || f != api.OK || loosens.Low <= 0 || loosens.Low != loosens.High || loosens.High >= tightens {
			t.Error(b, force, loosens, tightens, e, f)
		}
	}
	if found < 300 {
		t.Error("few hold", found)
	}
}
