package bolt_test

import (
	"testing"

	"acme/api"
	"acme/bolt"
)

// checkTorque reports what Torque does not return as it should.
func checkTorque(t *testing.T, b api.BoltKind, force int, on [2]int, want int) {
	t.Helper()
	if got, e := bolt.Torque(b, force, on); got != want || e != api.OK {
		t.Error(b, force, on, got, e, want)
	}
}

// TestTorqueExample is for P9.2: the chapter's example 1, and others that are worked out by hand.
func TestTorqueExample(t *testing.T) {
	checkTorque(t, example(), 20000, [2]int{100, 120}, 66800000)
	checkTorque(t, example(), 20000, [2]int{160, 150}, 77000000)
	checkTorque(t, example(), 20000, [2]int{100, 150}, 71000000)
	checkTorque(t, example(), 0, [2]int{100, 120}, 0)
	checkTorque(t, example(), 1, [2]int{100, 120}, 3340)
	// The frictions need not be in the spans, and have their own places.
	checkTorque(t, example(), 1000, [2]int{0, 0}, 2000000)
	checkTorque(t, example(), 1000, [2]int{1000, 0}, 7000000)
	checkTorque(t, example(), 1000, [2]int{0, 1000}, 9000000)
	checkTorque(t, example(onThread(just(7)), onHead(just(9))), 20000, [2]int{100, 120}, 66800000)
	checkTorque(t, example(thread(1)), 1000, [2]int{1000, 0}, 2001000)
	checkTorque(t, example(arm(3)), 1000, [2]int{1000, 1000}, 3000)
	// No other field counts.
	checkTorque(t, example(stiff(just(1)), spring(just(1)), yield(just(1))), 20000, [2]int{100, 120}, 66800000)
}

// TestTorqueRoundsUp is for P9.2: the torque is rounded up.
func TestTorqueRoundsUp(t *testing.T) {
	b := example(lead(1), thread(1), head(1))
	for i, c := range []struct{ force, onThread, onHead, want int }{
		{1, 0, 0, 1}, {1, 1, 0, 2}, {1, 0, 1, 2}, {1, 500, 500, 2}, {1, 501, 500, 3}, {1, 1000, 999, 3}, {1, 1000, 1000, 3}, {3, 1, 0, 4}, {3, 333, 0, 4}, {3, 333, 1, 5}, {1000, 1, 0, 1001}, {999, 1, 0, 1000}, {1001, 1, 0, 1003},
	} {
		if got, e := bolt.Torque(b, c.force, [2]int{c.onThread, c.onHead}); got != c.want || e != api.OK {
			t.Error(i, got, e, c)
		}
	}
	// As great as can be: more than a torque of a way may be.
	most := example(lead(100000), thread(100000), head(100000))
	checkTorque(t, most, 100000000, [2]int{1000, 1000}, 30000000000000)
	checkTorque(t, most, 100000000, [2]int{999, 1000}, 29990000000000)
}

// TestTorqueSearch is for P9.2: the first torque that brings about the force, by looking at all.
func TestTorqueSearch(t *testing.T) {
	r := dice()
	for range 1000 {
		b, force := anyBolt(r), r.IntN(30)
		now := truth{onThread: r.IntN(1001), onHead: r.IntN(1001)}
		for now.force(b, api.BoltTorque) < force {
			now.torque++
		}
		checkTorque(t, b, force, [2]int{now.onThread, now.onHead}, now.torque)
	}
}

// TestTorqueErrors is for P9.2's errors and their order, with each limit reached and passed by one.
func TestTorqueErrors(t *testing.T) {
	fail := func(force int, on [2]int, want api.Errno) {
		t.Helper()
		for _, b := range goodKinds() {
			if got, e := bolt.Torque(b, force, on); got != 0 || e != want {
				t.Error(b, force, on, got, e, want)
			}
		}
	}
	for _, n := range outside(0, 100000000) {
		fail(n, [2]int{100, 120}, api.ErrRange)
		fail(n, [2]int{-1, 120}, api.ErrRange)
		fail(n, [2]int{100, 1001}, api.ErrRange)
	}
	for _, n := range outside(0, 1000) {
		fail(20000, [2]int{n, 120}, api.ErrArg)
		fail(20000, [2]int{100, n}, api.ErrArg)
		fail(0, [2]int{n, n}, api.ErrArg)
	}
	for _, force := range []int{0, 100000000} {
		for _, on := range [][2]int{{0, 0}, {0, 1000}, {1000, 0}, {1000, 1000}} {
			checkTorque(t, example(), force, on, force/1000*armOf(example(), on[0], on[1]))
		}
	}
}
