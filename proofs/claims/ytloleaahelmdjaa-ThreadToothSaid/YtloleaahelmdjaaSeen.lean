/- Contracts of values, spans, validSeen and alike. -/
import Derived.Test.YtloleaahelmdjaaRoom
namespace Go.Proofs.Ytloleaahelmdjaa
open Go.RowKit

set_option maxHeartbeats 1000000 in
theorem values_any (p l r a b s t x1 x2 : Int) (h : Bool) (w : World) :
    Calls Try.prog 77 #[.agg #[.int .i64 p, .int .i64 l, .int .i64 r, .int .i64 a, .int .i64 b, .int .i64 s, .bool h, .int .i64 t, .int .i64 x1, .int .i64 x2, .int .i64 (handN h)]] w fun e w' => e = .returned (.agg #[.int .i64 p, .int .i64 l, .int .i64 r, .int .i64 a, .int .i64 b, .int .i64 s, .int .i64 t]) ∧ Below w.heap.size w w' := by
  go_enter Try.func77, Try.ntmps77
  go_wp2
  refine bodyPost_ret (v := .agg #[.int .i64 p, .int .i64 l, .int .i64 r, .int .i64 a, .int .i64 b, .int .i64 s, .int .i64 t]) (by simp [results, Try.results77, go_sem]) rfl ⟨rfl, by go_grown⟩

set_option maxHeartbeats 1000000 in
theorem spans_any (p0 p1 l0 l1 r0 r1 a0 a1 b0 b1 s0 s1 t0 t1 hd : Int) (w : World) :
    Calls Try.prog 69 #[.agg #[.int .i64 p0, .int .i64 p1, .int .i64 l0, .int .i64 l1, .int .i64 r0, .int .i64 r1, .int .i64 a0, .int .i64 a1, .int .i64 b0, .int .i64 b1, .int .i64 s0, .int .i64 s1, .int .i64 t0, .int .i64 t1, .int .i64 hd]] w fun e w' => e = .returned (.agg #[.int .i64 p0, .int .i64 p1, .int .i64 l0, .int .i64 l1, .int .i64 r0, .int .i64 r1, .int .i64 a0, .int .i64 a1, .int .i64 b0, .int .i64 b1, .int .i64 s0, .int .i64 s1, .int .i64 t0, .int .i64 t1]) ∧ Below w.heap.size w w' := by
  go_enter Try.func69, Try.ntmps69
  go_wp2
  refine bodyPost_ret (v := .agg #[.int .i64 p0, .int .i64 p1, .int .i64 l0, .int .i64 l1, .int .i64 r0, .int .i64 r1, .int .i64 a0, .int .i64 a1, .int .i64 b0, .int .i64 b1, .int .i64 s0, .int .i64 s1, .int .i64 t0, .int .i64 t1]) (by simp [results, Try.results69, go_sem]) rfl ⟨rfl, by go_grown⟩

/-- Whether two numbers are nearer than twice an error. -/
def nearB (x y z : Int) : Bool := decide (-(2 * z) ≤ x - y ∧ x - y ≤ 2 * z)

set_option maxHeartbeats 1000000 in
theorem near_any (x y z : Int) (w : World) (hx : -10000000 ≤ x ∧ x ≤ 10000000) (hy : -10000000 ≤ y ∧ y ≤ 10000000) (hz : 0 ≤ z ∧ z ≤ 10000000) :
    Calls Try.prog 71 #[.int .i64 x, .int .i64 y, .int .i64 z] w fun e w' => e = .returned (.bool (nearB x y z)) ∧ Below w.heap.size w w' := by
  obtain ⟨x0, x1⟩ := hx
  obtain ⟨y0, y1⟩ := hy
  obtain ⟨z0, z1⟩ := hz
  have hin : allB (-2 * z) (2 * z) [x - y] = nearB x y z := by simp [allB, inB, nearB, Int.neg_mul]
  have H := Lib.hid hin
  clear hin
  go_enter Try.func71, Try.ntmps71
  go_wp2_with fail
  refine (allFrom1 _ _ (x - y) _ _ _ (by simp) (by go_cell)).mono ?_
  rintro e w1 ⟨rfl, hb1⟩
  have hB1 : Below w.heap.size w w1 := stepB (by go_grown) hb1
  clear hb1
  first | rw [H.out] | rw [show (-(2 * z) : Int) = -2 * z by omega, H.out]
  go_wp2
  go_returns
  exact ⟨rfl, hB1⟩

set_option maxHeartbeats 2000000 in
theorem alike_0 (p l r a b s t x1 x2 : Int) (h : Bool) (p' l' r' a' b' s' t' x1' x2' : Int) (h' : Bool) (ep el ed : Int) (w : World) (hl1 : limB ⟨p, l, r, a, b, s, h, t⟩ = true) (hl2 : limB ⟨p', l', r', a', b', s', h', t'⟩ = true) (he : (0 ≤ ep ∧ ep ≤ 10000000) ∧ (0 ≤ el ∧ el ≤ 10000000) ∧ (0 ≤ ed ∧ ed ≤ 10000000)) (g1 : nearB p p' ep = false) :
    Calls Try.prog 58 #[.agg #[.int .i64 p, .int .i64 l, .int .i64 r, .int .i64 a, .int .i64 b, .int .i64 s, .bool h, .int .i64 t, .int .i64 x1, .int .i64 x2, .int .i64 (handN h)], .agg #[.int .i64 p', .int .i64 l', .int .i64 r', .int .i64 a', .int .i64 b', .int .i64 s', .bool h', .int .i64 t', .int .i64 x1', .int .i64 x2', .int .i64 (handN h')], .agg #[.int .i64 ep, .int .i64 el, .int .i64 ed]] w fun e w' => e = .returned (.bool false) ∧ Below w.heap.size w w' := by
  obtain ⟨⟨p0, p1⟩, ⟨l0, l1⟩, ⟨r0, r1⟩, ⟨a0, a1⟩, ⟨b0, b1⟩, _, _⟩ := lim_iff.1 hl1
  simp only at p0 p1 l0 l1 r0 r1 a0 a1 b0 b1
  obtain ⟨⟨p0', p1'⟩, ⟨l0', l1'⟩, ⟨r0', r1'⟩, ⟨a0', a1'⟩, ⟨b0', b1'⟩, _, _⟩ := lim_iff.1 hl2
  simp only at p0' p1' l0' l1' r0' r1' a0' a1' b0' b1'
  obtain ⟨⟨ep0, ep1⟩, ⟨el0, el1⟩, ⟨ed0, ed1⟩⟩ := he
  clear hl1 hl2
  have G1 := Lib.hid g1
  clear g1
  go_enter Try.func58, Try.ntmps58
  go_wp2_with fail
  refine (near_any p p' ep _ ⟨by omega, by omega⟩ ⟨by omega, by omega⟩ ⟨by omega, by omega⟩).mono ?_
  rintro e w1 ⟨rfl, hb1⟩
  rw [G1.out]
  have B1 : Box w1 w.heap.size #[.int .i64 p, .int .i64 l, .int .i64 r, .int .i64 a, .int .i64 b, .int .i64 s, .bool h, .int .i64 t, .int .i64 x1, .int .i64 x2, .int .i64 (handN h)] := Box.below (Box.alloc (Box.alloc (Box.new w _ _) _) _) hb1
  have C1 : Box w1 (w.heap.size + 1) #[.int .i64 p', .int .i64 l', .int .i64 r', .int .i64 a', .int .i64 b', .int .i64 s', .bool h', .int .i64 t', .int .i64 x1', .int .i64 x2', .int .i64 (handN h')] := Box.below (Box.alloc (Box.newAt (w.alloc _) _ _ (by simp)) _) hb1
  have E1 : Box w1 (w.heap.size + 2) #[.int .i64 ep, .int .i64 el, .int .i64 ed] := Box.below (Box.newAt ((w.alloc _).alloc _) _ _ (by simp)) hb1
  have hB1 : Below w.heap.size w w1 := stepB (by go_grown) hb1
  have hs1 := hB1.size
  have b1c := B1.2.1
  have c1c := C1.2.1
  have e1c := E1.2.1
  clear hb1 G1
  go_wp2
  go_returns
  exact ⟨rfl, by go_grown⟩

set_option maxHeartbeats 2000000 in
theorem alike_1 (p l r a b s t x1 x2 : Int) (h : Bool) (p' l' r' a' b' s' t' x1' x2' : Int) (h' : Bool) (ep el ed : Int) (w : World) (hl1 : limB ⟨p, l, r, a, b, s, h, t⟩ = true) (hl2 : limB ⟨p', l', r', a', b', s', h', t'⟩ = true) (he : (0 ≤ ep ∧ ep ≤ 10000000) ∧ (0 ≤ el ∧ el ≤ 10000000) ∧ (0 ≤ ed ∧ ed ≤ 10000000)) (g1 : nearB p p' ep = true) (g2 : nearB l l' el = false) :
    Calls Try.prog 58 #[.agg #[.int .i64 p, .int .i64 l, .int .i64 r, .int .i64 a, .int .i64 b, .int .i64 s, .bool h, .int .i64 t, .int .i64 x1, .int .i64 x2, .int .i64 (handN h)], .agg #[.int .i64 p', .int .i64 l', .int .i64 r', .int .i64 a', .int .i64 b', .int .i64 s', .bool h', .int .i64 t', .int .i64 x1', .int .i64 x2', .int .i64 (handN h')], .agg #[.int .i64 ep, .int .i64 el, .int .i64 ed]] w fun e w' => e = .returned (.bool false) ∧ Below w.heap.size w w' := by
  obtain ⟨⟨p0, p1⟩, ⟨l0, l1⟩, ⟨r0, r1⟩, ⟨a0, a1⟩, ⟨b0, b1⟩, _, _⟩ := lim_iff.1 hl1
  simp only at p0 p1 l0 l1 r0 r1 a0 a1 b0 b1
  obtain ⟨⟨p0', p1'⟩, ⟨l0', l1'⟩, ⟨r0', r1'⟩, ⟨a0', a1'⟩, ⟨b0', b1'⟩, _, _⟩ := lim_iff.1 hl2
  simp only at p0' p1' l0' l1' r0' r1' a0' a1' b0' b1'
  obtain ⟨⟨ep0, ep1⟩, ⟨el0, el1⟩, ⟨ed0, ed1⟩⟩ := he
  clear hl1 hl2
  have G1 := Lib.hid g1
  clear g1
  have G2 := Lib.hid g2
  clear g2
  go_enter Try.func58, Try.ntmps58
  go_wp2_with fail
  refine (near_any p p' ep _ ⟨by omega, by omega⟩ ⟨by omega, by omega⟩ ⟨by omega, by omega⟩).mono ?_
  rintro e w1 ⟨rfl, hb1⟩
  rw [G1.out]
  have B1 : Box w1 w.heap.size #[.int .i64 p, .int .i64 l, .int .i64 r, .int .i64 a, .int .i64 b, .int .i64 s, .bool h, .int .i64 t, .int .i64 x1, .int .i64 x2, .int .i64 (handN h)] := Box.below (Box.alloc (Box.alloc (Box.new w _ _) _) _) hb1
  have C1 : Box w1 (w.heap.size + 1) #[.int .i64 p', .int .i64 l', .int .i64 r', .int .i64 a', .int .i64 b', .int .i64 s', .bool h', .int .i64 t', .int .i64 x1', .int .i64 x2', .int .i64 (handN h')] := Box.below (Box.alloc (Box.newAt (w.alloc _) _ _ (by simp)) _) hb1
  have E1 : Box w1 (w.heap.size + 2) #[.int .i64 ep, .int .i64 el, .int .i64 ed] := Box.below (Box.newAt ((w.alloc _).alloc _) _ _ (by simp)) hb1
  have hB1 : Below w.heap.size w w1 := stepB (by go_grown) hb1
  have hs1 := hB1.size
  have b1c := B1.2.1
  have c1c := C1.2.1
  have e1c := E1.2.1
  clear hb1 G1
  go_wp2_with fail
  refine (near_any l l' el _ ⟨by omega, by omega⟩ ⟨by omega, by omega⟩ ⟨by omega, by omega⟩).mono ?_
  rintro e w2 ⟨rfl, hb2⟩
  rw [G2.out]
  have B2 : Box w2 w.heap.size #[.int .i64 p, .int .i64 l, .int .i64 r, .int .i64 a, .int .i64 b, .int .i64 s, .bool h, .int .i64 t, .int .i64 x1, .int .i64 x2, .int .i64 (handN h)] := Box.below B1 hb2
  have C2 : Box w2 (w.heap.size + 1) #[.int .i64 p', .int .i64 l', .int .i64 r', .int .i64 a', .int .i64 b', .int .i64 s', .bool h', .int .i64 t', .int .i64 x1', .int .i64 x2', .int .i64 (handN h')] := Box.below C1 hb2
  have E2 : Box w2 (w.heap.size + 2) #[.int .i64 ep, .int .i64 el, .int .i64 ed] := Box.below E1 hb2
  have hB2 : Below w.heap.size w w2 := stepB (by go_grown) hb2
  have hs2 := hB2.size
  have b2c := B2.2.1
  have c2c := C2.2.1
  have e2c := E2.2.1
  clear hb2 G2 B1 C1 E1 hB1 hs1 b1c c1c e1c
  go_wp2
  go_returns
  exact ⟨rfl, by go_grown⟩

set_option maxHeartbeats 2000000 in
theorem alike_2 (p l r a b s t x1 x2 : Int) (h : Bool) (p' l' r' a' b' s' t' x1' x2' : Int) (h' : Bool) (ep el ed : Int) (w : World) (hl1 : limB ⟨p, l, r, a, b, s, h, t⟩ = true) (hl2 : limB ⟨p', l', r', a', b', s', h', t'⟩ = true) (he : (0 ≤ ep ∧ ep ≤ 10000000) ∧ (0 ≤ el ∧ el ≤ 10000000) ∧ (0 ≤ ed ∧ ed ≤ 10000000)) (g1 : nearB p p' ep = true) (g2 : nearB l l' el = true) (g3 : nearB r r' el = false) :
    Calls Try.prog 58 #[.agg #[.int .i64 p, .int .i64 l, .int .i64 r, .int .i64 a, .int .i64 b, .int .i64 s, .bool h, .int .i64 t, .int .i64 x1, .int .i64 x2, .int .i64 (handN h)], .agg #[.int .i64 p', .int .i64 l', .int .i64 r', .int .i64 a', .int .i64 b', .int .i64 s', .bool h', .int .i64 t', .int .i64 x1', .int .i64 x2', .int .i64 (handN h')], .agg #[.int .i64 ep, .int .i64 el, .int .i64 ed]] w fun e w' => e = .returned (.bool false) ∧ Below w.heap.size w w' := by
  obtain ⟨⟨p0, p1⟩, ⟨l0, l1⟩, ⟨r0, r1⟩, ⟨a0, a1⟩, ⟨b0, b1⟩, _, _⟩ := lim_iff.1 hl1
  simp only at p0 p1 l0 l1 r0 r1 a0 a1 b0 b1
  obtain ⟨⟨p0', p1'⟩, ⟨l0', l1'⟩, ⟨r0', r1'⟩, ⟨a0', a1'⟩, ⟨b0', b1'⟩, _, _⟩ := lim_iff.1 hl2
  simp only at p0' p1' l0' l1' r0' r1' a0' a1' b0' b1'
  obtain ⟨⟨ep0, ep1⟩, ⟨el0, el1⟩, ⟨ed0, ed1⟩⟩ := he
  clear hl1 hl2
  have G1 := Lib.hid g1
  clear g1
  have G2 := Lib.hid g2
  clear g2
  have G3 := Lib.hid g3
  clear g3
  go_enter Try.func58, Try.ntmps58
  go_wp2_with fail
  refine (near_any p p' ep _ ⟨by omega, by omega⟩ ⟨by omega, by omega⟩ ⟨by omega, by omega⟩).mono ?_
  rintro e w1 ⟨rfl, hb1⟩
  rw [G1.out]
  have B1 : Box w1 w.heap.size #[.int .i64 p, .int .i64 l, .int .i64 r, .int .i64 a, .int .i64 b, .int .i64 s, .bool h, .int .i64 t, .int .i64 x1, .int .i64 x2, .int .i64 (handN h)] := Box.below (Box.alloc (Box.alloc (Box.new w _ _) _) _) hb1
  have C1 : Box w1 (w.heap.size + 1) #[.int .i64 p', .int .i64 l', .int .i64 r', .int .i64 a', .int .i64 b', .int .i64 s', .bool h', .int .i64 t', .int .i64 x1', .int .i64 x2', .int .i64 (handN h')] := Box.below (Box.alloc (Box.newAt (w.alloc _) _ _ (by simp)) _) hb1
  have E1 : Box w1 (w.heap.size + 2) #[.int .i64 ep, .int .i64 el, .int .i64 ed] := Box.below (Box.newAt ((w.alloc _).alloc _) _ _ (by simp)) hb1
  have hB1 : Below w.heap.size w w1 := stepB (by go_grown) hb1
  have hs1 := hB1.size
  have b1c := B1.2.1
  have c1c := C1.2.1
  have e1c := E1.2.1
  clear hb1 G1
  go_wp2_with fail
  refine (near_any l l' el _ ⟨by omega, by omega⟩ ⟨by omega, by omega⟩ ⟨by omega, by omega⟩).mono ?_
  rintro e w2 ⟨rfl, hb2⟩
  rw [G2.out]
  have B2 : Box w2 w.heap.size #[.int .i64 p, .int .i64 l, .int .i64 r, .int .i64 a, .int .i64 b, .int .i64 s, .bool h, .int .i64 t, .int .i64 x1, .int .i64 x2, .int .i64 (handN h)] := Box.below B1 hb2
  have C2 : Box w2 (w.heap.size + 1) #[.int .i64 p', .int .i64 l', .int .i64 r', .int .i64 a', .int .i64 b', .int .i64 s', .bool h', .int .i64 t', .int .i64 x1', .int .i64 x2', .int .i64 (handN h')] := Box.below C1 hb2
  have E2 : Box w2 (w.heap.size + 2) #[.int .i64 ep, .int .i64 el, .int .i64 ed] := Box.below E1 hb2
  have hB2 : Below w.heap.size w w2 := stepB (by go_grown) hb2
  have hs2 := hB2.size
  have b2c := B2.2.1
  have c2c := C2.2.1
  have e2c := E2.2.1
  clear hb2 G2 B1 C1 E1 hB1 hs1 b1c c1c e1c
  go_wp2_with fail
  refine (near_any r r' el _ ⟨by omega, by omega⟩ ⟨by omega, by omega⟩ ⟨by omega, by omega⟩).mono ?_
  rintro e w3 ⟨rfl, hb3⟩
  rw [G3.out]
  have B3 : Box w3 w.heap.size #[.int .i64 p, .int .i64 l, .int .i64 r, .int .i64 a, .int .i64 b, .int .i64 s, .bool h, .int .i64 t, .int .i64 x1, .int .i64 x2, .int .i64 (handN h)] := Box.below B2 hb3
  have C3 : Box w3 (w.heap.size + 1) #[.int .i64 p', .int .i64 l', .int .i64 r', .int .i64 a', .int .i64 b', .int .i64 s', .bool h', .int .i64 t', .int .i64 x1', .int .i64 x2', .int .i64 (handN h')] := Box.below C2 hb3
  have E3 : Box w3 (w.heap.size + 2) #[.int .i64 ep, .int .i64 el, .int .i64 ed] := Box.below E2 hb3
  have hB3 : Below w.heap.size w w3 := stepB (by go_grown) hb3
  have hs3 := hB3.size
  have b3c := B3.2.1
  have c3c := C3.2.1
  have e3c := E3.2.1
  clear hb3 G3 B2 C2 E2 hB2 hs2 b2c c2c e2c
  go_wp2
  go_returns
  exact ⟨rfl, by go_grown⟩

set_option maxHeartbeats 2000000 in
theorem alike_3 (p l r a b s t x1 x2 : Int) (h : Bool) (p' l' r' a' b' s' t' x1' x2' : Int) (h' : Bool) (ep el ed : Int) (w : World) (hl1 : limB ⟨p, l, r, a, b, s, h, t⟩ = true) (hl2 : limB ⟨p', l', r', a', b', s', h', t'⟩ = true) (he : (0 ≤ ep ∧ ep ≤ 10000000) ∧ (0 ≤ el ∧ el ≤ 10000000) ∧ (0 ≤ ed ∧ ed ≤ 10000000)) (g1 : nearB p p' ep = true) (g2 : nearB l l' el = true) (g3 : nearB r r' el = true) (g4 : nearB a a' ed = false) :
    Calls Try.prog 58 #[.agg #[.int .i64 p, .int .i64 l, .int .i64 r, .int .i64 a, .int .i64 b, .int .i64 s, .bool h, .int .i64 t, .int .i64 x1, .int .i64 x2, .int .i64 (handN h)], .agg #[.int .i64 p', .int .i64 l', .int .i64 r', .int .i64 a', .int .i64 b', .int .i64 s', .bool h', .int .i64 t', .int .i64 x1', .int .i64 x2', .int .i64 (handN h')], .agg #[.int .i64 ep, .int .i64 el, .int .i64 ed]] w fun e w' => e = .returned (.bool false) ∧ Below w.heap.size w w' := by
  obtain ⟨⟨p0, p1⟩, ⟨l0, l1⟩, ⟨r0, r1⟩, ⟨a0, a1⟩, ⟨b0, b1⟩, _, _⟩ := lim_iff.1 hl1
  simp only at p0 p1 l0 l1 r0 r1 a0 a1 b0 b1
  obtain ⟨⟨p0', p1'⟩, ⟨l0', l1'⟩, ⟨r0', r1'⟩, ⟨a0', a1'⟩, ⟨b0', b1'⟩, _, _⟩ := lim_iff.1 hl2
  simp only at p0' p1' l0' l1' r0' r1' a0' a1' b0' b1'
  obtain ⟨⟨ep0, ep1⟩, ⟨el0, el1⟩, ⟨ed0, ed1⟩⟩ := he
  clear hl1 hl2
  have G1 := Lib.hid g1
  clear g1
  have G2 := Lib.hid g2
  clear g2
  have G3 := Lib.hid g3
  clear g3
  have G4 := Lib.hid g4
  clear g4
  go_enter Try.func58, Try.ntmps58
  go_wp2_with fail
  refine (near_any p p' ep _ ⟨by omega, by omega⟩ ⟨by omega, by omega⟩ ⟨by omega, by omega⟩).mono ?_
  rintro e w1 ⟨rfl, hb1⟩
  rw [G1.out]
  have B1 : Box w1 w.heap.size #[.int .i64 p, .int .i64 l, .int .i64 r, .int .i64 a, .int .i64 b, .int .i64 s, .bool h, .int .i64 t, .int .i64 x1, .int .i64 x2, .int .i64 (handN h)] := Box.below (Box.alloc (Box.alloc (Box.new w _ _) _) _) hb1
  have C1 : Box w1 (w.heap.size + 1) #[.int .i64 p', .int .i64 l', .int .i64 r', .int .i64 a', .int .i64 b', .int .i64 s', .bool h', .int .i64 t', .int .i64 x1', .int .i64 x2', .int .i64 (handN h')] := Box.below (Box.alloc (Box.newAt (w.alloc _) _ _ (by simp)) _) hb1
  have E1 : Box w1 (w.heap.size + 2) #[.int .i64 ep, .int .i64 el, .int .i64 ed] := Box.below (Box.newAt ((w.alloc _).alloc _) _ _ (by simp)) hb1
  have hB1 : Below w.heap.size w w1 := stepB (by go_grown) hb1
  have hs1 := hB1.size
  have b1c := B1.2.1
  have c1c := C1.2.1
  have e1c := E1.2.1
  clear hb1 G1
  go_wp2_with fail
  refine (near_any l l' el _ ⟨by omega, by omega⟩ ⟨by omega, by omega⟩ ⟨by omega, by omega⟩).mono ?_
  rintro e w2 ⟨rfl, hb2⟩
  rw [G2.out]
  have B2 : Box w2 w.heap.size #[.int .i64 p, .int .i64 l, .int .i64 r, .int .i64 a, .int .i64 b, .int .i64 s, .bool h, .int .i64 t, .int .i64 x1, .int .i64 x2, .int .i64 (handN h)] := Box.below B1 hb2
  have C2 : Box w2 (w.heap.size + 1) #[.int .i64 p', .int .i64 l', .int .i64 r', .int .i64 a', .int .i64 b', .int .i64 s', .bool h', .int .i64 t', .int .i64 x1', .int .i64 x2', .int .i64 (handN h')] := Box.below C1 hb2
  have E2 : Box w2 (w.heap.size + 2) #[.int .i64 ep, .int .i64 el, .int .i64 ed] := Box.below E1 hb2
  have hB2 : Below w.heap.size w w2 := stepB (by go_grown) hb2
  have hs2 := hB2.size
  have b2c := B2.2.1
  have c2c := C2.2.1
  have e2c := E2.2.1
  clear hb2 G2 B1 C1 E1 hB1 hs1 b1c c1c e1c
  go_wp2_with fail
  refine (near_any r r' el _ ⟨by omega, by omega⟩ ⟨by omega, by omega⟩ ⟨by omega, by omega⟩).mono ?_
  rintro e w3 ⟨rfl, hb3⟩
  rw [G3.out]
  have B3 : Box w3 w.heap.size #[.int .i64 p, .int .i64 l, .int .i64 r, .int .i64 a, .int .i64 b, .int .i64 s, .bool h, .int .i64 t, .int .i64 x1, .int .i64 x2, .int .i64 (handN h)] := Box.below B2 hb3
  have C3 : Box w3 (w.heap.size + 1) #[.int .i64 p', .int .i64 l', .int .i64 r', .int .i64 a', .int .i64 b', .int .i64 s', .bool h', .int .i64 t', .int .i64 x1', .int .i64 x2', .int .i64 (handN h')] := Box.below C2 hb3
  have E3 : Box w3 (w.heap.size + 2) #[.int .i64 ep, .int .i64 el, .int .i64 ed] := Box.below E2 hb3
  have hB3 : Below w.heap.size w w3 := stepB (by go_grown) hb3
  have hs3 := hB3.size
  have b3c := B3.2.1
  have c3c := C3.2.1
  have e3c := E3.2.1
  clear hb3 G3 B2 C2 E2 hB2 hs2 b2c c2c e2c
  go_wp2_with fail
  refine (near_any a a' ed _ ⟨by omega, by omega⟩ ⟨by omega, by omega⟩ ⟨by omega, by omega⟩).mono ?_
  rintro e w4 ⟨rfl, hb4⟩
  rw [G4.out]
  have B4 : Box w4 w.heap.size #[.int .i64 p, .int .i64 l, .int .i64 r, .int .i64 a, .int .i64 b, .int .i64 s, .bool h, .int .i64 t, .int .i64 x1, .int .i64 x2, .int .i64 (handN h)] := Box.below B3 hb4
  have C4 : Box w4 (w.heap.size + 1) #[.int .i64 p', .int .i64 l', .int .i64 r', .int .i64 a', .int .i64 b', .int .i64 s', .bool h', .int .i64 t', .int .i64 x1', .int .i64 x2', .int .i64 (handN h')] := Box.below C3 hb4
  have E4 : Box w4 (w.heap.size + 2) #[.int .i64 ep, .int .i64 el, .int .i64 ed] := Box.below E3 hb4
  have hB4 : Below w.heap.size w w4 := stepB (by go_grown) hb4
  have hs4 := hB4.size
  have b4c := B4.2.1
  have c4c := C4.2.1
  have e4c := E4.2.1
  clear hb4 G4 B3 C3 E3 hB3 hs3 b3c c3c e3c
  go_wp2
  go_returns
  exact ⟨rfl, by go_grown⟩

set_option maxHeartbeats 2000000 in
theorem alike_4 (p l r a b s t x1 x2 : Int) (h : Bool) (p' l' r' a' b' s' t' x1' x2' : Int) (h' : Bool) (ep el ed : Int) (w : World) (hl1 : limB ⟨p, l, r, a, b, s, h, t⟩ = true) (hl2 : limB ⟨p', l', r', a', b', s', h', t'⟩ = true) (he : (0 ≤ ep ∧ ep ≤ 10000000) ∧ (0 ≤ el ∧ el ≤ 10000000) ∧ (0 ≤ ed ∧ ed ≤ 10000000)) (g1 : nearB p p' ep = true) (g2 : nearB l l' el = true) (g3 : nearB r r' el = true) (g4 : nearB a a' ed = true) (g5 : nearB b b' ed = false) :
    Calls Try.prog 58 #[.agg #[.int .i64 p, .int .i64 l, .int .i64 r, .int .i64 a, .int .i64 b, .int .i64 s, .bool h, .int .i64 t, .int .i64 x1, .int .i64 x2, .int .i64 (handN h)], .agg #[.int .i64 p', .int .i64 l', .int .i64 r', .int .i64 a', .int .i64 b', .int .i64 s', .bool h', .int .i64 t', .int .i64 x1', .int .i64 x2', .int .i64 (handN h')], .agg #[.int .i64 ep, .int .i64 el, .int .i64 ed]] w fun e w' => e = .returned (.bool false) ∧ Below w.heap.size w w' := by
  obtain ⟨⟨p0, p1⟩, ⟨l0, l1⟩, ⟨r0, r1⟩, ⟨a0, a1⟩, ⟨b0, b1⟩, _, _⟩ := lim_iff.1 hl1
  simp only at p0 p1 l0 l1 r0 r1 a0 a1 b0 b1
  obtain ⟨⟨p0', p1'⟩, ⟨l0', l1'⟩, ⟨r0', r1'⟩, ⟨a0', a1'⟩, ⟨b0', b1'⟩, _, _⟩ := lim_iff.1 hl2
  simp only at p0' p1' l0' l1' r0' r1' a0' a1' b0' b1'
  obtain ⟨⟨ep0, ep1⟩, ⟨el0, el1⟩, ⟨ed0, ed1⟩⟩ := he
  clear hl1 hl2
  have G1 := Lib.hid g1
  clear g1
  have G2 := Lib.hid g2
  clear g2
  have G3 := Lib.hid g3
  clear g3
  have G4 := Lib.hid g4
  clear g4
  have G5 := Lib.hid g5
  clear g5
  go_enter Try.func58, Try.ntmps58
  go_wp2_with fail
  refine (near_any p p' ep _ ⟨by omega, by omega⟩ ⟨by omega, by omega⟩ ⟨by omega, by omega⟩).mono ?_
  rintro e w1 ⟨rfl, hb1⟩
  rw [G1.out]
  have B1 : Box w1 w.heap.size #[.int .i64 p, .int .i64 l, .int .i64 r, .int .i64 a, .int .i64 b, .int .i64 s, .bool h, .int .i64 t, .int .i64 x1, .int .i64 x2, .int .i64 (handN h)] := Box.below (Box.alloc (Box.alloc (Box.new w _ _) _) _) hb1
  have C1 : Box w1 (w.heap.size + 1) #[.int .i64 p', .int .i64 l', .int .i64 r', .int .i64 a', .int .i64 b', .int .i64 s', .bool h', .int .i64 t', .int .i64 x1', .int .i64 x2', .int .i64 (handN h')] := Box.below (Box.alloc (Box.newAt (w.alloc _) _ _ (by simp)) _) hb1
  have E1 : Box w1 (w.heap.size + 2) #[.int .i64 ep, .int .i64 el, .int .i64 ed] := Box.below (Box.newAt ((w.alloc _).alloc _) _ _ (by simp)) hb1
  have hB1 : Below w.heap.size w w1 := stepB (by go_grown) hb1
  have hs1 := hB1.size
  have b1c := B1.2.1
  have c1c := C1.2.1
  have e1c := E1.2.1
  clear hb1 G1
  go_wp2_with fail
  refine (near_any l l' el _ ⟨by omega, by omega⟩ ⟨by omega, by omega⟩ ⟨by omega, by omega⟩).mono ?_
  rintro e w2 ⟨rfl, hb2⟩
  rw [G2.out]
  have B2 : Box w2 w.heap.size #[.int .i64 p, .int .i64 l, .int .i64 r, .int .i64 a, .int .i64 b, .int .i64 s, .bool h, .int .i64 t, .int .i64 x1, .int .i64 x2, .int .i64 (handN h)] := Box.below B1 hb2
  have C2 : Box w2 (w.heap.size + 1) #[.int .i64 p', .int .i64 l', .int .i64 r', .int .i64 a', .int .i64 b', .int .i64 s', .bool h', .int .i64 t', .int .i64 x1', .int .i64 x2', .int .i64 (handN h')] := Box.below C1 hb2
  have E2 : Box w2 (w.heap.size + 2) #[.int .i64 ep, .int .i64 el, .int .i64 ed] := Box.below E1 hb2
  have hB2 : Below w.heap.size w w2 := stepB (by go_grown) hb2
  have hs2 := hB2.size
  have b2c := B2.2.1
  have c2c := C2.2.1
  have e2c := E2.2.1
  clear hb2 G2 B1 C1 E1 hB1 hs1 b1c c1c e1c
  go_wp2_with fail
  refine (near_any r r' el _ ⟨by omega, by omega⟩ ⟨by omega, by omega⟩ ⟨by omega, by omega⟩).mono ?_
  rintro e w3 ⟨rfl, hb3⟩
  rw [G3.out]
  have B3 : Box w3 w.heap.size #[.int .i64 p, .int .i64 l, .int .i64 r, .int .i64 a, .int .i64 b, .int .i64 s, .bool h, .int .i64 t, .int .i64 x1, .int .i64 x2, .int .i64 (handN h)] := Box.below B2 hb3
  have C3 : Box w3 (w.heap.size + 1) #[.int .i64 p', .int .i64 l', .int .i64 r', .int .i64 a', .int .i64 b', .int .i64 s', .bool h', .int .i64 t', .int .i64 x1', .int .i64 x2', .int .i64 (handN h')] := Box.below C2 hb3
  have E3 : Box w3 (w.heap.size + 2) #[.int .i64 ep, .int .i64 el, .int .i64 ed] := Box.below E2 hb3
  have hB3 : Below w.heap.size w w3 := stepB (by go_grown) hb3
  have hs3 := hB3.size
  have b3c := B3.2.1
  have c3c := C3.2.1
  have e3c := E3.2.1
  clear hb3 G3 B2 C2 E2 hB2 hs2 b2c c2c e2c
  go_wp2_with fail
  refine (near_any a a' ed _ ⟨by omega, by omega⟩ ⟨by omega, by omega⟩ ⟨by omega, by omega⟩).mono ?_
  rintro e w4 ⟨rfl, hb4⟩
  rw [G4.out]
  have B4 : Box w4 w.heap.size #[.int .i64 p, .int .i64 l, .int .i64 r, .int .i64 a, .int .i64 b, .int .i64 s, .bool h, .int .i64 t, .int .i64 x1, .int .i64 x2, .int .i64 (handN h)] := Box.below B3 hb4
  have C4 : Box w4 (w.heap.size + 1) #[.int .i64 p', .int .i64 l', .int .i64 r', .int .i64 a', .int .i64 b', .int .i64 s', .bool h', .int .i64 t', .int .i64 x1', .int .i64 x2', .int .i64 (handN h')] := Box.below C3 hb4
  have E4 : Box w4 (w.heap.size + 2) #[.int .i64 ep, .int .i64 el, .int .i64 ed] := Box.below E3 hb4
  have hB4 : Below w.heap.size w w4 := stepB (by go_grown) hb4
  have hs4 := hB4.size
  have b4c := B4.2.1
  have c4c := C4.2.1
  have e4c := E4.2.1
  clear hb4 G4 B3 C3 E3 hB3 hs3 b3c c3c e3c
  go_wp2_with fail
  refine (near_any b b' ed _ ⟨by omega, by omega⟩ ⟨by omega, by omega⟩ ⟨by omega, by omega⟩).mono ?_
  rintro e w5 ⟨rfl, hb5⟩
  rw [G5.out]
  have B5 : Box w5 w.heap.size #[.int .i64 p, .int .i64 l, .int .i64 r, .int .i64 a, .int .i64 b, .int .i64 s, .bool h, .int .i64 t, .int .i64 x1, .int .i64 x2, .int .i64 (handN h)] := Box.below B4 hb5
  have C5 : Box w5 (w.heap.size + 1) #[.int .i64 p', .int .i64 l', .int .i64 r', .int .i64 a', .int .i64 b', .int .i64 s', .bool h', .int .i64 t', .int .i64 x1', .int .i64 x2', .int .i64 (handN h')] := Box.below C4 hb5
  have E5 : Box w5 (w.heap.size + 2) #[.int .i64 ep, .int .i64 el, .int .i64 ed] := Box.below E4 hb5
  have hB5 : Below w.heap.size w w5 := stepB (by go_grown) hb5
  have hs5 := hB5.size
  have b5c := B5.2.1
  have c5c := C5.2.1
  have e5c := E5.2.1
  clear hb5 G5 B4 C4 E4 hB4 hs4 b4c c4c e4c
  go_wp2
  go_returns
  exact ⟨rfl, by go_grown⟩

set_option maxHeartbeats 2000000 in
theorem alike_5 (p l r a b s t x1 x2 : Int) (h : Bool) (p' l' r' a' b' s' t' x1' x2' : Int) (h' : Bool) (ep el ed : Int) (w : World) (hl1 : limB ⟨p, l, r, a, b, s, h, t⟩ = true) (hl2 : limB ⟨p', l', r', a', b', s', h', t'⟩ = true) (he : (0 ≤ ep ∧ ep ≤ 10000000) ∧ (0 ≤ el ∧ el ≤ 10000000) ∧ (0 ≤ ed ∧ ed ≤ 10000000)) (g1 : nearB p p' ep = true) (g2 : nearB l l' el = true) (g3 : nearB r r' el = true) (g4 : nearB a a' ed = true) (g5 : nearB b b' ed = true) :
    Calls Try.prog 58 #[.agg #[.int .i64 p, .int .i64 l, .int .i64 r, .int .i64 a, .int .i64 b, .int .i64 s, .bool h, .int .i64 t, .int .i64 x1, .int .i64 x2, .int .i64 (handN h)], .agg #[.int .i64 p', .int .i64 l', .int .i64 r', .int .i64 a', .int .i64 b', .int .i64 s', .bool h', .int .i64 t', .int .i64 x1', .int .i64 x2', .int .i64 (handN h')], .agg #[.int .i64 ep, .int .i64 el, .int .i64 ed]] w fun e w' => e = .returned (.bool (tlB s t h s' t' h')) ∧ Below w.heap.size w w' := by
  obtain ⟨⟨p0, p1⟩, ⟨l0, l1⟩, ⟨r0, r1⟩, ⟨a0, a1⟩, ⟨b0, b1⟩, _, _⟩ := lim_iff.1 hl1
  simp only at p0 p1 l0 l1 r0 r1 a0 a1 b0 b1
  obtain ⟨⟨p0', p1'⟩, ⟨l0', l1'⟩, ⟨r0', r1'⟩, ⟨a0', a1'⟩, ⟨b0', b1'⟩, _, _⟩ := lim_iff.1 hl2
  simp only at p0' p1' l0' l1' r0' r1' a0' a1' b0' b1'
  obtain ⟨⟨ep0, ep1⟩, ⟨el0, el1⟩, ⟨ed0, ed1⟩⟩ := he
  clear hl1 hl2
  have G1 := Lib.hid g1
  clear g1
  have G2 := Lib.hid g2
  clear g2
  have G3 := Lib.hid g3
  clear g3
  have G4 := Lib.hid g4
  clear g4
  have G5 := Lib.hid g5
  clear g5
  go_enter Try.func58, Try.ntmps58
  go_wp2_with fail
  refine (near_any p p' ep _ ⟨by omega, by omega⟩ ⟨by omega, by omega⟩ ⟨by omega, by omega⟩).mono ?_
  rintro e w1 ⟨rfl, hb1⟩
  rw [G1.out]
  have B1 : Box w1 w.heap.size #[.int .i64 p, .int .i64 l, .int .i64 r, .int .i64 a, .int .i64 b, .int .i64 s, .bool h, .int .i64 t, .int .i64 x1, .int .i64 x2, .int .i64 (handN h)] := Box.below (Box.alloc (Box.alloc (Box.new w _ _) _) _) hb1
  have C1 : Box w1 (w.heap.size + 1) #[.int .i64 p', .int .i64 l', .int .i64 r', .int .i64 a', .int .i64 b', .int .i64 s', .bool h', .int .i64 t', .int .i64 x1', .int .i64 x2', .int .i64 (handN h')] := Box.below (Box.alloc (Box.newAt (w.alloc _) _ _ (by simp)) _) hb1
  have E1 : Box w1 (w.heap.size + 2) #[.int .i64 ep, .int .i64 el, .int .i64 ed] := Box.below (Box.newAt ((w.alloc _).alloc _) _ _ (by simp)) hb1
  have hB1 : Below w.heap.size w w1 := stepB (by go_grown) hb1
  have hs1 := hB1.size
  have b1c := B1.2.1
  have c1c := C1.2.1
  have e1c := E1.2.1
  clear hb1 G1
  go_wp2_with fail
  refine (near_any l l' el _ ⟨by omega, by omega⟩ ⟨by omega, by omega⟩ ⟨by omega, by omega⟩).mono ?_
  rintro e w2 ⟨rfl, hb2⟩
  rw [G2.out]
  have B2 : Box w2 w.heap.size #[.int .i64 p, .int .i64 l, .int .i64 r, .int .i64 a, .int .i64 b, .int .i64 s, .bool h, .int .i64 t, .int .i64 x1, .int .i64 x2, .int .i64 (handN h)] := Box.below B1 hb2
  have C2 : Box w2 (w.heap.size + 1) #[.int .i64 p', .int .i64 l', .int .i64 r', .int .i64 a', .int .i64 b', .int .i64 s', .bool h', .int .i64 t', .int .i64 x1', .int .i64 x2', .int .i64 (handN h')] := Box.below C1 hb2
  have E2 : Box w2 (w.heap.size + 2) #[.int .i64 ep, .int .i64 el, .int .i64 ed] := Box.below E1 hb2
  have hB2 : Below w.heap.size w w2 := stepB (by go_grown) hb2
  have hs2 := hB2.size
  have b2c := B2.2.1
  have c2c := C2.2.1
  have e2c := E2.2.1
  clear hb2 G2 B1 C1 E1 hB1 hs1 b1c c1c e1c
  go_wp2_with fail
  refine (near_any r r' el _ ⟨by omega, by omega⟩ ⟨by omega, by omega⟩ ⟨by omega, by omega⟩).mono ?_
  rintro e w3 ⟨rfl, hb3⟩
  rw [G3.out]
  have B3 : Box w3 w.heap.size #[.int .i64 p, .int .i64 l, .int .i64 r, .int .i64 a, .int .i64 b, .int .i64 s, .bool h, .int .i64 t, .int .i64 x1, .int .i64 x2, .int .i64 (handN h)] := Box.below B2 hb3
  have C3 : Box w3 (w.heap.size + 1) #[.int .i64 p', .int .i64 l', .int .i64 r', .int .i64 a', .int .i64 b', .int .i64 s', .bool h', .int .i64 t', .int .i64 x1', .int .i64 x2', .int .i64 (handN h')] := Box.below C2 hb3
  have E3 : Box w3 (w.heap.size + 2) #[.int .i64 ep, .int .i64 el, .int .i64 ed] := Box.below E2 hb3
  have hB3 : Below w.heap.size w w3 := stepB (by go_grown) hb3
  have hs3 := hB3.size
  have b3c := B3.2.1
  have c3c := C3.2.1
  have e3c := E3.2.1
  clear hb3 G3 B2 C2 E2 hB2 hs2 b2c c2c e2c
  go_wp2_with fail
  refine (near_any a a' ed _ ⟨by omega, by omega⟩ ⟨by omega, by omega⟩ ⟨by omega, by omega⟩).mono ?_
  rintro e w4 ⟨rfl, hb4⟩
  rw [G4.out]
  have B4 : Box w4 w.heap.size #[.int .i64 p, .int .i64 l, .int .i64 r, .int .i64 a, .int .i64 b, .int .i64 s, .bool h, .int .i64 t, .int .i64 x1, .int .i64 x2, .int .i64 (handN h)] := Box.below B3 hb4
  have C4 : Box w4 (w.heap.size + 1) #[.int .i64 p', .int .i64 l', .int .i64 r', .int .i64 a', .int .i64 b', .int .i64 s', .bool h', .int .i64 t', .int .i64 x1', .int .i64 x2', .int .i64 (handN h')] := Box.below C3 hb4
  have E4 : Box w4 (w.heap.size + 2) #[.int .i64 ep, .int .i64 el, .int .i64 ed] := Box.below E3 hb4
  have hB4 : Below w.heap.size w w4 := stepB (by go_grown) hb4
  have hs4 := hB4.size
  have b4c := B4.2.1
  have c4c := C4.2.1
  have e4c := E4.2.1
  clear hb4 G4 B3 C3 E3 hB3 hs3 b3c c3c e3c
  go_wp2_with fail
  refine (near_any b b' ed _ ⟨by omega, by omega⟩ ⟨by omega, by omega⟩ ⟨by omega, by omega⟩).mono ?_
  rintro e w5 ⟨rfl, hb5⟩
  rw [G5.out]
  have B5 : Box w5 w.heap.size #[.int .i64 p, .int .i64 l, .int .i64 r, .int .i64 a, .int .i64 b, .int .i64 s, .bool h, .int .i64 t, .int .i64 x1, .int .i64 x2, .int .i64 (handN h)] := Box.below B4 hb5
  have C5 : Box w5 (w.heap.size + 1) #[.int .i64 p', .int .i64 l', .int .i64 r', .int .i64 a', .int .i64 b', .int .i64 s', .bool h', .int .i64 t', .int .i64 x1', .int .i64 x2', .int .i64 (handN h')] := Box.below C4 hb5
  have E5 : Box w5 (w.heap.size + 2) #[.int .i64 ep, .int .i64 el, .int .i64 ed] := Box.below E4 hb5
  have hB5 : Below w.heap.size w w5 := stepB (by go_grown) hb5
  have hs5 := hB5.size
  have b5c := B5.2.1
  have c5c := C5.2.1
  have e5c := E5.2.1
  clear hb5 G5 B4 C4 E4 hB4 hs4 b4c c4c e4c
  go_wp2_with fail
  refine (turnsLike_any p l r a b s t _ _ h p' l' r' a' b' s' t' _ _ h' _).mono ?_
  rintro e w6 ⟨rfl, hb6⟩
  have hB6 : Below w.heap.size w w6 := stepB (by go_grown) hb6
  clear hb6
  go_wp2
  go_returns
  exact ⟨ret_bool (by simp), hB6⟩

/-- Whether measuring with such errors cannot tell two shapes apart. -/
def alikeB (f g : Form) (ep el ed : Int) : Bool := nearB f.p g.p ep && nearB f.l g.l el && nearB f.r g.r el && nearB f.a g.a ed && nearB f.b g.b ed && tlB f.s f.t f.h g.s g.t g.h

theorem alike_any (p l r a b s t x1 x2 : Int) (h : Bool) (p' l' r' a' b' s' t' x1' x2' : Int) (h' : Bool) (ep el ed : Int) (w : World) (hl1 : limB ⟨p, l, r, a, b, s, h, t⟩ = true) (hl2 : limB ⟨p', l', r', a', b', s', h', t'⟩ = true) (he : (0 ≤ ep ∧ ep ≤ 10000000) ∧ (0 ≤ el ∧ el ≤ 10000000) ∧ (0 ≤ ed ∧ ed ≤ 10000000)) :
    Calls Try.prog 58 #[.agg #[.int .i64 p, .int .i64 l, .int .i64 r, .int .i64 a, .int .i64 b, .int .i64 s, .bool h, .int .i64 t, .int .i64 x1, .int .i64 x2, .int .i64 (handN h)], .agg #[.int .i64 p', .int .i64 l', .int .i64 r', .int .i64 a', .int .i64 b', .int .i64 s', .bool h', .int .i64 t', .int .i64 x1', .int .i64 x2', .int .i64 (handN h')], .agg #[.int .i64 ep, .int .i64 el, .int .i64 ed]] w fun e w' => e = .returned (.bool (alikeB ⟨p, l, r, a, b, s, h, t⟩ ⟨p', l', r', a', b', s', h', t'⟩ ep el ed)) ∧ Below w.heap.size w w' := by
  unfold alikeB
  simp only
  cases g1 : nearB p p' ep
  · exact alike_0 p l r a b s t x1 x2 h p' l' r' a' b' s' t' x1' x2' h' ep el ed w hl1 hl2 he g1
  cases g2 : nearB l l' el
  · exact alike_1 p l r a b s t x1 x2 h p' l' r' a' b' s' t' x1' x2' h' ep el ed w hl1 hl2 he g1 g2
  cases g3 : nearB r r' el
  · exact alike_2 p l r a b s t x1 x2 h p' l' r' a' b' s' t' x1' x2' h' ep el ed w hl1 hl2 he g1 g2 g3
  cases g4 : nearB a a' ed
  · exact alike_3 p l r a b s t x1 x2 h p' l' r' a' b' s' t' x1' x2' h' ep el ed w hl1 hl2 he g1 g2 g3 g4
  cases g5 : nearB b b' ed
  · exact alike_4 p l r a b s t x1 x2 h p' l' r' a' b' s' t' x1' x2' h' ep el ed w hl1 hl2 he g1 g2 g3 g4 g5
  · simpa using alike_5 p l r a b s t x1 x2 h p' l' r' a' b' s' t' x1' x2' h' ep el ed w hl1 hl2 he g1 g2 g3 g4 g5
end Go.Proofs.Ytloleaahelmdjaa
