/- Contract of thread.Room, case by case. -/
import Derived.Test.YtppdbjkbogmpcaaRoom
import Derived.Deep.RegionWith
namespace Go.Proofs.Ytppdbjkbogmpcaa
open Go.RowKit

set_option maxHeartbeats 2000000 in
theorem room_bad1 (p l r a b s t : Int) (h : Bool) (p' l' r' a' b' s' t' : Int) (h' : Bool) (lo hi : Int) (w : World) (hk1 : okB ⟨p, l, r, a, b, s, h, t⟩ = false) :
    Calls Try.prog 68 #[.agg #[.int .i64 p, .int .i64 l, .int .i64 r, .int .i64 a, .int .i64 b, .int .i64 s, .bool h, .int .i64 t], .agg #[.int .i64 p', .int .i64 l', .int .i64 r', .int .i64 a', .int .i64 b', .int .i64 s', .bool h', .int .i64 t'], .agg #[.int .i64 lo, .int .i64 hi]] w fun e w' => e = .returned (.tuple #[.int .i64 0, .int .i64 2]) ∧ Below w.heap.size w w' := by
  have HC1 := Lib.hid (shapeOf_bad p l r a b s t h · hk1)
  clear hk1
  go_enter Try.func68, Try.ntmps68
  go_wp2_with fail
  refine (HC1.out _).mono ?_
  rintro e w1 ⟨rfl, hb1⟩
  have E1 : Box w1 (w.heap.size + 1) #[.int .i64 p', .int .i64 l', .int .i64 r', .int .i64 a', .int .i64 b', .int .i64 s', .bool h', .int .i64 t'] := (Box.alloc (Box.newAt (w.alloc _) _ _ (by simp)) _).below hb1
  have G1 : Box w1 (w.heap.size + 2) #[.int .i64 lo, .int .i64 hi] := (Box.newAt ((w.alloc _).alloc _) _ _ (by simp)).below hb1
  have hB1 : Below w.heap.size w w1 := stepB (by go_grown) hb1
  have hs1 := hB1.size
  have c1 := E1.2.1
  have hz1 := E1.1
  clear hb1 HC1
  unfold shape0
  go_wp2
  go_returns
  exact ⟨rfl, by go_grown⟩

set_option maxHeartbeats 2000000 in
theorem room_bad2 (p l r a b s t : Int) (h : Bool) (p' l' r' a' b' s' t' : Int) (h' : Bool) (lo hi : Int) (w : World) (hk1 : okB ⟨p, l, r, a, b, s, h, t⟩ = true) (hk2 : okB ⟨p', l', r', a', b', s', h', t'⟩ = false) :
    Calls Try.prog 68 #[.agg #[.int .i64 p, .int .i64 l, .int .i64 r, .int .i64 a, .int .i64 b, .int .i64 s, .bool h, .int .i64 t], .agg #[.int .i64 p', .int .i64 l', .int .i64 r', .int .i64 a', .int .i64 b', .int .i64 s', .bool h', .int .i64 t'], .agg #[.int .i64 lo, .int .i64 hi]] w fun e w' => e = .returned (.tuple #[.int .i64 0, .int .i64 2]) ∧ Below w.heap.size w w' := by
  have HC1 := Lib.hid (shapeOf_good p l r a b s t h · hk1)
  have HC2 := Lib.hid (shapeOf_bad p' l' r' a' b' s' t' h' · hk2)
  clear hk1 hk2
  go_enter Try.func68, Try.ntmps68
  go_wp2_with fail
  refine (HC1.out _).mono ?_
  rintro e w1 ⟨rfl, hb1⟩
  have E1 : Box w1 (w.heap.size + 1) #[.int .i64 p', .int .i64 l', .int .i64 r', .int .i64 a', .int .i64 b', .int .i64 s', .bool h', .int .i64 t'] := (Box.alloc (Box.newAt (w.alloc _) _ _ (by simp)) _).below hb1
  have G1 : Box w1 (w.heap.size + 2) #[.int .i64 lo, .int .i64 hi] := (Box.newAt ((w.alloc _).alloc _) _ _ (by simp)).below hb1
  have hB1 : Below w.heap.size w w1 := stepB (by go_grown) hb1
  have hs1 := hB1.size
  have c1 := E1.2.1
  have hz1 := E1.1
  clear hb1 HC1
  unfold shapeV
  go_wp2_with fail
  refine (HC2.out _).mono ?_
  rintro e w2 ⟨rfl, hb2⟩
  have D2 : Box w2 w1.heap.size _ := Box.below (Box.new w1 _ _) hb2
  have G2 : Box w2 (w.heap.size + 2) #[.int .i64 lo, .int .i64 hi] := (Box.alloc G1 _).below hb2
  have hB2 : Below w.heap.size w w2 := stepB (by go_grown) hb2
  have hs2 := hB2.size
  have d2 := D2.2.1
  have hz2 := D2.1
  clear hb2 HC2 E1 G1 hB1 c1 hz1
  unfold shape0
  go_wp2
  go_returns
  exact ⟨rfl, by go_grown⟩

set_option maxHeartbeats 2000000 in
theorem room_pitch (p l r a b s t : Int) (h : Bool) (p' l' r' a' b' s' t' : Int) (h' : Bool) (lo hi : Int) (w : World) (hk1 : okB ⟨p, l, r, a, b, s, h, t⟩ = true) (hk2 : okB ⟨p', l', r', a', b', s', h', t'⟩ = true) (hp : p ≠ p') :
    Calls Try.prog 68 #[.agg #[.int .i64 p, .int .i64 l, .int .i64 r, .int .i64 a, .int .i64 b, .int .i64 s, .bool h, .int .i64 t], .agg #[.int .i64 p', .int .i64 l', .int .i64 r', .int .i64 a', .int .i64 b', .int .i64 s', .bool h', .int .i64 t'], .agg #[.int .i64 lo, .int .i64 hi]] w fun e w' => e = .returned (.tuple #[.int .i64 0, .int .i64 9]) ∧ Below w.heap.size w w' := by
  have HC1 := Lib.hid (shapeOf_good p l r a b s t h · hk1)
  have HC2 := Lib.hid (shapeOf_good p' l' r' a' b' s' t' h' · hk2)
  have q1 : (p != p') = true := by simpa using hp
  have q2 : (p == p') = false := by simpa using hp
  clear hk1 hk2 hp
  go_enter Try.func68, Try.ntmps68
  go_wp2_with fail
  refine (HC1.out _).mono ?_
  rintro e w1 ⟨rfl, hb1⟩
  have E1 : Box w1 (w.heap.size + 1) #[.int .i64 p', .int .i64 l', .int .i64 r', .int .i64 a', .int .i64 b', .int .i64 s', .bool h', .int .i64 t'] := (Box.alloc (Box.newAt (w.alloc _) _ _ (by simp)) _).below hb1
  have G1 : Box w1 (w.heap.size + 2) #[.int .i64 lo, .int .i64 hi] := (Box.newAt ((w.alloc _).alloc _) _ _ (by simp)).below hb1
  have hB1 : Below w.heap.size w w1 := stepB (by go_grown) hb1
  have hs1 := hB1.size
  have c1 := E1.2.1
  have hz1 := E1.1
  clear hb1 HC1
  unfold shapeV
  go_wp2_with fail
  refine (HC2.out _).mono ?_
  rintro e w2 ⟨rfl, hb2⟩
  have D2 : Box w2 w1.heap.size _ := Box.below (Box.new w1 _ _) hb2
  have G2 : Box w2 (w.heap.size + 2) #[.int .i64 lo, .int .i64 hi] := (Box.alloc G1 _).below hb2
  have hB2 : Below w.heap.size w w2 := stepB (by go_grown) hb2
  have hs2 := hB2.size
  have d2 := D2.2.1
  have hz2 := D2.1
  clear hb2 HC2 E1 G1 hB1 c1 hz1
  unfold shapeV
  go_wp2
  go_returns
  exact ⟨rfl, by go_grown⟩

set_option maxHeartbeats 2000000 in
theorem room_turns (p l r a b s t : Int) (h : Bool) (p' l' r' a' b' s' t' : Int) (h' : Bool) (lo hi : Int) (w : World) (hk1 : okB ⟨p, l, r, a, b, s, h, t⟩ = true) (hk2 : okB ⟨p', l', r', a', b', s', h', t'⟩ = true) (hp : p = p') (ht : tlB s t h s' t' h' = false) :
    Calls Try.prog 68 #[.agg #[.int .i64 p, .int .i64 l, .int .i64 r, .int .i64 a, .int .i64 b, .int .i64 s, .bool h, .int .i64 t], .agg #[.int .i64 p', .int .i64 l', .int .i64 r', .int .i64 a', .int .i64 b', .int .i64 s', .bool h', .int .i64 t'], .agg #[.int .i64 lo, .int .i64 hi]] w fun e w' => e = .returned (.tuple #[.int .i64 0, .int .i64 9]) ∧ Below w.heap.size w w' := by
  have HC1 := Lib.hid (shapeOf_good p l r a b s t h · hk1)
  have HC2 := Lib.hid (shapeOf_good p' l' r' a' b' s' t' h' · hk2)
  have q1 : (p != p') = false := by simp [hp]
  have q2 : (p == p') = true := by simp [hp]
  have HT := Lib.hid ht
  clear hk1 hk2 hp ht
  go_enter Try.func68, Try.ntmps68
  go_wp2_with fail
  refine (HC1.out _).mono ?_
  rintro e w1 ⟨rfl, hb1⟩
  have E1 : Box w1 (w.heap.size + 1) #[.int .i64 p', .int .i64 l', .int .i64 r', .int .i64 a', .int .i64 b', .int .i64 s', .bool h', .int .i64 t'] := (Box.alloc (Box.newAt (w.alloc _) _ _ (by simp)) _).below hb1
  have G1 : Box w1 (w.heap.size + 2) #[.int .i64 lo, .int .i64 hi] := (Box.newAt ((w.alloc _).alloc _) _ _ (by simp)).below hb1
  have hB1 : Below w.heap.size w w1 := stepB (by go_grown) hb1
  have hs1 := hB1.size
  have c1 := E1.2.1
  have hz1 := E1.1
  clear hb1 HC1
  unfold shapeV
  go_wp2_with fail
  refine (HC2.out _).mono ?_
  rintro e w2 ⟨rfl, hb2⟩
  have D2 : Box w2 w1.heap.size _ := Box.below (Box.new w1 _ _) hb2
  have G2 : Box w2 (w.heap.size + 2) #[.int .i64 lo, .int .i64 hi] := (Box.alloc G1 _).below hb2
  have hB2 : Below w.heap.size w w2 := stepB (by go_grown) hb2
  have hs2 := hB2.size
  have d2 := D2.2.1
  have hz2 := D2.1
  clear hb2 HC2 E1 G1 hB1 c1 hz1
  unfold shapeV
  go_wp2_with fail
  refine (turnsLike_any p l r a b s t _ _ h p' l' r' a' b' s' t' _ _ h' _).mono ?_
  rintro e w3 ⟨rfl, hb3⟩
  rw [HT.out]
  have D3 : Box w3 w1.heap.size _ := Box.below (Box.alloc D2 _) hb3
  have C3 : Box w3 w2.heap.size _ := Box.below (Box.new w2 _ _) hb3
  have G3 : Box w3 (w.heap.size + 2) #[.int .i64 lo, .int .i64 hi] := (Box.alloc G2 _).below hb3
  have hB3 : Below w.heap.size w w3 := stepB (by go_grown) hb3
  have hs3 := hB3.size
  have d3 := D3.2.1
  have c3 := C3.2.1
  have g3 := G3.2.1
  clear hb3 D2 G2 hB2 d2 hz2 HT
  go_wp2
  go_returns
  exact ⟨rfl, by go_grown⟩

set_option maxHeartbeats 2000000 in
theorem room_range (p l r a b s t : Int) (h : Bool) (p' l' r' a' b' s' t' : Int) (h' : Bool) (lo hi : Int) (w : World) (hk1 : okB ⟨p, l, r, a, b, s, h, t⟩ = true) (hk2 : okB ⟨p', l', r', a', b', s', h', t'⟩ = true) (hp : p = p') (ht : tlB s t h s' t' h' = true) (hv : vspan lo hi (-200000) 200000 = false) :
    Calls Try.prog 68 #[.agg #[.int .i64 p, .int .i64 l, .int .i64 r, .int .i64 a, .int .i64 b, .int .i64 s, .bool h, .int .i64 t], .agg #[.int .i64 p', .int .i64 l', .int .i64 r', .int .i64 a', .int .i64 b', .int .i64 s', .bool h', .int .i64 t'], .agg #[.int .i64 lo, .int .i64 hi]] w fun e w' => e = .returned (.tuple #[.int .i64 0, .int .i64 3]) ∧ Below w.heap.size w w' := by
  have HC1 := Lib.hid (shapeOf_good p l r a b s t h · hk1)
  have HC2 := Lib.hid (shapeOf_good p' l' r' a' b' s' t' h' · hk2)
  have q1 : (p != p') = false := by simp [hp]
  have q2 : (p == p') = true := by simp [hp]
  have HT := Lib.hid ht
  have HV := Lib.hid hv
  clear hk1 hk2 hp ht hv
  go_enter Try.func68, Try.ntmps68
  go_wp2_with fail
  refine (HC1.out _).mono ?_
  rintro e w1 ⟨rfl, hb1⟩
  have E1 : Box w1 (w.heap.size + 1) #[.int .i64 p', .int .i64 l', .int .i64 r', .int .i64 a', .int .i64 b', .int .i64 s', .bool h', .int .i64 t'] := (Box.alloc (Box.newAt (w.alloc _) _ _ (by simp)) _).below hb1
  have G1 : Box w1 (w.heap.size + 2) #[.int .i64 lo, .int .i64 hi] := (Box.newAt ((w.alloc _).alloc _) _ _ (by simp)).below hb1
  have hB1 : Below w.heap.size w w1 := stepB (by go_grown) hb1
  have hs1 := hB1.size
  have c1 := E1.2.1
  have hz1 := E1.1
  clear hb1 HC1
  unfold shapeV
  go_wp2_with fail
  refine (HC2.out _).mono ?_
  rintro e w2 ⟨rfl, hb2⟩
  have D2 : Box w2 w1.heap.size _ := Box.below (Box.new w1 _ _) hb2
  have G2 : Box w2 (w.heap.size + 2) #[.int .i64 lo, .int .i64 hi] := (Box.alloc G1 _).below hb2
  have hB2 : Below w.heap.size w w2 := stepB (by go_grown) hb2
  have hs2 := hB2.size
  have d2 := D2.2.1
  have hz2 := D2.1
  clear hb2 HC2 E1 G1 hB1 c1 hz1
  unfold shapeV
  go_wp2_with fail
  refine (turnsLike_any p l r a b s t _ _ h p' l' r' a' b' s' t' _ _ h' _).mono ?_
  rintro e w3 ⟨rfl, hb3⟩
  rw [HT.out]
  have D3 : Box w3 w1.heap.size _ := Box.below (Box.alloc D2 _) hb3
  have C3 : Box w3 w2.heap.size _ := Box.below (Box.new w2 _ _) hb3
  have G3 : Box w3 (w.heap.size + 2) #[.int .i64 lo, .int .i64 hi] := (Box.alloc G2 _).below hb3
  have hB3 : Below w.heap.size w w3 := stepB (by go_grown) hb3
  have hs3 := hB3.size
  have d3 := D3.2.1
  have c3 := C3.2.1
  have g3 := G3.2.1
  clear hb3 D2 G2 hB2 d2 hz2 HT
  go_wp2_with fail
  refine (validSpan_any lo hi _ _ _).mono ?_
  rintro e w4 ⟨rfl, hb4⟩
  rw [HV.out]
  have D4 : Box w4 w1.heap.size _ := Box.below D3 hb4
  have C4 : Box w4 w2.heap.size _ := Box.below C3 hb4
  have G4 : Box w4 (w.heap.size + 2) #[.int .i64 lo, .int .i64 hi] := G3.below hb4
  have hB4 : Below w.heap.size w w4 := stepB (by go_grown) hb4
  have hs4 := hB4.size
  have d4 := D4.2.1
  have c4 := C4.2.1
  have g4 := G4.2.1
  clear hb4 D3 C3 G3 hB3 d3 c3 g3 HV
  go_wp2
  go_returns
  exact ⟨rfl, by go_grown⟩

set_option maxHeartbeats 2000000 in
theorem room_zero (p l r a b s t : Int) (h : Bool) (p' l' r' a' b' s' t' : Int) (h' : Bool) (lo hi : Int) (w : World) (hk1 : okB ⟨p, l, r, a, b, s, h, t⟩ = true) (hk2 : okB ⟨p', l', r', a', b', s', h', t'⟩ = true) (hp : p = p') (ht : tlB s t h s' t' h' = true) (hv : vspan lo hi (-200000) 200000 = true) (hn : ovl lo hi l l' + ovl lo hi r r' ≤ 0) :
    Calls Try.prog 68 #[.agg #[.int .i64 p, .int .i64 l, .int .i64 r, .int .i64 a, .int .i64 b, .int .i64 s, .bool h, .int .i64 t], .agg #[.int .i64 p', .int .i64 l', .int .i64 r', .int .i64 a', .int .i64 b', .int .i64 s', .bool h', .int .i64 t'], .agg #[.int .i64 lo, .int .i64 hi]] w fun e w' => e = .returned (.tuple #[.int .i64 0, .int .i64 0]) ∧ Below w.heap.size w w' := by
  have HC1 := Lib.hid (shapeOf_good p l r a b s t h · hk1)
  have HC2 := Lib.hid (shapeOf_good p' l' r' a' b' s' t' h' · hk2)
  obtain ⟨⟨p0, p1⟩, ⟨l0, l1⟩, ⟨r0, r1⟩, ⟨a0, a1⟩, ⟨b0, b1⟩, ⟨s0, s1⟩, t0, t1⟩ := lim_iff.1 (ok_lim hk1)
  simp only at p0 p1 l0 l1 r0 r1 a0 a1 b0 b1 s0 s1 t0 t1
  obtain ⟨⟨p0', p1'⟩, ⟨l0', l1'⟩, ⟨r0', r1'⟩, ⟨a0', a1'⟩, ⟨b0', b1'⟩, ⟨s0', s1'⟩, t0', t1'⟩ := lim_iff.1 (ok_lim hk2)
  simp only at p0' p1' l0' l1' r0' r1' a0' a1' b0' b1' s0' s1' t0' t1'
  clear a0 a1 b0 b1 s0 s1 t0 t1 a0' a1' b0' b1' s0' s1' t0' t1' p0 p1 p0' p1'
  have q1 : (p != p') = false := by simp [hp]
  have q2 : (p == p') = true := by simp [hp]
  have HT := Lib.hid ht
  have hin : -200000 ≤ lo ∧ lo ≤ hi ∧ hi ≤ 200000 := by simpa [vspan] using hv
  obtain ⟨n0, n1⟩ := ovl_bd (x := l) (y := l') ⟨l0, l1⟩ ⟨l0', l1'⟩ (lo := lo) (hi := hi) ⟨by omega, by omega⟩ ⟨by omega, by omega⟩
  obtain ⟨n2, n3⟩ := ovl_bd (x := r) (y := r') ⟨r0, r1⟩ ⟨r0', r1'⟩ (lo := lo) (hi := hi) ⟨by omega, by omega⟩ ⟨by omega, by omega⟩
  obtain ⟨i0, i1, i2⟩ := hin
  have HV := Lib.hid hv
  clear hk1 hk2 hp ht hv
  go_enter Try.func68, Try.ntmps68
  go_wp2_with fail
  refine (HC1.out _).mono ?_
  rintro e w1 ⟨rfl, hb1⟩
  have E1 : Box w1 (w.heap.size + 1) #[.int .i64 p', .int .i64 l', .int .i64 r', .int .i64 a', .int .i64 b', .int .i64 s', .bool h', .int .i64 t'] := (Box.alloc (Box.newAt (w.alloc _) _ _ (by simp)) _).below hb1
  have G1 : Box w1 (w.heap.size + 2) #[.int .i64 lo, .int .i64 hi] := (Box.newAt ((w.alloc _).alloc _) _ _ (by simp)).below hb1
  have hB1 : Below w.heap.size w w1 := stepB (by go_grown) hb1
  have hs1 := hB1.size
  have c1 := E1.2.1
  have hz1 := E1.1
  clear hb1 HC1
  unfold shapeV
  go_wp2_with fail
  refine (HC2.out _).mono ?_
  rintro e w2 ⟨rfl, hb2⟩
  have D2 : Box w2 w1.heap.size _ := Box.below (Box.new w1 _ _) hb2
  have G2 : Box w2 (w.heap.size + 2) #[.int .i64 lo, .int .i64 hi] := (Box.alloc G1 _).below hb2
  have hB2 : Below w.heap.size w w2 := stepB (by go_grown) hb2
  have hs2 := hB2.size
  have d2 := D2.2.1
  have hz2 := D2.1
  clear hb2 HC2 E1 G1 hB1 c1 hz1
  unfold shapeV
  go_wp2_with fail
  refine (turnsLike_any p l r a b s t _ _ h p' l' r' a' b' s' t' _ _ h' _).mono ?_
  rintro e w3 ⟨rfl, hb3⟩
  rw [HT.out]
  have D3 : Box w3 w1.heap.size _ := Box.below (Box.alloc D2 _) hb3
  have C3 : Box w3 w2.heap.size _ := Box.below (Box.new w2 _ _) hb3
  have G3 : Box w3 (w.heap.size + 2) #[.int .i64 lo, .int .i64 hi] := (Box.alloc G2 _).below hb3
  have hB3 : Below w.heap.size w w3 := stepB (by go_grown) hb3
  have hs3 := hB3.size
  have d3 := D3.2.1
  have c3 := C3.2.1
  have g3 := G3.2.1
  clear hb3 D2 G2 hB2 d2 hz2 HT
  go_wp2_with fail
  refine (validSpan_any lo hi _ _ _).mono ?_
  rintro e w4 ⟨rfl, hb4⟩
  rw [HV.out]
  have D4 : Box w4 w1.heap.size _ := Box.below D3 hb4
  have C4 : Box w4 w2.heap.size _ := Box.below C3 hb4
  have G4 : Box w4 (w.heap.size + 2) #[.int .i64 lo, .int .i64 hi] := G3.below hb4
  have hB4 : Below w.heap.size w w4 := stepB (by go_grown) hb4
  have hs4 := hB4.size
  have d4 := D4.2.1
  have c4 := C4.2.1
  have g4 := G4.2.1
  clear hb4 D3 C3 G3 hB3 d3 c3 g3 HV
  go_wp2
  go_quiet (first
    | (go_at_call_of 124 (Value.int IntKind.i64 l); exact Calls.quiet_of_same (overlap_any l l' lo hi (w.heap.size + 2) _ (by go_cell) (by go_cell) ⟨by omega, by omega⟩ ⟨by omega, by omega⟩ ⟨by omega, by omega⟩ ⟨by omega, by omega⟩))
    | (go_at_call_of 124 (Value.int IntKind.i64 r); exact Calls.quiet_of_same (overlap_any r r' lo hi (w.heap.size + 2) _ (by go_cell) (by go_cell) ⟨by omega, by omega⟩ ⟨by omega, by omega⟩ ⟨by omega, by omega⟩ ⟨by omega, by omega⟩)))
  go_wp2
  go_returns
  exact ⟨rfl, hB4.trans (below_drewN _ _ _)⟩

set_option maxHeartbeats 2000000 in
theorem room_none (p l r a b s t : Int) (h : Bool) (p' l' r' a' b' s' t' : Int) (h' : Bool) (lo hi : Int) (w : World) (hk1 : okB ⟨p, l, r, a, b, s, h, t⟩ = true) (hk2 : okB ⟨p', l', r', a', b', s', h', t'⟩ = true) (hp : p = p') (ht : tlB s t h s' t' h' = true) (hv : vspan lo hi (-200000) 200000 = true) (hn : 1 ≤ ovl lo hi l l' + ovl lo hi r r') (hl : l + r = 0) :
    Calls Try.prog 68 #[.agg #[.int .i64 p, .int .i64 l, .int .i64 r, .int .i64 a, .int .i64 b, .int .i64 s, .bool h, .int .i64 t], .agg #[.int .i64 p', .int .i64 l', .int .i64 r', .int .i64 a', .int .i64 b', .int .i64 s', .bool h', .int .i64 t'], .agg #[.int .i64 lo, .int .i64 hi]] w fun e w' => e = .returned (.tuple #[.int .i64 0, .int .i64 7]) ∧ Below w.heap.size w w' := by
  have HC1 := Lib.hid (shapeOf_good p l r a b s t h · hk1)
  have HC2 := Lib.hid (shapeOf_good p' l' r' a' b' s' t' h' · hk2)
  obtain ⟨⟨p0, p1⟩, ⟨l0, l1⟩, ⟨r0, r1⟩, ⟨a0, a1⟩, ⟨b0, b1⟩, ⟨s0, s1⟩, t0, t1⟩ := lim_iff.1 (ok_lim hk1)
  simp only at p0 p1 l0 l1 r0 r1 a0 a1 b0 b1 s0 s1 t0 t1
  obtain ⟨⟨p0', p1'⟩, ⟨l0', l1'⟩, ⟨r0', r1'⟩, ⟨a0', a1'⟩, ⟨b0', b1'⟩, ⟨s0', s1'⟩, t0', t1'⟩ := lim_iff.1 (ok_lim hk2)
  simp only at p0' p1' l0' l1' r0' r1' a0' a1' b0' b1' s0' s1' t0' t1'
  clear a0 a1 b0 b1 s0 s1 t0 t1 a0' a1' b0' b1' s0' s1' t0' t1' p0 p1 p0' p1'
  have q1 : (p != p') = false := by simp [hp]
  have q2 : (p == p') = true := by simp [hp]
  have HT := Lib.hid ht
  have hin : -200000 ≤ lo ∧ lo ≤ hi ∧ hi ≤ 200000 := by simpa [vspan] using hv
  obtain ⟨n0, n1⟩ := ovl_bd (x := l) (y := l') ⟨l0, l1⟩ ⟨l0', l1'⟩ (lo := lo) (hi := hi) ⟨by omega, by omega⟩ ⟨by omega, by omega⟩
  obtain ⟨n2, n3⟩ := ovl_bd (x := r) (y := r') ⟨r0, r1⟩ ⟨r0', r1'⟩ (lo := lo) (hi := hi) ⟨by omega, by omega⟩ ⟨by omega, by omega⟩
  obtain ⟨i0, i1, i2⟩ := hin
  have HV := Lib.hid hv
  clear hk1 hk2 hp ht hv
  have q4 : ((l + r : Int) == 0) = true := by rw [hl]; rfl
  clear hl
  go_enter Try.func68, Try.ntmps68
  go_wp2_with fail
  refine (HC1.out _).mono ?_
  rintro e w1 ⟨rfl, hb1⟩
  have E1 : Box w1 (w.heap.size + 1) #[.int .i64 p', .int .i64 l', .int .i64 r', .int .i64 a', .int .i64 b', .int .i64 s', .bool h', .int .i64 t'] := (Box.alloc (Box.newAt (w.alloc _) _ _ (by simp)) _).below hb1
  have G1 : Box w1 (w.heap.size + 2) #[.int .i64 lo, .int .i64 hi] := (Box.newAt ((w.alloc _).alloc _) _ _ (by simp)).below hb1
  have hB1 : Below w.heap.size w w1 := stepB (by go_grown) hb1
  have hs1 := hB1.size
  have c1 := E1.2.1
  have hz1 := E1.1
  clear hb1 HC1
  unfold shapeV
  go_wp2_with fail
  refine (HC2.out _).mono ?_
  rintro e w2 ⟨rfl, hb2⟩
  have D2 : Box w2 w1.heap.size _ := Box.below (Box.new w1 _ _) hb2
  have G2 : Box w2 (w.heap.size + 2) #[.int .i64 lo, .int .i64 hi] := (Box.alloc G1 _).below hb2
  have hB2 : Below w.heap.size w w2 := stepB (by go_grown) hb2
  have hs2 := hB2.size
  have d2 := D2.2.1
  have hz2 := D2.1
  clear hb2 HC2 E1 G1 hB1 c1 hz1
  unfold shapeV
  go_wp2_with fail
  refine (turnsLike_any p l r a b s t _ _ h p' l' r' a' b' s' t' _ _ h' _).mono ?_
  rintro e w3 ⟨rfl, hb3⟩
  rw [HT.out]
  have D3 : Box w3 w1.heap.size _ := Box.below (Box.alloc D2 _) hb3
  have C3 : Box w3 w2.heap.size _ := Box.below (Box.new w2 _ _) hb3
  have G3 : Box w3 (w.heap.size + 2) #[.int .i64 lo, .int .i64 hi] := (Box.alloc G2 _).below hb3
  have hB3 : Below w.heap.size w w3 := stepB (by go_grown) hb3
  have hs3 := hB3.size
  have d3 := D3.2.1
  have c3 := C3.2.1
  have g3 := G3.2.1
  clear hb3 D2 G2 hB2 d2 hz2 HT
  go_wp2_with fail
  refine (validSpan_any lo hi _ _ _).mono ?_
  rintro e w4 ⟨rfl, hb4⟩
  rw [HV.out]
  have D4 : Box w4 w1.heap.size _ := Box.below D3 hb4
  have C4 : Box w4 w2.heap.size _ := Box.below C3 hb4
  have G4 : Box w4 (w.heap.size + 2) #[.int .i64 lo, .int .i64 hi] := G3.below hb4
  have hB4 : Below w.heap.size w w4 := stepB (by go_grown) hb4
  have hs4 := hB4.size
  have d4 := D4.2.1
  have c4 := C4.2.1
  have g4 := G4.2.1
  clear hb4 D3 C3 G3 hB3 d3 c3 g3 HV
  go_wp2
  go_quiet (first
    | (go_at_call_of 124 (Value.int IntKind.i64 l); exact Calls.quiet_of_same (overlap_any l l' lo hi (w.heap.size + 2) _ (by go_cell) (by go_cell) ⟨by omega, by omega⟩ ⟨by omega, by omega⟩ ⟨by omega, by omega⟩ ⟨by omega, by omega⟩))
    | (go_at_call_of 124 (Value.int IntKind.i64 r); exact Calls.quiet_of_same (overlap_any r r' lo hi (w.heap.size + 2) _ (by go_cell) (by go_cell) ⟨by omega, by omega⟩ ⟨by omega, by omega⟩ ⟨by omega, by omega⟩ ⟨by omega, by omega⟩)))
  go_wp2
  go_returns
  exact ⟨rfl, hB4.trans (below_drewN _ _ _)⟩

set_option maxHeartbeats 2000000 in
theorem room_good (p l r a b s t : Int) (h : Bool) (p' l' r' a' b' s' t' : Int) (h' : Bool) (lo hi : Int) (w : World) (hk1 : okB ⟨p, l, r, a, b, s, h, t⟩ = true) (hk2 : okB ⟨p', l', r', a', b', s', h', t'⟩ = true) (hp : p = p') (ht : tlB s t h s' t' h' = true) (hv : vspan lo hi (-200000) 200000 = true) (hn : 1 ≤ ovl lo hi l l' + ovl lo hi r r') (hl : l + r ≠ 0) :
    Calls Try.prog 68 #[.agg #[.int .i64 p, .int .i64 l, .int .i64 r, .int .i64 a, .int .i64 b, .int .i64 s, .bool h, .int .i64 t], .agg #[.int .i64 p', .int .i64 l', .int .i64 r', .int .i64 a', .int .i64 b', .int .i64 s', .bool h', .int .i64 t'], .agg #[.int .i64 lo, .int .i64 hi]] w fun e w' => e = .returned (.tuple #[.int .i64 (upTo (ovl lo hi l l' + ovl lo hi r r') (l + r)), .int .i64 0]) ∧ Below w.heap.size w w' := by
  have HC1 := Lib.hid (shapeOf_good p l r a b s t h · hk1)
  have HC2 := Lib.hid (shapeOf_good p' l' r' a' b' s' t' h' · hk2)
  obtain ⟨⟨p0, p1⟩, ⟨l0, l1⟩, ⟨r0, r1⟩, ⟨a0, a1⟩, ⟨b0, b1⟩, ⟨s0, s1⟩, t0, t1⟩ := lim_iff.1 (ok_lim hk1)
  simp only at p0 p1 l0 l1 r0 r1 a0 a1 b0 b1 s0 s1 t0 t1
  obtain ⟨⟨p0', p1'⟩, ⟨l0', l1'⟩, ⟨r0', r1'⟩, ⟨a0', a1'⟩, ⟨b0', b1'⟩, ⟨s0', s1'⟩, t0', t1'⟩ := lim_iff.1 (ok_lim hk2)
  simp only at p0' p1' l0' l1' r0' r1' a0' a1' b0' b1' s0' s1' t0' t1'
  clear a0 a1 b0 b1 s0 s1 t0 t1 a0' a1' b0' b1' s0' s1' t0' t1' p0 p1 p0' p1'
  have q1 : (p != p') = false := by simp [hp]
  have q2 : (p == p') = true := by simp [hp]
  have HT := Lib.hid ht
  have hin : -200000 ≤ lo ∧ lo ≤ hi ∧ hi ≤ 200000 := by simpa [vspan] using hv
  obtain ⟨n0, n1⟩ := ovl_bd (x := l) (y := l') ⟨l0, l1⟩ ⟨l0', l1'⟩ (lo := lo) (hi := hi) ⟨by omega, by omega⟩ ⟨by omega, by omega⟩
  obtain ⟨n2, n3⟩ := ovl_bd (x := r) (y := r') ⟨r0, r1⟩ ⟨r0', r1'⟩ (lo := lo) (hi := hi) ⟨by omega, by omega⟩ ⟨by omega, by omega⟩
  obtain ⟨i0, i1, i2⟩ := hin
  have HV := Lib.hid hv
  clear hk1 hk2 hp ht hv
  have q4 : ((l + r : Int) == 0) = false := by simpa using hl
  have q5 : 1 ≤ l + r := by omega
  clear hl
  go_enter Try.func68, Try.ntmps68
  go_wp2_with fail
  refine (HC1.out _).mono ?_
  rintro e w1 ⟨rfl, hb1⟩
  have E1 : Box w1 (w.heap.size + 1) #[.int .i64 p', .int .i64 l', .int .i64 r', .int .i64 a', .int .i64 b', .int .i64 s', .bool h', .int .i64 t'] := (Box.alloc (Box.newAt (w.alloc _) _ _ (by simp)) _).below hb1
  have G1 : Box w1 (w.heap.size + 2) #[.int .i64 lo, .int .i64 hi] := (Box.newAt ((w.alloc _).alloc _) _ _ (by simp)).below hb1
  have hB1 : Below w.heap.size w w1 := stepB (by go_grown) hb1
  have hs1 := hB1.size
  have c1 := E1.2.1
  have hz1 := E1.1
  clear hb1 HC1
  unfold shapeV
  go_wp2_with fail
  refine (HC2.out _).mono ?_
  rintro e w2 ⟨rfl, hb2⟩
  have D2 : Box w2 w1.heap.size _ := Box.below (Box.new w1 _ _) hb2
  have G2 : Box w2 (w.heap.size + 2) #[.int .i64 lo, .int .i64 hi] := (Box.alloc G1 _).below hb2
  have hB2 : Below w.heap.size w w2 := stepB (by go_grown) hb2
  have hs2 := hB2.size
  have d2 := D2.2.1
  have hz2 := D2.1
  clear hb2 HC2 E1 G1 hB1 c1 hz1
  unfold shapeV
  go_wp2_with fail
  refine (turnsLike_any p l r a b s t _ _ h p' l' r' a' b' s' t' _ _ h' _).mono ?_
  rintro e w3 ⟨rfl, hb3⟩
  rw [HT.out]
  have D3 : Box w3 w1.heap.size _ := Box.below (Box.alloc D2 _) hb3
  have C3 : Box w3 w2.heap.size _ := Box.below (Box.new w2 _ _) hb3
  have G3 : Box w3 (w.heap.size + 2) #[.int .i64 lo, .int .i64 hi] := (Box.alloc G2 _).below hb3
  have hB3 : Below w.heap.size w w3 := stepB (by go_grown) hb3
  have hs3 := hB3.size
  have d3 := D3.2.1
  have c3 := C3.2.1
  have g3 := G3.2.1
  clear hb3 D2 G2 hB2 d2 hz2 HT
  go_wp2_with fail
  refine (validSpan_any lo hi _ _ _).mono ?_
  rintro e w4 ⟨rfl, hb4⟩
  rw [HV.out]
  have D4 : Box w4 w1.heap.size _ := Box.below D3 hb4
  have C4 : Box w4 w2.heap.size _ := Box.below C3 hb4
  have G4 : Box w4 (w.heap.size + 2) #[.int .i64 lo, .int .i64 hi] := G3.below hb4
  have hB4 : Below w.heap.size w w4 := stepB (by go_grown) hb4
  have hs4 := hB4.size
  have d4 := D4.2.1
  have c4 := C4.2.1
  have g4 := G4.2.1
  clear hb4 D3 C3 G3 hB3 d3 c3 g3 HV
  go_wp2
  go_quiet (first
    | (go_at_call_of 124 (Value.int IntKind.i64 l); exact Calls.quiet_of_same (overlap_any l l' lo hi (w.heap.size + 2) _ (by go_cell) (by go_cell) ⟨by omega, by omega⟩ ⟨by omega, by omega⟩ ⟨by omega, by omega⟩ ⟨by omega, by omega⟩))
    | (go_at_call_of 124 (Value.int IntKind.i64 r); exact Calls.quiet_of_same (overlap_any r r' lo hi (w.heap.size + 2) _ (by go_cell) (by go_cell) ⟨by omega, by omega⟩ ⟨by omega, by omega⟩ ⟨by omega, by omega⟩ ⟨by omega, by omega⟩)))
  go_wp2_with fail
  refine (roundUp_any _ _ _ (by omega) (by omega) (by omega) (by omega)).mono ?_
  rintro e w5 ⟨rfl, rfl⟩
  go_wp2
  go_returns
  exact ⟨rfl, hB4.trans (below_drewN _ _ _)⟩
end Go.Proofs.Ytppdbjkbogmpcaa
