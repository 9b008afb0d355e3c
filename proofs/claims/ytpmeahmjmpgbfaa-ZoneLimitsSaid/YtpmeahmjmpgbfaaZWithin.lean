/- Contract of zone.Within. Made by tools/gen_zcheck.py. -/
import Derived.Test.YtpmeahmjmpgbfaaZJoin
namespace Go.Proofs.Ytpmeahmjmpgbfaa
open Go.RowKit Go.Sort
set_option linter.unusedVariables false
set_option linter.unusedSimpArgs false

theorem Box.belowAt {w w' : World} {g n : Nat} {cs : Array Value} (h : Box w g cs) (hb : Below n w w') (hg : g < n) : Box w' g cs :=
  ⟨Nat.lt_of_lt_of_le h.1 hb.size, fun i => (hb.cell (p := ⟨g, i, none⟩) hg).trans (h.2.1 i), fun i => (hb.frozen (p := ⟨g, i, none⟩) hg).trans (h.2.2 i)⟩

set_option maxRecDepth 100000 in
set_option maxHeartbeats 2000000 in
theorem within_0 (w : World) (nut : Bool) (a1 a2 b1 b2 : Int) (ss : List Int) (gs ps : List (List Int)) (sa ga pa : Option Addr) (sc gc pc : Nat) (k : Int) (h1 : (k == 0) = false) (h2 : (k != 0) = true) (HK : Hid (∀ W : World, Below w.heap.size w W → Calls Try.prog 29 #[.agg #[.slice sa ss.length sc, .slice ga gs.length gc, .slice pa ps.length pc]] W fun e w' => e = .returned (.int .i64 k) ∧ Below W.heap.size W w')) :
    Calls Try.prog 51 #[.agg #[.slice sa ss.length sc, .slice ga gs.length gc, .slice pa ps.length pc], .agg #[.int .i64 a1, .int .i64 a2], .agg #[.int .i64 b1, .int .i64 b2], .bool nut] w fun e w' => e = .returned (.tuple #[.slice none 0 0, .int .i64 k]) ∧ Below w.heap.size w w' := by
  go_enter Try.func51, Try.ntmps51
  go_wp2_with fail
  refine (HK.out _ (by go_grown)).mono ?_
  rintro e w1 ⟨rfl, hb1⟩
  have hB1 : Below w.heap.size w w1 := stepB (by go_grown) hb1
  have hs1 := hB1.size
  clear hb1
  go_wp2
  go_returns
  exact ⟨rfl, hB1⟩

set_option maxRecDepth 100000 in
set_option maxHeartbeats 2000000 in
theorem within_1 (w : World) (nut : Bool) (a1 a2 b1 b2 : Int) (ss : List Int) (gs ps : List (List Int)) (sa ga pa : Option Addr) (sc gc pc : Nat) (HK : Hid (∀ W : World, Below w.heap.size w W → Calls Try.prog 29 #[.agg #[.slice sa ss.length sc, .slice ga gs.length gc, .slice pa ps.length pc]] W fun e w' => e = .returned (.int .i64 0) ∧ Below W.heap.size W w')) (HH : Hid (∀ (W : World) (b : Nat), Below w.heap.size w W → b < W.heap.size → W.cell? ⟨b, 0, none⟩ = some (.int .i64 a1) → W.cell? ⟨b, 1, none⟩ = some (.int .i64 a2) → W.cell? ⟨b, 2, none⟩ = some (.int .i64 b1) → W.cell? ⟨b, 3, none⟩ = some (.int .i64 b2) → Calls Try.prog 94 #[.agg #[.slice sa ss.length sc, .slice ga gs.length gc, .slice pa ps.length pc], .slice (some ⟨b, 0, none⟩) 2 2] W fun e w' => e = .returned (.bool false) ∧ Below W.heap.size W w')) :
    Calls Try.prog 51 #[.agg #[.slice sa ss.length sc, .slice ga gs.length gc, .slice pa ps.length pc], .agg #[.int .i64 a1, .int .i64 a2], .agg #[.int .i64 b1, .int .i64 b2], .bool nut] w fun e w' => e = .returned (.tuple #[.slice none 0 0, .int .i64 7]) ∧ Below w.heap.size w w' := by
  go_enter Try.func51, Try.ntmps51
  go_wp2_with fail
  refine (HK.out _ (by go_grown)).mono ?_
  rintro e w1 ⟨rfl, hb1⟩
  have Xb4_1 : Box w1 w.heap.size #[.slice sa ss.length sc, .slice ga gs.length gc, .slice pa ps.length pc] := Box.below (Box.alloc (Box.alloc (Box.new w _ _) _) _) hb1
  have Xb5_1 : Box w1 (w.heap.size + 1) #[.int .i64 a1, .int .i64 a2] := Box.below (Box.alloc (Box.newAt (w.alloc _) _ _ (by simp)) _) hb1
  have Xb6_1 : Box w1 (w.heap.size + 1 + 1) #[.int .i64 b1, .int .i64 b2] := Box.below (Box.newAt ((w.alloc _).alloc _) _ _ (by simp)) hb1
  have hB1 : Below w.heap.size w w1 := stepB (by go_grown) hb1
  have hs1 := hB1.size
  clear hb1
  have cc4 := Xb4_1.2.1
  have ll4 := Xb4_1.1
  have cc5 := Xb5_1.2.1
  have ll5 := Xb5_1.1
  have lm5_0 : w.heap.size < w1.heap.size := by have := ll5; omega
  have cc6 := Xb6_1.2.1
  have ll6 := Xb6_1.1
  have lm6_0 : w.heap.size < w1.heap.size := by have := ll6; omega
  have lm6_1 : w.heap.size + 1 < w1.heap.size := by have := ll6; omega
  go_wp2_with fail
  refine (HH.out _ _ (by go_grown) (by simp) (by go_cell) (by go_cell) (by go_cell) (by go_cell)).mono ?_
  rintro e w2 ⟨rfl, hb2⟩
  have hB2 : Below w.heap.size w w2 := stepB (by go_grown) hb2
  have hs2 := hB2.size
  clear hb2 hB1 hs1 Xb4_1 Xb5_1 Xb6_1 cc4 ll4 cc5 ll5 lm5_0 cc6 ll6 lm6_0 lm6_1
  go_wp2
  go_returns
  exact ⟨rfl, hB2⟩

/-- The sizes for which one zone lies within another one, of the first k steps. -/
def withL (ss : List Int) (gs ps : List (List Int)) (nut : Bool) (a1 a2 b1 b2 : Int) : Nat → List (Int × Int)
  | 0 => []
  | k + 1 => if lies (zoLo nut (ss[k]?.getD 0) (numN ps a1 k) (numN gs a2 k)) (zoHi nut (ss[k]?.getD 0) (numN ps a1 k) (numN gs a2 k)) (zoLo nut (ss[k]?.getD 0) (numN ps b1 k) (numN gs b2 k)) (zoHi nut (ss[k]?.getD 0) (numN ps b1 k) (numN gs b2 k)) = true then joinL (withL ss gs ps nut a1 a2 b1 b2 k) (lastOf 0 ss k + 1, ss[k]?.getD 0) else withL ss gs ps nut a1 a2 b1 b2 k

theorem joinL_mem {l : List (Int × Int)} {x z : Int × Int} (h : z ∈ joinL l x) : z ∈ l ∨ z.2 = x.2 := by
  rcases List.eq_nil_or_concat l with rfl | ⟨l', y, rfl⟩
  · rw [joinL_nil] at h; simp at h; subst h; exact .inr rfl
  · rw [List.concat_eq_append] at *
    by_cases e : y.2 + 1 = x.1
    · rw [joinL_eq e] at h; simp at h
      rcases h with h | h
      · exact .inl (by simp [h])
      · subst h; exact .inr rfl
    · rw [joinL_ne e] at h
      simp at h
      rcases h with h | h | h
      · exact .inl (by simp [h])
      · exact .inl (by simp [h])
      · subst h; exact .inr rfl
theorem withL_len (ss : List Int) (gs ps : List (List Int)) (nut : Bool) (a1 a2 b1 b2 : Int) : ∀ k, (withL ss gs ps nut a1 a2 b1 b2 k).length ≤ k := by
  intro k
  induction k with
  | zero => simp [withL]
  | succ k ih =>
    unfold withL
    split
    · have := joinL_len (withL ss gs ps nut a1 a2 b1 b2 k) (lastOf 0 ss k + 1, ss[k]?.getD 0); omega
    · omega
theorem withL_mem (ss : List Int) (gs ps : List (List Int)) (nut : Bool) (a1 a2 b1 b2 : Int) (hst : ∀ s ∈ ss, 0 < s ∧ s ≤ 10000000) : ∀ k, k ≤ ss.length → ∀ z ∈ withL ss gs ps nut a1 a2 b1 b2 k, 0 < z.2 ∧ z.2 ≤ 10000000 := by
  intro k
  induction k with
  | zero => intro _ z hz; simp [withL] at hz
  | succ k ih =>
    intro hk z hz
    unfold withL at hz
    split at hz
    · rcases joinL_mem hz with h | h
      · exact ih (by omega) z h
      · rw [h]
        have : ss[k]?.getD 0 = ss[k] := by rw [List.getElem?_eq_getElem (by omega)]; rfl
        simp only [this]
        exact hst _ (List.getElem_mem _)
    · exact ih (by omega) z hz

def WithP (ss : List Int) (gs ps : List (List Int)) (nut : Bool) (a1 a2 b1 b2 : Int) (w : World) (e : Ending) (w' : World) : Prop := Below w.heap.size w w' ∧
  ((checkN ss gs ps ≠ 0 ∧ e = .returned (.tuple #[.slice none 0 0, .int .i64 (checkN ss gs ps)])) ∨
   (checkN ss gs ps = 0 ∧ (classB gs ps (a1, a2) && classB gs ps (b1, b2)) = false ∧ e = .returned (.tuple #[.slice none 0 0, .int .i64 7])) ∨
   (checkN ss gs ps = 0 ∧ (classB gs ps (a1, a2) && classB gs ps (b1, b2)) = true ∧ ∃ v, e = .returned (.tuple #[v, .int .i64 0]) ∧ SpansOwn w.heap.size w' v (withL ss gs ps nut a1 a2 b1 b2 ss.length)))

set_option maxRecDepth 100000 in
set_option maxHeartbeats 6000000 in
theorem within_way (w : World) (nut : Bool) (a1 a2 b1 b2 : Int) (ss : List Int) (gs ps : List (List Int)) (sa ga pa : Option Addr) (sc gc pc : Nat) (m1 : ss.length ≤ 4611686018427387904) (m2 : gs.length ≤ 4611686018427387904) (m3 : ps.length ≤ 4611686018427387904) (hs : SlA IntE w sa ss) (hg : SlA IntsAt w ga gs) (hp : SlA IntsAt w pa ps) (HK : Hid (∀ W : World, Below w.heap.size w W → Calls Try.prog 29 #[.agg #[.slice sa ss.length sc, .slice ga gs.length gc, .slice pa ps.length pc]] W fun e w' => e = .returned (.int .i64 0) ∧ Below W.heap.size W w')) (HH : Hid (∀ (W : World) (b : Nat), Below w.heap.size w W → b < W.heap.size → W.cell? ⟨b, 0, none⟩ = some (.int .i64 a1) → W.cell? ⟨b, 1, none⟩ = some (.int .i64 a2) → W.cell? ⟨b, 2, none⟩ = some (.int .i64 b1) → W.cell? ⟨b, 3, none⟩ = some (.int .i64 b2) → Calls Try.prog 94 #[.agg #[.slice sa ss.length sc, .slice ga gs.length gc, .slice pa ps.length pc], .slice (some ⟨b, 0, none⟩) 2 2] W fun e w' => e = .returned (.bool true) ∧ Below W.heap.size W w')) (hc : checkN ss gs ps = 0) (ha : classB gs ps (a1, a2) = true) (hb : classB gs ps (b1, b2) = true) :
    Calls Try.prog 51 #[.agg #[.slice sa ss.length sc, .slice ga gs.length gc, .slice pa ps.length pc], .agg #[.int .i64 a1, .int .i64 a2], .agg #[.int .i64 b1, .int .i64 b2], .bool nut] w fun e w' => (∃ v, e = .returned (.tuple #[v, .int .i64 0]) ∧ SpansOwn w.heap.size w' v (withL ss gs ps nut a1 a2 b1 b2 ss.length)) ∧ Below w.heap.size w w' := by
  obtain ⟨⟨hl20, -, -⟩, -, hst, -⟩ := check_parts hc
  have hst1 := (steps_parts hst).1
  have hpos := (steps_parts hst).2
  have hgt := stepsFrom_gt ss 0 hst1
  have HZ := Lib.hid (fun (W : World) (hB : Below w.heap.size w W) (c1 c2 size : Int) (k : Nat) (hcl : classB gs ps (c1, c2) = true) (hk : k < ss.length) (z0 : 0 ≤ size) (z1 : size ≤ 10000000) => zoneOf_any nut c1 c2 size k ss gs ps sa ga pa sc gc pc W m1 m2 m3 (hs.below intE_stable hB) (hg.below ints_stable hB) (hp.below ints_stable hB) hc hcl hk z0 z1)
  have HM := Lib.hid (withL_mem ss gs ps nut a1 a2 b1 b2 hgt)
  have HLn := Lib.hid (withL_len ss gs ps nut a1 a2 b1 b2)
  have HGT := Lib.hid hgt
  have HA := Lib.hid ha
  have HBb := Lib.hid hb
  rcases hs with rfl | ⟨bs, offs, rfl, hbs, hcs⟩
  · simp at hpos
  have HCS := Lib.hid hcs
  clear hcs hgt ha hb hg hp hst hst1 hpos hc
  go_enter Try.func51, Try.ntmps51
  go_wp2_with fail
  refine (HK.out _ (by go_grown)).mono ?_
  rintro e w1 ⟨rfl, hb1⟩
  have Xb4_1 : Box w1 w.heap.size #[.slice (some ⟨bs, offs, none⟩) ss.length sc, .slice ga gs.length gc, .slice pa ps.length pc] := Box.below (Box.alloc (Box.alloc (Box.new w _ _) _) _) hb1
  have Xb5_1 : Box w1 (w.heap.size + 1) #[.int .i64 a1, .int .i64 a2] := Box.below (Box.alloc (Box.newAt (w.alloc _) _ _ (by simp)) _) hb1
  have Xb6_1 : Box w1 (w.heap.size + 1 + 1) #[.int .i64 b1, .int .i64 b2] := Box.below (Box.newAt ((w.alloc _).alloc _) _ _ (by simp)) hb1
  have hB1 : Below w.heap.size w w1 := stepB (by go_grown) hb1
  have hs1 := hB1.size
  clear hb1
  have cc4 := Xb4_1.2.1
  have ll4 := Xb4_1.1
  have cc5 := Xb5_1.2.1
  have ll5 := Xb5_1.1
  have lm5_0 : w.heap.size < w1.heap.size := by have := ll5; omega
  have cc6 := Xb6_1.2.1
  have ll6 := Xb6_1.1
  have lm6_0 : w.heap.size < w1.heap.size := by have := ll6; omega
  have lm6_1 : w.heap.size + 1 < w1.heap.size := by have := ll6; omega
  go_wp2_with fail
  refine (HH.out _ _ (by go_grown) (by simp) (by go_cell) (by go_cell) (by go_cell) (by go_cell)).mono ?_
  rintro e w2 ⟨rfl, hb2⟩
  have Xb4_2 : Box w2 w.heap.size #[.slice (some ⟨bs, offs, none⟩) ss.length sc, .slice ga gs.length gc, .slice pa ps.length pc] := Box.below (Box.alloc Xb4_1 _) hb2
  have Xb5_2 : Box w2 (w.heap.size + 1) #[.int .i64 a1, .int .i64 a2] := Box.below (Box.alloc Xb5_1 _) hb2
  have Xb6_2 : Box w2 (w.heap.size + 1 + 1) #[.int .i64 b1, .int .i64 b2] := Box.below (Box.alloc Xb6_1 _) hb2
  have hB2 : Below w.heap.size w w2 := stepB (by go_grown) hb2
  have hs2 := hB2.size
  clear hb2 hB1 hs1 Xb4_1 Xb5_1 Xb6_1 cc4 ll4 cc5 ll5 lm5_0 cc6 ll6 lm6_0 lm6_1
  have cc4 := Xb4_2.2.1
  have ll4 := Xb4_2.1
  go_wp2
  go_loopw [11, 12, 13, 14, 15, 30] (fun v f _ _ _ i wr => ∃ k : Nat, k ≤ ss.length ∧ i = .int .i64 k ∧ f = .int .i64 (lastOf 0 ss k + 1) ∧ Hid (SpansOwn w2.heap.size wr v (withL ss gs ps nut a1 a2 b1 b2 k)) ∧ Box wr w.heap.size #[.slice (some ⟨bs, offs, none⟩) ss.length sc, .slice ga gs.length gc, .slice pa ps.length pc] ∧ Box wr (w.heap.size + 1) #[.int .i64 a1, .int .i64 a2] ∧ Box wr (w.heap.size + 1 + 1) #[.int .i64 b1, .int .i64 b2] ∧ Below w.heap.size w wr ∧ w2.heap.size ≤ wr.heap.size) (fun _ _ _ _ _ i _ => ss.length - (intOf i).toNat)
  case atStart => exact ⟨0, Nat.zero_le _, rfl, rfl, World.ownsRow_nil _ _ _ _, Xb4_2, Xb5_2, Xb6_2, hB2, Nat.le_refl _⟩
  case round =>
    have n4 := Xb4_2.1
    have n5 := Xb5_2.1
    have n6 := Xb6_2.1
    obtain ⟨k, hk, rfl, rfl, hown, X4, X5, X6, hB, hsz⟩ := hrel
    by_cases hlt : k < ss.length
    · obtain ⟨s, hs⟩ : ∃ s, ss[k] = s := ⟨_, rfl⟩
      have hs' : ss[k]? = some s := by rw [List.getElem?_eq_getElem hlt, hs]
      obtain ⟨u, hcu, rfl⟩ := HCS.out k s hs'
      have hcu' := (hB.cell (p := ⟨bs, offs + k, none⟩) hbs).trans hcu
      have hbs' : bs < wr.heap.size := Nat.lt_of_lt_of_le hbs hB.size
      have hgs := HGT.out s (List.mem_of_getElem? hs')
      have hgd : ss[k]?.getD 0 = s := by rw [hs']; rfl
      have HGD := Lib.hid hgd
      have HLA : Hid (lastOf 0 ss (k + 1) = s) := by show _ = _; unfold lastOf; simp [hs']
      have Z1 := HZ.out
      obtain ⟨la, hla⟩ : ∃ x, lastOf 0 ss k = x := ⟨_, rfl⟩
      rw [hla]
      have HLA0 := Lib.hid hla
      have q4 := X4.2.1
      have q5 := X5.2.1
      have q6 := X6.2.1
      have r4 := X4.1
      have r5 := X5.1
      have r6 := X6.1
      clear hs hs' hcu hgd hla Z1
      go_wp2
      have Y15 : Box (wr.alloc (.cells #[.slice (some ⟨bs, offs, none⟩) ss.length sc, .slice ga gs.length gc, .slice pa ps.length pc, .int .i64 k] 162)) wr.heap.size _ := Box.new wr _ _
      have Y4 := X4.alloc (.cells #[.slice (some ⟨bs, offs, none⟩) ss.length sc, .slice ga gs.length gc, .slice pa ps.length pc, .int .i64 k] 162)
      have Y5 := X5.alloc (.cells #[.slice (some ⟨bs, offs, none⟩) ss.length sc, .slice ga gs.length gc, .slice pa ps.length pc, .int .i64 k] 162)
      have Y6 := X6.alloc (.cells #[.slice (some ⟨bs, offs, none⟩) ss.length sc, .slice ga gs.length gc, .slice pa ps.length pc, .int .i64 k] 162)
      have YO : SpansOwn w2.heap.size (wr.alloc (.cells #[.slice (some ⟨bs, offs, none⟩) ss.length sc, .slice ga gs.length gc, .slice pa ps.length pc, .int .i64 k] 162)) _ _ := World.ownsRow.alloc hown.out _
      have hBX : Below w.heap.size w (wr.alloc (.cells #[.slice (some ⟨bs, offs, none⟩) ss.length sc, .slice ga gs.length gc, .slice pa ps.length pc, .int .i64 k] 162)) := by go_grown
      have hszX : w2.heap.size ≤ (wr.alloc (.cells #[.slice (some ⟨bs, offs, none⟩) ss.length sc, .slice ga gs.length gc, .slice pa ps.length pc, .int .i64 k] 162)).heap.size := by simp; omega
      clear X4 X5 X6 q4 q5 q6 r4 r5 r6 hcu' hbs' hown
      generalize wr.alloc (.cells #[.slice (some ⟨bs, offs, none⟩) ss.length sc, .slice ga gs.length gc, .slice pa ps.length pc, .int .i64 k] 162) = X at *
      have rd15 := fun d os => (Y15.regrown d os).2.1
      have rd5 := fun d os => (Y5.regrown d os).2.1
      have rd6 := fun d os => (Y6.regrown d os).2.1
      have kc42 := fun d os => (HZ.out (Go.Sort.grow (redrawn X d) os) (hBX.trans ((below_regrown X d os).mono hBX.size)) a1 a2 s k HA.out hlt (by omega) hgs.2).regrown_of
      have kc47 := fun d os => (HZ.out (Go.Sort.grow (redrawn X d) os) (hBX.trans ((below_regrown X d os).mono hBX.size)) b1 b2 s k HBb.out hlt (by omega) hgs.2).regrown_of
      obtain ⟨p, hpq⟩ : ∃ p, zoLo nut s (numN ps a1 k) (numN gs a2 k) = p := ⟨_, rfl⟩
      obtain ⟨q, hqq⟩ : ∃ q, zoHi nut s (numN ps a1 k) (numN gs a2 k) = q := ⟨_, rfl⟩
      obtain ⟨p', hpq'⟩ : ∃ p', zoLo nut s (numN ps b1 k) (numN gs b2 k) = p' := ⟨_, rfl⟩
      obtain ⟨q', hqq'⟩ : ∃ q', zoHi nut s (numN ps b1 k) (numN gs b2 k) = q' := ⟨_, rfl⟩
      rw [hpq, hqq] at kc42
      rw [hpq', hqq'] at kc47
      have HW : Hid (withL ss gs ps nut a1 a2 b1 b2 (k + 1) = if lies p q p' q' = true then joinL (withL ss gs ps nut a1 a2 b1 b2 k) (la + 1, s) else withL ss gs ps nut a1 a2 b1 b2 k) := by
        show _ = _
        rw [← hpq, ← hqq, ← hpq', ← hqq', ← HLA0.out]
        rw [show withL ss gs ps nut a1 a2 b1 b2 (k + 1) = if lies (zoLo nut (ss[k]?.getD 0) (numN ps a1 k) (numN gs a2 k)) (zoHi nut (ss[k]?.getD 0) (numN ps a1 k) (numN gs a2 k)) (zoLo nut (ss[k]?.getD 0) (numN ps b1 k) (numN gs b2 k)) (zoHi nut (ss[k]?.getD 0) (numN ps b1 k) (numN gs b2 k)) = true then joinL (withL ss gs ps nut a1 a2 b1 b2 k) (lastOf 0 ss k + 1, ss[k]?.getD 0) else withL ss gs ps nut a1 a2 b1 b2 k from rfl, HGD.out]
      have kc48 := fun d os => (within_any p q p' q' (Go.Sort.grow (redrawn X d) os)).regrown_of
      unfold spanV at kc42 kc47 kc48
      have ZO := Lib.hid YO
      have Z4 := Lib.hid Y4
      have Z5 := Lib.hid Y5
      have Z6 := Lib.hid Y6
      have ZB := Lib.hid hBX
      clear YO Y4 Y5 Y6 Y15 hBX hpq hqq hpq' hqq'
      cases hli : lies p q p' q'
      all_goals
        rw [hli] at kc48 HW
        clear hli
        refine wp_region_quiet_below (by kernel_rfl) (by kernel_rfl) ?_
        repeat ((with_reducible refine wpQuiet_step (fun K hK => ?_)); go_simp; first | ((with_reducible refine hK _ ?_); clear hK K) | (apply Exists.intro; refine ⟨fun _ => ?_, hK _ ?_⟩; (first | (go_at_call 96; with_reducible exact kc42 _ _) | (go_at_call 96; with_reducible exact kc47 _ _) | (go_at_call 111; with_reducible exact kc48 _ _)); clear hK K))
        with_reducible refine wpQuiet_nil ?_
        intro x2 hw'
        obtain ⟨⟨dq, osq⟩, hw''⟩ := hw'
        have hb2 : Below X.heap.size X x2 := by rw [hw'']; exact below_regrown X dq osq
        clear hw'' rd15 rd5 rd6 kc42 kc47 kc48
        have U4 := Z4.out.below hb2
        have U5 := Z5.out.below hb2
        have U6 := Z6.out.below hb2
        have UO := ZO.out.below hb2
        have hB2 : Below w.heap.size w x2 := ZB.out.trans (hb2.mono ZB.out.size)
        have hsz2 : w2.heap.size ≤ x2.heap.size := Nat.le_trans hszX hb2.size
        have HUO := Lib.hid UO
        clear hb2 ZO Z4 Z5 Z6 ZB UO
      · go_wp2
        go_roundw
        case rel => exact ⟨k + 1, by omega, by go_num, by rw [HLA.out], by
          have := HW.out
          simp only [Bool.false_eq_true, if_false] at this
          show SpansOwn _ _ _ _
          rw [this]; exact HUO.out, U4, U5, U6, hB2, hsz2⟩
        case measure => simp [intOf]; omega
      · have HJ := Lib.hid (joined_any (withL ss gs ps nut a1 a2 b1 b2 k) (la + 1) s _ w2.heap.size x2 hsz2 (by have := HLn.out k; omega) (fun z hz => by have := HM.out k (by omega) z hz; omega) HUO.out)
        go_wp2_with fail
        refine HJ.out.mono ?_
        rintro e x3 ⟨v', rfl, own3, hb3⟩
        have V4 := Box.belowAt U4 hb3 n4
        have V5 := Box.belowAt U5 hb3 n5
        have V6 := Box.belowAt U6 hb3 n6
        have hB3 : Below w.heap.size w x3 := hB2.trans (hb3.mono (by omega))
        have hsz3 : w2.heap.size ≤ x3.heap.size := Nat.le_trans hsz2 hb3.size
        have HO3 := Lib.hid own3
        clear own3 hb3 U4 U5 U6 HUO HJ hB2
        go_wp2
        go_roundw
        case rel => exact ⟨k + 1, by omega, by go_num, by rw [HLA.out], by
          have := HW.out
          simp only [if_true] at this
          show SpansOwn _ _ _ _
          rw [this]; exact HO3.out, V4, V5, V6, hB3, hsz3⟩
        case measure => simp [intOf]; omega
    · have hk' : k = ss.length := by omega
      have HK' := Lib.hid hk'
      have hsK : w.heap.size ≤ w2.heap.size := by have := n4; omega
      clear hk' X4 X5 X6
      go_wp2
      go_returns
      refine ⟨⟨_, rfl, ?_⟩, hB⟩
      have e := hown.out
      rw [HK'.out] at e
      unfold SpansOwn at *
      exact ⟨e.1, e.2.imp id (fun ⟨g, cap, cur, h1, h2, h3⟩ => ⟨g, cap, cur, h1, Nat.le_trans hsK h2, h3⟩)⟩

theorem within_all (w : World) (nut : Bool) (a1 a2 b1 b2 : Int) (ss : List Int) (gs ps : List (List Int)) (sa ga pa : Option Addr) (sc gc pc : Nat) (m1 : ss.length ≤ 4611686018427387904) (m2 : gs.length ≤ 4611686018427387904) (m3 : ps.length ≤ 4611686018427387904) (hs : SlA IntE w sa ss) (hg : SlA IntsAt w ga gs) (hp : SlA IntsAt w pa ps) :
    Calls Try.prog 51 #[.agg #[.slice sa ss.length sc, .slice ga gs.length gc, .slice pa ps.length pc], .agg #[.int .i64 a1, .int .i64 a2], .agg #[.int .i64 b1, .int .i64 b2], .bool nut] w (WithP ss gs ps nut a1 a2 b1 b2 w) := by
  have HK := fun (W : World) (hB : Below w.heap.size w W) => zcheck_any ss gs ps sa ga pa sc gc pc W m1 m2 m3 (hs.below intE_stable hB) (hg.below ints_stable hB) (hp.below ints_stable hB)
  by_cases hc : checkN ss gs ps = 0
  · rw [hc] at HK
    have HH : ∀ (W : World) (b : Nat), Below w.heap.size w W → b < W.heap.size → W.cell? ⟨b, 0, none⟩ = some (.int .i64 a1) → W.cell? ⟨b, 1, none⟩ = some (.int .i64 a2) → W.cell? ⟨b, 2, none⟩ = some (.int .i64 b1) → W.cell? ⟨b, 3, none⟩ = some (.int .i64 b2) → Calls Try.prog 94 #[.agg #[.slice sa ss.length sc, .slice ga gs.length gc, .slice pa ps.length pc], .slice (some ⟨b, 0, none⟩) 2 2] W fun e w' => e = .returned (.bool (classB gs ps (a1, a2) && classB gs ps (b1, b2))) ∧ Below W.heap.size W w' := by
      intro W b hB hb h0 h1 h2 h3
      refine (hasClasses_any W [(a1, a2), (b1, b2)] b 2 ss gs ps sa ga pa sc gc pc m1 m2 m3 hb (fun i x hx => ?_) (by simp)).mono ?_
      · match i, hx with
        | 0, hx => simp at hx; subst hx; exact ⟨h0, h1⟩
        | 1, hx => simp at hx; subst hx; exact ⟨h2, h3⟩
        | i + 2, hx => simp at hx
      · rintro e w' ⟨rfl, h⟩
        exact ⟨ret_bool (by simp), h⟩
    cases hcl : (classB gs ps (a1, a2) && classB gs ps (b1, b2))
    · rw [hcl] at HH
      exact (within_1 w nut a1 a2 b1 b2 ss gs ps sa ga pa sc gc pc (Lib.hid HK) (Lib.hid HH)).mono fun e w' ⟨he, hb⟩ => ⟨hb, .inr (.inl ⟨hc, hcl, he⟩)⟩
    · rw [hcl] at HH
      simp only [Bool.and_eq_true] at hcl
      exact (within_way w nut a1 a2 b1 b2 ss gs ps sa ga pa sc gc pc m1 m2 m3 hs hg hp (Lib.hid HK) (Lib.hid HH) hc hcl.1 hcl.2).mono fun e w' ⟨he, hb⟩ => ⟨hb, .inr (.inr ⟨hc, by simp [hcl], he⟩)⟩
  · exact (within_0 w nut a1 a2 b1 b2 ss gs ps sa ga pa sc gc pc _ (beq_false_of_ne hc) (by simpa using hc) (Lib.hid HK)).mono fun e w' ⟨he, hb⟩ => ⟨hb, .inl ⟨hc, he⟩⟩

end Go.Proofs.Ytpmeahmjmpgbfaa
