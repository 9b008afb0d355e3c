/- Contract of thread.Agree. -/
import Derived.Test.YtloleaahelmdjaaShapes
namespace Go.Proofs.Ytloleaahelmdjaa
open Go.RowKit Go.Shelf

set_option maxRecDepth 100000 in
set_option maxHeartbeats 2000000 in
theorem shapesOf_nil (w : World) : Calls Try.prog 55 #[.slice none 0 0] w (ShPost [] w) := by
  obtain ⟨i0, hi, hz0, hz1, hz2⟩ := info_parts Try.info96
  go_enter Try.func55, Try.ntmps55
  go_wp2_with (at_make; go_must (refine wpList_make_own _ rfl _ _ 104 rfl w.heap.size 96 i0 shape0 11 Try.underlying104 hi hz0 hz1 _ _ 0 0 rfl rfl rfl (by omega) (by unfold maxLen; omega) (Nat.le_refl _) ?_); intro w1 hown1 hg1)
  have hB1 : Below w.heap.size w w1 := (Below.refl _ w).grown hg1 (Nat.le_refl _) (fun _ e => by cases e)
  have HO := Lib.hid hown1
  clear hown1 hg1
  go_rounds 1
  go_returns
  exact ⟨hB1, .inr ⟨rfl, _, rfl, HO.out⟩⟩

theorem shapesOf_any (fs : List Form) (v : Value) (w : World) (hF : FormsAt w v fs) (hm : fs.length ≤ 9223372036854775807) :
    Calls Try.prog 55 #[v] w (ShPost fs w) := by
  rcases hF with ⟨rfl, rfl⟩ | ⟨b, off, cap, rfl, hb, hF⟩
  · exact shapesOf_nil w
  · by_cases hl : 100 < fs.length
    · exact shapesOf_long fs b off cap w hl hm
    · exact shapesOf_short fs b off cap w (by omega) hb hF

/-- The cells of a list of shapes in memory. -/
def ShapesIn (w : World) (g : Nat) (fs : List Form) : Prop := ∀ i (h : i < fs.length) j, j < 11 → w.cell? ⟨g, i * 11 + j, none⟩ = (shapeCells fs[i] (fs[i].l + fs[i].r) (fs[i].p * fs[i].s))[j]?
theorem ShapesIn.below {w w' : World} {g : Nat} {fs : List Form} (h : ShapesIn w g fs) (hb : Below w.heap.size w w') (hlt : g < w.heap.size) : ShapesIn w' g fs :=
  fun i hi j hj => (hb.cell (p := ⟨g, i * 11 + j, none⟩) hlt).trans (h i hi j hj)

theorem flatS_at (fs : List Form) : ∀ (i : Nat) (h : i < fs.length) (j : Nat), j < 11 → (flatS fs)[i * 11 + j]? = (fs[i].shape)[j]? := by
  induction fs with
  | nil => intro i h; exact absurd h (by simp)
  | cons f fs ih =>
    intro i h j hj
    cases i with
    | zero =>
      rw [show flatS (f :: fs) = f.shape ++ flatS fs from rfl, List.getElem?_append_left (by rw [shape_len]; omega)]
      simp
    | succ i =>
      have := ih i (by simpa using h) j hj
      rw [show flatS (f :: fs) = f.shape ++ flatS fs from rfl, List.getElem?_append_right (by rw [shape_len]; omega), shape_len, show (i + 1) * 11 + j - 11 = i * 11 + j by omega, this]
      rfl

/-- What a slice of shapes that is owned is. -/
theorem shapes_own {w : World} {base : Nat} {sv : Value} {fs : List Form} (h : w.ownsRow base 96 11 sv fs.length (flatS fs)) :
    (sv = .slice none 0 0 ∧ fs = []) ∨ ∃ g cap, sv = .slice (some ⟨g, 0, none⟩) fs.length cap ∧ g < w.heap.size ∧ ShapesIn w g fs := by
  have hlt := h.lt
  have hcs := fun g (e : sv.ownBlock = some g) => h.cells e
  rcases h.2 with ⟨rfl, e⟩ | ⟨g, cap, cur, rfl, _, _, _, _, _, _⟩
  · exact .inl ⟨rfl, List.eq_nil_of_length_eq_zero e⟩
  · refine .inr ⟨g, cap, rfl, (hlt g rfl).2, fun i hi j hj => ?_⟩
    have h1 := flatS_at fs i hi j hj
    have h2 : ∃ u, (fs[i].shape)[j]? = some u := ⟨_, List.getElem?_eq_getElem (by rw [shape_len]; exact hj)⟩
    obtain ⟨u, hu⟩ := h2
    have h3 := hcs g rfl (i * 11 + j) u (by rw [h1, hu])
    rw [show (⟨g, 0, none⟩ : Addr).add (i * 11 + j) = ⟨g, i * 11 + j, none⟩ by simp [Addr.add]; omega] at h3
    rw [h3, ← hu]
    simp [Form.shape]

theorem Try.info3 : (Try.prog.info? 3).map (fun i => (i.zero, i.size, i.bytes)) = some (some (.int .i64 0), 1, 8) := by kernel_rfl

/-- The numbers, below k, of the forms that agree. -/
def agL (fs : List Form) (q : Seen) (k : Nat) : List Nat := (List.range k).filter fun i => match fs[i]? with | some f => agreesB f q | none => false
theorem agL_yes {fs : List Form} {q : Seen} {k : Nat} {f : Form} (hf : fs[k]? = some f) (h : agreesB f q = true) : agL fs q (k + 1) = agL fs q k ++ [k] := by
  simp [agL, List.range_succ, List.filter_append, hf, h]
theorem agL_no {fs : List Form} {q : Seen} {k : Nat} {f : Form} (hf : fs[k]? = some f) (h : agreesB f q = false) : agL fs q (k + 1) = agL fs q k := by
  simp [agL, List.range_succ, List.filter_append, hf, h]
theorem agL_len (fs : List Form) (q : Seen) (k : Nat) : (agL fs q k).length ≤ k := by
  have := List.length_filter_le (fun i => match fs[i]? with | some f => agreesB f q | none => false) (List.range k)
  simpa [agL] using this
def natsV (l : List Nat) : List Value := l.map fun (n : Nat) => Value.int .i64 (n : Int)

def AgPost (fs : List Form) (q : Seen) (w : World) (e : Ending) (w' : World) : Prop := Below w.heap.size w w' ∧
  ((tabN fs ≠ 0 ∧ e = .returned (.tuple #[.slice none 0 0, .int .i64 (tabN fs)])) ∨ (tabN fs = 0 ∧ seenB q = false ∧ e = .returned (.tuple #[.slice none 0 0, .int .i64 3])) ∨
  (tabN fs = 0 ∧ seenB q = true ∧ ∃ lv, e = .returned (.tuple #[lv, .int .i64 0]) ∧ w'.ownsRow w.heap.size 3 1 lv (agL fs q fs.length).length (natsV (agL fs q fs.length))))

set_option maxRecDepth 100000 in
set_option maxHeartbeats 4000000 in
theorem agree_any (fs : List Form) (v : Value) (q : Seen) (w : World) (hF : FormsAt w v fs) (hm : fs.length ≤ 9223372036854775807) :
    Calls Try.prog 30 #[v, .agg q.cells] w (AgPost fs q w) := by
  have HS := fun W (h : FormsAt W v fs) => shapesOf_any fs v W h hm
  have HS' := Lib.hid HS
  have HF := Lib.hid hF
  have HV := Lib.hid (validSeen_any q)
  obtain ⟨i0, hi, hz0, hz1, hz2⟩ := info_parts Try.info3
  clear HS hF
  go_enter Try.func30, Try.ntmps30
  go_wp2_with fail
  refine (HS'.out _ (HF.out.below (by go_grown))).mono ?_
  rintro e w1 ⟨hb1, hp⟩
  have B1 : Box w1 w.heap.size q.cells := (Box.new w _ _).below hb1
  have hB1 : Below w.heap.size w w1 := stepB (by go_grown) hb1
  have hs1 := hB1.size
  clear hb1
  rcases hp with ⟨hne, rfl⟩ | ⟨h0, sv, rfl, hown⟩
  · have q1 : (tabN fs == 0) = false := by simpa using hne
    have q2 : (tabN fs != 0) = true := by simpa using hne
    have HN := Lib.hid hne
    clear hne
    go_wp2
    go_returns
    exact ⟨hB1, .inl ⟨HN.out, rfl⟩⟩
  · have hlen : fs.length ≤ 100 := by
      unfold tabN at h0
      by_cases h : 100 < fs.length
      · rw [if_pos h] at h0; exact absurd h0 (by decide)
      · omega
    have H0 := Lib.hid h0
    have HO := Lib.hid hown
    have cB := B1.2.1
    have hz1' := B1.1
    unfold Seen.cells at cB
    clear h0 hown
    go_wp2_with fail
    refine (HV.out _).mono ?_
    rintro e w2 ⟨rfl, hb2⟩
    have B2 : Box w2 w.heap.size q.cells := B1.below hb2
    have hB2 : Below w.heap.size w w2 := stepB (by go_grown) hb2
    have hs2 := hB2.size
    have HO2 := Lib.hid (ownsRow_below HO.out hb2)
    clear hb2 cB B1 HO hz1' hB1
    cases hv : seenB q
    · have HVs := Lib.hid hv
      clear hv
      go_wp2
      go_returns
      exact ⟨hB2, .inr (.inl ⟨H0.out, HVs.out, rfl⟩)⟩
    · have HVs := Lib.hid hv
      clear hv
      rcases shapes_own HO2.out with ⟨rfl, rfl⟩ | ⟨g, cap, rfl, hg, hS⟩
      · clear HO2
        go_wp2
        go_rounds 1
        go_returns
        exact ⟨hB2, .inr (.inr ⟨H0.out, HVs.out, _, rfl, World.ownsRow_nil _ _ _ _⟩)⟩
      · have HSh := Lib.hid hS
        clear HO2 hS
        go_wp2
        go_loopw [8, 9, 10, 24] (fun lv _ _ i wr => ∃ k : Nat, k ≤ fs.length ∧ i = .int .i64 k ∧ wr.ownsRow w2.heap.size 3 1 lv (agL fs q k).length (natsV (agL fs q k)) ∧ Below w2.heap.size w2 wr) (fun _ _ _ i _ => fs.length - (intOf i).toNat)
        case atStart => exact ⟨0, by omega, rfl, World.ownsRow_nil _ _ _ _, Below.refl _ _⟩
        case round =>
          obtain ⟨k, hk, rfl, hown, hB⟩ := hrel
          have hsr := hB.size
          by_cases hlt : k < fs.length
          · obtain ⟨f, hf⟩ : ∃ f, fs[k] = f := ⟨_, rfl⟩
            have hc := fun j hj => ((HSh.out.below hB hg) k hlt j hj)
            rw [hf] at hc
            have c0 := hc 0 (by omega)
            have c1 := hc 1 (by omega)
            have c2 := hc 2 (by omega)
            have c3 := hc 3 (by omega)
            have c4 := hc 4 (by omega)
            have c5 := hc 5 (by omega)
            have c6 := hc 6 (by omega)
            have c7 := hc 7 (by omega)
            have c8 := hc 8 (by omega)
            have c9 := hc 9 (by omega)
            have c10 := hc 10 (by omega)
            have hf' : fs[k]? = some f := by rw [List.getElem?_eq_getElem hlt, hf]
            have HFe := Lib.hid hf'
            unfold shapeCells at c0 c1 c2 c3 c4 c5 c6 c7 c8 c9 c10
            simp only [Nat.add_zero] at c0
            clear hc hf hf'
            have cB := (B2.below hB).2.1
            have hzB := (B2.below hB).1
            unfold Seen.cells at cB
            have HA := Lib.hid (agrees_any f (f.l + f.r) (f.p * f.s) q)
            go_wp2_with fail
            refine (HA.out _).mono ?_
            rintro e w3 ⟨rfl, hb3⟩
            have hB3 : Below w2.heap.size w2 w3 := hB.trans (((Below.refl _ wr).alloc (Nat.le_refl _) _).trans (hb3.mono (by simp)) |>.mono hsr)
            have hsr3 := hB3.size
            have hown3 := ownsRow_below (hown.alloc _) hb3
            clear hb3 c0 c1 c2 c3 c4 c5 c6 c7 c8 c9 c10 hown hB cB hzB HA
            cases ha : agreesB f q
            · have hno := agL_no HFe.out ha
              have hown4 : w3.ownsRow w2.heap.size 3 1 u8 (agL fs q (k + 1)).length (natsV (agL fs q (k + 1))) := by rw [hno]; exact hown3
              clear ha hno hown3
              go_wp2
              go_roundw
              case rel => exact ⟨k + 1, by omega, by go_num, hown4, hB3⟩
              case measure => simp [intOf]; omega
            · have hyes := agL_yes HFe.out ha
              have HY := Lib.hid hyes
              have hll := agL_len fs q k
              clear ha hyes
              go_wp2_with (at_builtin; go_must (refine wpList_append_own _ rfl _ _ 56 rfl w2.heap.size 3 i0 (.int .i64 0) 1 8 Try.underlying56 hi hz0 hz1 hz2 rfl (by decide) _ (agL fs q k).length (natsV (agL fs q k)) rfl (hown3.alloc _) ⟨w3.heap.size, 0, none⟩ 1 1 [.int .i64 k] rfl rfl (cell_one_new _ _ _) (by simp [Value.oneCell']) (by unfold maxLen; omega) (by omega) (by simp; omega) ?_); intro v' w4 hown4 hg4 _)
              have hB4 : Below w2.heap.size w2 w4 := by
                refine Below.grown (w := w3.alloc _) (hB3.alloc hsr3 _) hg4 (by simp; omega) (fun r e => ?_)
                exact (hown3.lt r e).1
              have hown5 : w4.ownsRow w2.heap.size 3 1 v' (agL fs q (k + 1)).length (natsV (agL fs q (k + 1))) := by
                rw [HY.out]
                simpa [natsV] using hown4
              clear hown3 hown4 hg4 hB3
              go_wp2
              go_roundw
              case rel => exact ⟨k + 1, by omega, by go_num, hown5, hB4⟩
              case measure => simp [intOf]; omega
          · have hk' : k = fs.length := by omega
            have hown' : wr.ownsRow w.heap.size 3 1 u8 (agL fs q fs.length).length (natsV (agL fs q fs.length)) := by
              rw [hk'] at hown
              exact ⟨hown.1, hown.2.imp id (fun ⟨g, cap, cur, h1, h2, h3⟩ => ⟨g, cap, cur, h1, Nat.le_trans hs2 h2, h3⟩)⟩
            have HW := Lib.hid hown'
            have hB' : Below w.heap.size w wr := hB2.trans (hB.mono hs2)
            clear hown hown' hk'
            go_wp2
            go_returns
            exact ⟨hB', .inr (.inr ⟨H0.out, HVs.out, _, rfl, HW.out⟩)⟩
end Go.Proofs.Ytloleaahelmdjaa
