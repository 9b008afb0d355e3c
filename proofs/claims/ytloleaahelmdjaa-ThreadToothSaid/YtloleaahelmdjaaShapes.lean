/- Contract of shapesOf: the shapes of a table, or its error. -/
import Derived.Test.YtloleaahelmdjaaAgrees2
namespace Go.Proofs.Ytloleaahelmdjaa
open Go.RowKit Go.Shelf

/-- The cells of a table of forms in memory. -/
def FormsIn (w : World) (b off : Nat) (fs : List Form) : Prop := ∀ i (h : i < fs.length) j, j < 8 → w.cell? ⟨b, off + i * 8 + j, none⟩ = (fs[i].cells)[j]?
/-- A slice of forms. -/
def FormsAt (w : World) (v : Value) (fs : List Form) : Prop := (v = .slice none 0 0 ∧ fs = []) ∨ ∃ b off cap, v = .slice (some ⟨b, off, none⟩) fs.length cap ∧ b < w.heap.size ∧ FormsIn w b off fs
theorem FormsIn.below {w w' : World} {b off : Nat} {fs : List Form} (h : FormsIn w b off fs) (hb : Below w.heap.size w w') (hlt : b < w.heap.size) : FormsIn w' b off fs :=
  fun i hi j hj => (hb.cell (p := ⟨b, off + i * 8 + j, none⟩) hlt).trans (h i hi j hj)
theorem FormsAt.below {w w' : World} {v : Value} {fs : List Form} (h : FormsAt w v fs) (hb : Below w.heap.size w w') : FormsAt w' v fs := by
  rcases h with h | ⟨b, off, cap, h1, h2, h3⟩
  · exact .inl h
  · exact .inr ⟨b, off, cap, h1, Nat.lt_of_lt_of_le h2 hb.size, h3.below hb h2⟩

def Form.shape (f : Form) : List Value := (shapeCells f (f.l + f.r) (f.p * f.s)).toList
def flatS (fs : List Form) : List Value := fs.flatMap Form.shape
theorem shape_len (f : Form) : f.shape.length = 11 := rfl
theorem flatS_snoc (fs : List Form) (f : Form) : flatS (fs ++ [f]) = flatS fs ++ f.shape := by simp [flatS]
theorem flatS_take (fs : List Form) (k : Nat) (h : k < fs.length) : flatS (fs.take (k + 1)) = flatS (fs.take k) ++ (fs[k]).shape := by
  rw [List.take_succ_eq_append_getElem h, flatS_snoc]

/-- The error of a table. -/
def tabN (fs : List Form) : Int := if 100 < fs.length then 5 else if fs.all okB then 0 else 2

theorem Try.info96 : (Try.prog.info? 96).map (fun i => (i.zero, i.size, i.bytes)) = some (some shape0, 11, 88) := by kernel_rfl

theorem ownsRow_below {w w' : World} {base size n : Nat} {e : TypeId} {v : Value} {xs : List Value} (h : w.ownsRow base e size v n xs) (hb : Below w.heap.size w w') : w'.ownsRow base e size v n xs :=
  h.kept (grown_of_below hb) (by cases v.ownBlock <;> simp)

theorem shape_one (f : Form) : ∀ u ∈ f.shape, u.oneCell' = true := by
  intro u hu
  simp [Form.shape, shapeCells] at hu
  rcases hu with rfl | rfl | rfl | rfl | rfl | rfl | rfl | rfl | rfl | rfl | rfl <;> rfl

theorem shape_news {w : World} {g : Nat} (f : Form) (h : Box w g (shapeCells f (f.l + f.r) (f.p * f.s))) : ∀ j u, f.shape[j]? = some u → w.cell? ((⟨g, 0, none⟩ : Addr).add j) = some u := by
  intro j u hu
  rw [show (⟨g, 0, none⟩ : Addr).add j = ⟨g, j, none⟩ by simp [Addr.add]; exact fun h => h.symm, h.2.1 j]
  simpa [Form.shape] using hu

theorem tab_bad {fs : List Form} {k : Nat} (hl : fs.length ≤ 100) (hk : k < fs.length) (h : okB fs[k] = false) : tabN fs = 2 := by
  unfold tabN
  rw [if_neg (by omega), if_neg]
  rw [List.all_eq_true]
  intro hh
  rw [hh _ (List.getElem_mem hk)] at h
  exact absurd h (by simp)

theorem tab_good {fs : List Form} (hl : fs.length ≤ 100) (h : ∀ (j : Nat) (h : j < fs.length), okB fs[j] = true) : tabN fs = 0 := by
  unfold tabN
  rw [if_neg (by omega), if_pos]
  rw [List.all_eq_true]
  intro f hf
  obtain ⟨j, hj, rfl⟩ := List.getElem_of_mem hf
  exact h j hj

def ShPost (fs : List Form) (w : World) (e : Ending) (w' : World) : Prop := Below w.heap.size w w' ∧ ((tabN fs ≠ 0 ∧ e = .returned (.tuple #[.slice none 0 0, .int .i64 (tabN fs)])) ∨
  (tabN fs = 0 ∧ ∃ sv, e = .returned (.tuple #[sv, .int .i64 0]) ∧ w'.ownsRow w.heap.size 96 11 sv fs.length (flatS fs)))

set_option maxRecDepth 100000 in
set_option maxHeartbeats 2000000 in
theorem shapesOf_long (fs : List Form) (b off cap : Nat) (w : World) (hl : 100 < fs.length) (hm : fs.length ≤ 9223372036854775807) :
    Calls Try.prog 55 #[.slice (some ⟨b, off, none⟩) fs.length cap] w (ShPost fs w) := by
  go_enter Try.func55, Try.ntmps55
  go_wp2
  go_returns
  have he : tabN fs = 5 := if_pos hl
  exact ⟨Below.refl _ _, .inl ⟨by rw [he]; decide, by rw [he]; rfl⟩⟩

set_option maxRecDepth 100000 in
set_option maxHeartbeats 4000000 in
theorem shapesOf_short (fs : List Form) (b off cap : Nat) (w : World) (hl : fs.length ≤ 100) (hb : b < w.heap.size) (hF : FormsIn w b off fs) :
    Calls Try.prog 55 #[.slice (some ⟨b, off, none⟩) fs.length cap] w (ShPost fs w) := by
  have HF := Lib.hid hF
  obtain ⟨i0, hi, hz0, hz1, hz2⟩ := info_parts Try.info96
  clear hF
  have hd : decide ((100 : Int) < (fs.length : Int)) = false := by simp; omega
  go_enter Try.func55, Try.ntmps55
  go_wp2_with (at_make; go_must (refine wpList_make_own _ rfl _ _ 104 rfl w.heap.size 96 i0 shape0 11 Try.underlying104 hi hz0 hz1 _ _ (fs.length : Int) fs.length rfl rfl rfl (by rw [hz2]; omega) (by unfold maxLen; omega) (Nat.le_refl _) ?_); intro w1 hown1 hg1)
  have hB1 : Below w.heap.size w w1 := (Below.refl _ w).grown hg1 (Nat.le_refl _) (fun _ e => by cases e)
  clear hg1
  go_loopw [4, 6, 7, 8, 17] (fun v _ _ _ i wr => ∃ k : Nat, k ≤ fs.length ∧ i = .int .i64 k ∧ wr.ownsRow w.heap.size 96 11 v k (flatS (fs.take k)) ∧ Below w.heap.size w wr ∧ Hid (∀ (j : Nat) (h : j < fs.length), j < k → okB fs[j] = true)) (fun _ _ _ _ i _ => fs.length - (intOf i).toNat)
  case atStart => exact ⟨0, by omega, rfl, by simpa [flatS] using hown1, hB1, fun j _ hj => absurd hj (by omega)⟩
  case round =>
    clear hown1 hB1
    obtain ⟨k, hk, rfl, hown, hB, hA⟩ := hrel
    have hs := hB.size
    by_cases hlt : k < fs.length
    · obtain ⟨f, hf⟩ : ∃ f, fs[k] = f := ⟨_, rfl⟩
      have hc := fun j hj => ((HF.out.below hB hb) k hlt j hj)
      rw [hf] at hc
      have HFe := Lib.hid hf
      clear hf
      have c0 := hc 0 (by omega)
      have c1 := hc 1 (by omega)
      have c2 := hc 2 (by omega)
      have c3 := hc 3 (by omega)
      have c4 := hc 4 (by omega)
      have c5 := hc 5 (by omega)
      have c6 := hc 6 (by omega)
      have c7 := hc 7 (by omega)
      unfold Form.cells at c0 c1 c2 c3 c4 c5 c6 c7
      clear hc
      simp only [Nat.add_zero] at c0
      cases hk : okB f
      · have HC := Lib.hid (shapeOf_bad f.p f.l f.r f.a f.b f.s f.t f.h · hk)
        have HO := Lib.hid hk
        clear hk
        go_wp2_with fail
        refine (HC.out _).mono ?_
        rintro e w2 ⟨rfl, hb2⟩
        have hB2 : Below w.heap.size w w2 := stepB (by go_grown) hb2
        have hs2 := hB2.size
        have hbad := tab_bad hl hlt (by rw [HFe.out]; exact HO.out)
        have HB := Lib.hid hbad
        clear hb2 c0 c1 c2 c3 c4 c5 c6 c7 HC hown hA hbad
        unfold shape0
        go_wp2
        go_returns
        exact ⟨by go_grown, .inl ⟨by rw [HB.out]; decide, by rw [HB.out]; rfl⟩⟩
      · have HC := Lib.hid (shapeOf_good f.p f.l f.r f.a f.b f.s f.t f.h · hk)
        have HO := Lib.hid hk
        clear hk
        go_wp2_with fail
        refine (HC.out _).mono ?_
        rintro e w2 ⟨rfl, hb2⟩
        have hB2 : Below w.heap.size w w2 := stepB (by go_grown) hb2
        have hs2 := hB2.size
        have hown2 := ownsRow_below (hown.alloc _) hb2
        clear hb2 c0 c1 c2 c3 c4 c5 c6 c7 HC hown
        unfold shapeV
        go_wp2_with (at_builtin; go_must (refine wpList_append_own _ rfl _ _ 104 rfl w.heap.size 96 i0 shape0 11 88 Try.underlying104 hi hz0 hz1 hz2 rfl (by decide) _ k (flatS (fs.take k)) rfl ((hown2.alloc _).alloc _) ⟨w2.heap.size + 1, 0, none⟩ 1 1 f.shape rfl rfl (shape_news f (Box.newAt _ _ _ (by simp))) (shape_one f) (by unfold maxLen; omega) (by omega) (by simp; omega) ?_); intro v' w3 hown3 hg3 _)
        have hB3 : Below w.heap.size w w3 := by
          refine Below.grown (w := (w2.alloc _).alloc _) (by go_grown) hg3 (by simp; omega) (fun g e => ?_)
          exact (hown2.lt g e).1
        rw [show flatS (fs.take k) ++ f.shape = flatS (fs.take (k + 1)) from by rw [flatS_take fs k hlt, HFe.out]] at hown3
        clear hown2 hg3 hB2
        go_wp2
        go_roundw
        case rel => exact ⟨k + 1, by omega, by go_num, hown3, hB3, fun j h hj => by
          by_cases e : j = k
          · subst e; rw [HFe.out]; exact HO.out
          · exact hA.out j h (by omega)⟩
        case measure => simp [intOf]; omega
    · have hk' : k = fs.length := by omega
      have hgood := tab_good hl (fun j h => hA.out j h (by omega))
      have HG := Lib.hid hgood
      have hown' : wr.ownsRow w.heap.size 96 11 u4 fs.length (flatS fs) := by rw [hk', List.take_length] at hown; exact hown
      have HO := Lib.hid hown'
      clear hown hown' hgood hA hk'
      go_wp2
      go_returns
      exact ⟨hB, .inr ⟨HG.out, _, rfl, HO.out⟩⟩
end Go.Proofs.Ytloleaahelmdjaa
