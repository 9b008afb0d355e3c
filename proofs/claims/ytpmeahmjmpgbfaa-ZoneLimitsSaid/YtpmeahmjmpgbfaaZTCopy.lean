/- acmelaw02.table: a copy of a table. Made by tools/gen_ztcopy.py. -/
import Derived.Test.YtpmeahmjmpgbfaaZCopy
import Derived.Test.YtpmeahmjmpgbfaaZLarge
import Derived.Test.YtpmeahmjmpgbfaaFloatC
import Derived.LoopNIn
import Derived.Deep.DeepCutAuto
namespace Go.Proofs.Ytpmeahmjmpgbfaa
open Go.ChangeShapes Go.WideShapes Go.ChangeAt Go.RowKit
set_option linter.unusedVariables false
set_option linter.unusedSimpArgs false

theorem own_ne {w : World} {b b' : Nat} {e e' : TypeId} {z z' n n' : Nat} {v v' : Value} {xs xs' : List Value} (h : w.ownsRow b e z v n xs) (h' : w.ownsRow b' e' z' v' n' xs') (hne : e ≠ e') : v.ownBlock = none ∨ v.ownBlock ≠ v'.ownBlock := by
  rcases h.2 with ⟨rfl, _⟩ | ⟨g, cap, cur, rfl, _, hh, _⟩
  · exact .inl rfl
  · refine .inr fun he => ?_
    rcases h'.2 with ⟨rfl, _⟩ | ⟨g', cap', cur', rfl, _, hh', _⟩
    · simp [Value.ownBlock] at he
    · simp only [Value.ownBlock, Option.some.injEq] at he
      subst he
      rw [hh] at hh'
      injection hh' with hh'
      injection hh' with _ ht
      exact hne ht
/-- A block that is known whole. -/
def Whole (w : World) (g : Nat) (t : TypeId) (cs : Array Value) : Prop := w.heap[g]? = some (.cells cs t (0, 0))
theorem Whole.lt {w : World} {g : Nat} {t : TypeId} {cs : Array Value} (h : Whole w g t cs) : g < w.heap.size := (Array.getElem?_eq_some_iff.1 h).1
theorem Whole.box {w : World} {g : Nat} {t : TypeId} {cs : Array Value} (h : Whole w g t cs) : Box w g cs := ⟨h.lt, cell_at h, free_at h⟩
theorem Whole.below {w w' : World} {g : Nat} {t : TypeId} {cs : Array Value} (h : Whole w g t cs) (hb : Below w.heap.size w w') : Whole w' g t cs := (hb.block g h.lt).trans h
theorem Whole.set {w : World} {g : Nat} {t : TypeId} {cs : Array Value} (h : Whole w g t cs) (i : Nat) (u : Value) : Whole (w.setCell ⟨g, i, none⟩ u) g t (cs.setIfInBounds i u) := by
  unfold Whole at h ⊢
  simp [World.setCell, Array.getElem?_modify, h]
theorem Whole.grown {w w' : World} {g : Nat} {t e : TypeId} {cs : Array Value} {b z n : Nat} {v : Value} {xs : List Value} (h : Whole w g t cs) (ho : w.ownsRow b e z v n xs) (hne : t ≠ e) (hg : w.grownBy w' v.ownBlock) : Whole w' g t cs := by
  refine (hg.block g h.lt fun he => ?_).trans h
  rcases ho.2 with ⟨rfl, _⟩ | ⟨g', cap, cur, rfl, _, hh, _⟩
  · simp [Value.ownBlock] at he
  · simp only [Value.ownBlock, Option.some.injEq] at he
    subst he
    unfold Whole at h
    rw [h] at hh
    injection hh with hh
    injection hh with _ ht
    exact hne ht
theorem own_below {w w' : World} {b z n : Nat} {e : TypeId} {v : Value} {xs : List Value} (h : w.ownsRow b e z v n xs) (hb : Below w.heap.size w w') : w'.ownsRow b e z v n xs := by
  refine ⟨h.1, ?_⟩
  rcases h.2 with hn | ⟨g, cap, cur, rfl, hbb, hgg, rest⟩
  · exact .inl hn
  · exact .inr ⟨g, cap, cur, rfl, hbb, (hb.block g (Array.getElem?_eq_some_iff.1 hgg).1).trans hgg, rest⟩
theorem own_set {w : World} {b z n g i : Nat} {e t : TypeId} {v u : Value} {xs : List Value} {cs : Array Value} (h : w.ownsRow b e z v n xs) (hw : Whole w g t cs) (hne : e ≠ t) : (w.setCell ⟨g, i, none⟩ u).ownsRow b e z v n xs := by
  refine ⟨h.1, ?_⟩
  rcases h.2 with hn | ⟨g', cap, cur, rfl, hbb, hgg, rest⟩
  · exact .inl hn
  · refine .inr ⟨g', cap, cur, rfl, hbb, (Below.heap_setCell w _ _ _ fun he => ?_).trans hgg, rest⟩
    subst he
    unfold Whole at hw
    rw [hw] at hgg
    injection hgg with hgg
    injection hgg with _ ht
    exact hne ht.symm
theorem own_base {w : World} {b b' z n : Nat} {e : TypeId} {v : Value} {xs : List Value} (h : w.ownsRow b e z v n xs) (hb : b' ≤ b) : w.ownsRow b' e z v n xs := by
  refine ⟨h.1, ?_⟩
  rcases h.2 with hn | ⟨g, cap, cur, rfl, hbb, hgg, rest⟩
  · exact .inl hn
  · exact .inr ⟨g, cap, cur, rfl, by omega, hgg, rest⟩
/-- Rows of the call's own. -/
def OwnRows (w : World) (base : Nat) (v : Value) (ls : List (List Int)) : Prop := ∃ us : List Value, us.length = ls.length ∧ w.ownsRow base 31 1 v ls.length us ∧ ∀ (j : Nat) (u : Value) (x : List Int), us[j]? = some u → ls[j]? = some x → OwnI w base u x
theorem OwnRows.below {w w' : World} {base : Nat} {v : Value} {ls : List (List Int)} (h : OwnRows w base v ls) (hb : Below w.heap.size w w') : OwnRows w' base v ls := by
  obtain ⟨us, h1, h2, h3⟩ := h
  exact ⟨us, h1, own_below h2 hb, fun j u x hu hx => own_below (h3 j u x hu hx) hb⟩
theorem OwnRows.set {w : World} {base g i : Nat} {v u : Value} {cs : Array Value} {ls : List (List Int)} (h : OwnRows w base v ls) (hw : Whole w g 63 cs) : OwnRows (w.setCell ⟨g, i, none⟩ u) base v ls := by
  obtain ⟨us, h1, h2, h3⟩ := h
  exact ⟨us, h1, own_set h2 hw (by decide), fun j u x hu hx => own_set (h3 j u x hu hx) hw (by decide)⟩
theorem OwnRows.base {w : World} {b b' : Nat} {v : Value} {ls : List (List Int)} (h : OwnRows w b v ls) (hb : b' ≤ b) : OwnRows w b' v ls := by
  obtain ⟨us, h1, h2, h3⟩ := h
  exact ⟨us, h1, own_base h2 hb, fun j u x hu hx => own_base (h3 j u x hu hx) hb⟩
theorem ownRows_nil (w : World) (base : Nat) : OwnRows w base (.slice none 0 0) [] := ⟨[], rfl, ⟨rfl, .inl ⟨rfl, rfl⟩⟩, fun j u x hu _ => by simp at hu⟩
/-- Other rows are kept by an append. -/
theorem OwnRows.kept {w w' : World} {base : Nat} {v v2 : Value} {us : List Value} {n : Nat} {ls : List (List Int)} (h : OwnRows w base v ls) (ho : w.ownsRow base 31 1 v2 n us) (hne : v.ownBlock = none ∨ v.ownBlock ≠ v2.ownBlock) (hg : w.grownBy w' v2.ownBlock) : OwnRows w' base v ls := by
  obtain ⟨us, h1, h2, h3⟩ := h
  exact ⟨us, h1, h2.kept hg hne, fun j u x hu hx => World.ownsRow.kept (h3 j u x hu hx) hg (own_ne (h3 j u x hu hx) ho (by decide))⟩
/-- A row appended. -/
theorem OwnRows.snoc {w w' : World} {base : Nat} {v v' u : Value} {us : List Value} {ls : List (List Int)} {x : List Int} (h1 : us.length = ls.length) (h2 : w.ownsRow base 31 1 v ls.length us) (h3 : ∀ (j : Nat) (u : Value) (x : List Int), us[j]? = some u → ls[j]? = some x → OwnI w base u x)
    (hu : OwnI w base u x) (hown : w'.ownsRow base 31 1 v' (ls.length + 1) (us ++ [u])) (hg : w.grownBy w' v.ownBlock) : OwnRows w' base v' (ls ++ [x]) := by
  have keep : ∀ {u x}, OwnI w base u x → OwnI w' base u x := fun h => World.ownsRow.kept h hg (own_ne h h2 (by decide))
  refine ⟨us ++ [u], by simp [h1], by simpa using hown, fun j u' x' hu' hx' => ?_⟩
  rcases Nat.lt_or_ge j us.length with hj | hj
  · rw [List.getElem?_append_left hj] at hu'
    rw [List.getElem?_append_left (by omega)] at hx'
    exact keep (h3 j u' x' hu' hx')
  · rw [List.getElem?_append_right hj] at hu'
    rw [List.getElem?_append_right (by omega)] at hx'
    have e0 : j - us.length = 0 := by
      rcases Nat.eq_zero_or_pos (j - us.length) with h | h
      · exact h
      · rw [List.getElem?_eq_none (by simp; omega)] at hu'; cases hu'
    rw [e0] at hu'
    rw [← h1, e0] at hx'
    simp at hu' hx'
    subst hu' hx'
    exact keep hu

theorem row_info : (Try.prog.info? 31).map (fun i => (i.zero, i.size, i.bytes)) = some (some (.slice none 0 0), 1, 24) := by kernel_rfl
theorem Box.kept {w w' : World} {g B : Nat} {cs : Array Value} (h : Box w g cs) (hg : g < B) (hb : Below B w w') (hB : B ≤ w.heap.size) : Box w' g cs :=
  ⟨Nat.lt_of_lt_of_le h.1 hb.size, fun i => (hb.cell (p := ⟨g, i, none⟩) hg).trans (h.2.1 i), fun i => by
    have e := hb.block g hg
    have := h.2.2 i
    unfold World.frozen? at this ⊢
    rw [e]
    exact this⟩
theorem own_form {w : World} {b z n : Nat} {e : TypeId} {v : Value} {xs : List Value} (h : w.ownsRow b e z v n xs) : ∃ A c, v = .slice A n c := by
  rcases h.2 with ⟨rfl, rfl⟩ | ⟨g, cap, cur, rfl, _⟩
  · exact ⟨none, 0, rfl⟩
  · exact ⟨_, cap, rfl⟩
theorem own_one {w : World} {b : Nat} {v : Value} {x : List Int} (h : OwnI w b v x) : v.oneCell' = true := by
  rcases h.2 with ⟨rfl, _⟩ | ⟨g, cap, cur, rfl, _⟩ <;> rfl
theorem own_lt {w : World} {b z n : Nat} {e : TypeId} {v : Value} {xs : List Value} (h : w.ownsRow b e z v n xs) {g : Nat} (hg : v.ownBlock = some g) : b ≤ g ∧ g < w.heap.size := by
  rcases h.2 with ⟨rfl, _⟩ | ⟨g', cap, cur, rfl, hb, hh, _⟩
  · simp [Value.ownBlock] at hg
  · simp only [Value.ownBlock, Option.some.injEq] at hg
    subst hg
    exact ⟨hb, (Array.getElem?_eq_some_iff.1 hh).1⟩
set_option maxRecDepth 100000 in
set_option maxHeartbeats 16000000 in
theorem table_any (ss : List Int) (gs ps : List (List Int)) (sa ga pa : Option Addr) (sc gc pc : Nat) (w : World) (h : TabW w ss gs ps sa ga pa sc) (hS : SmallT ss gs ps) :
    Calls Try.prog 28 #[.agg #[.slice sa ss.length sc, .slice ga gs.length gc, .slice pa ps.length pc]] w fun e w' => (∃ v0 gv pv, e = .returned (.agg #[v0, gv, pv]) ∧ OwnI w' w.heap.size v0 ss ∧ OwnRows w' w.heap.size gv gs ∧ OwnRows w' w.heap.size pv ps) ∧ Below w.heap.size w w' := by
  obtain ⟨i0, hi0, hz0, hz1', hz2⟩ := info_parts row_info
  have hur := Try.underlying61
  obtain ⟨⟨hsn, -, -, -⟩, hs, hg, hp⟩ := h
  obtain ⟨s1, s2, s3, s4, s5⟩ := hS
  have HG := Lib.hid hg
  have HP := Lib.hid hp
  have H251 := Lib.hid s4
  have H252 := Lib.hid s5
  have HL251 := Lib.hid (show gs.length ≤ 25 by omega)
  have HL252 := Lib.hid (show ps.length ≤ 25 by omega)
  have m1 : ss.length ≤ 4611686018427387904 := by omega
  have m2 : gs.length ≤ 4611686018427387904 := by omega
  have m3 : ps.length ≤ 4611686018427387904 := by omega
  have hl : ss.length ≤ 1000 := by omega
  clear hg hp s1 s2 s3 s4 s5
  go_enter Try.func28, Try.ntmps28
  go_wp2_with fail
  have X1 : Box ((w.alloc (.cells #[.slice sa ss.length sc, .slice ga gs.length gc, .slice pa ps.length pc] 63)).alloc (.cells #[.slice none 0 0, .slice none 0 0, .slice none 0 0] 63)) w.heap.size #[.slice sa ss.length sc, .slice ga gs.length gc, .slice pa ps.length pc] := Box.alloc (Box.new w _ _) _
  have X2 : Whole ((w.alloc (.cells #[.slice sa ss.length sc, .slice ga gs.length gc, .slice pa ps.length pc] 63)).alloc (.cells #[.slice none 0 0, .slice none 0 0, .slice none 0 0] 63)) (w.heap.size + 1) 63 #[.slice none 0 0, .slice none 0 0, .slice none 0 0] := by
    unfold Whole
    rw [show w.heap.size + 1 = (w.alloc (.cells #[.slice sa ss.length sc, .slice ga gs.length gc, .slice pa ps.length pc] 63)).heap.size from (World.size_alloc _ _).symm]
    exact heap_alloc_new _ _
  have hBw2 : Below w.heap.size w ((w.alloc (.cells #[.slice sa ss.length sc, .slice ga gs.length gc, .slice pa ps.length pc] 63)).alloc (.cells #[.slice none 0 0, .slice none 0 0, .slice none 0 0] 63)) := by go_grown
  have hs2 := hs.below intE_stable hBw2
  generalize ((w.alloc (.cells #[.slice sa ss.length sc, .slice ga gs.length gc, .slice pa ps.length pc] 63)).alloc (.cells #[.slice none 0 0, .slice none 0 0, .slice none 0 0] 63)) = w2 at *
  refine (ints_any ss sa sc w2 hl hsn hs2).mono ?_
  rintro e w3 ⟨v0, rfl, ho3, hb3⟩
  obtain ⟨A0, c0, rfl⟩ := own_form ho3
  have hW3 : Whole (w3.alloc (.cells #[.slice A0 ss.length c0, .slice none 0 0, .slice none 0 0] 63)) w3.heap.size 63 #[.slice A0 ss.length c0, .slice none 0 0, .slice none 0 0] := heap_alloc_new w3 _
  have ho3' : OwnI (w3.alloc (.cells #[.slice A0 ss.length c0, .slice none 0 0, .slice none 0 0] 63)) w2.heap.size (.slice A0 ss.length c0) ss := World.ownsRow.alloc ho3 _
  have hB3w : Below w2.heap.size w2 (w3.alloc (.cells #[.slice A0 ss.length c0, .slice none 0 0, .slice none 0 0] 63)) := hb3.alloc hb3.size _
  have hB3 : w2.heap.size ≤ w3.heap.size := hb3.size
  clear ho3 hb3 hs2 hs
  go_wp2
  generalize w3.heap.size = B3 at *
  go_loopw [4] (fun i wr => ∃ k : Nat, k ≤ gs.length ∧ i = .int .i64 k ∧ Hid (∃ gv, Whole wr B3 63 #[.slice A0 ss.length c0, gv, .slice none 0 0] ∧ OwnI wr w2.heap.size (.slice A0 ss.length c0) ss ∧ OwnRows wr w2.heap.size gv (gs.take k)) ∧ Below w2.heap.size w2 wr) (fun i _ => gs.length - (intOf i).toNat)
  case atStart => exact ⟨0, Nat.zero_le _, rfl, Lib.hid ⟨_, hW3, ho3', ownRows_nil _ _⟩, hB3w⟩
  case round =>
    clear hW3 ho3' hB3w
    obtain ⟨k, hk, rfl, hin, hBw⟩ := hrel
    obtain ⟨gv, hW, hO, hR⟩ := hin.out
    have X1r := X1.kept X1.1 hBw (Nat.le_refl _)
    by_cases hlt : k < gs.length
    · obtain ⟨b, off, r, ra, rc, ha, hb, hx, hcu, hrm, hrn, hrs⟩ := row_n HG.out hlt
      have hlr : r.length ≤ 1000 := by have := H251.out r (List.mem_of_getElem? hx); omega
      have hbB : b < w2.heap.size := Nat.lt_of_lt_of_le hb hBw2.size
      have hz1 : b < wr.heap.size := Nat.lt_of_lt_of_le hbB hBw.size
      have hcr : wr.cell? ⟨b, off + k, none⟩ = some (.slice ra r.length rc) := ((hBw.cell (p := ⟨b, off + k, none⟩) hbB).trans ((hBw2.cell (p := ⟨b, off + k, none⟩) hb).trans hcu))
      have hrs' : SlA IntE wr ra r := (hrs.below intE_stable hBw2).below intE_stable hBw
      have HT : Hid (gs.take (k + 1) = gs.take k ++ [r]) := Lib.hid (by
        rw [List.take_succ_eq_append_getElem hlt]
        congr 2
        rw [List.getElem?_eq_getElem hlt] at hx
        exact Option.some.inj hx)
      subst ha
      have HBX := Lib.hid (And.intro hW.box X1r)
      clear hx hcu hrs X1r
      have cc1 := HBX.out.2.2.1
      have ll1 := HBX.out.2.1
      go_wp2
      clear cc1 ll1
      refine wp_region_floatC 7 24 25 (fun v W => OwnI W w2.heap.size v r) 31 (fun g => .slice (some ⟨g, 0, none⟩) 1 1) (by kernel_rfl) (by kernel_rfl) (fun v W W' h hb => own_below h hb) ?E
      case E =>
      apply Exists.intro
      apply And.intro
      · intro X' hX
        have rd3 := fun dz os => ((HBX.out.1.below hX).regrown dz os).2.1
        have rd1 := fun dz os => ((HBX.out.2.below hX).regrown dz os).2.1
        have rq := fun dz os => ((below_regrown X' dz os).cell (p := ⟨b, off + k, none⟩) (Nat.lt_of_lt_of_le hz1 hX.size)).trans ((hX.cell (p := ⟨b, off + k, none⟩) hz1).trans hcr)
        simp only [List.take_succ_cons, List.take_zero]
        unfold InB
        repeat ((with_reducible refine wpQuiet_step (fun K hK => ?_)); go_simp; ((with_reducible refine hK _ ?_); clear hK K))
        exact wpQuiet_nil rfl
      apply And.intro
      · refine ⟨_, rfl, rfl, 88, #[.slice ra r.length rc], fun W => ?_, fun W hW9 => ?_⟩
        · simp only [execOp, Act.eval]
          go_simp
        · refine (ints_any r ra rc W hlr hrn (hrs'.below intE_stable hW9)).mono ?_
          rintro e w9 ⟨v, rfl, hv, hb9⟩
          exact ⟨v, rfl, hb9, own_base hv (Nat.le_trans hBw.size hW9.size)⟩
      apply And.intro
      · rintro u ⟨W9, hu9⟩
        obtain ⟨Au, cu, rfl⟩ := own_form hu9
        refine ⟨_, rfl, rfl, fun W => ?_⟩
        simp only [execOp, Act.put, Act.eval]
        go_simp
      intro u g1 w5 hb5 hu hBx hg1
      have hW5 := hW.below hb5
      have hO5 := own_below hO hb5
      have hR5 := hR.below hb5
      obtain ⟨us, hus, hrow, heach⟩ := hR5
      have hlen : (gs.take k).length = k := by rw [List.length_take]; omega
      rw [hlen] at hrow
      have hk25 : k ≤ 25 := by have := HL251.out; omega
      have hB5 : Below w2.heap.size w2 w5 := hBw.trans (hb5.mono hBw.size)
      simp only [List.drop_succ_cons, List.drop_zero, Act.put]
      refine wpList_append_own_at _ rfl (.tmp 18) (.tmp 25) 61 rfl w2.heap.size 31 i0 _ 1 24 hur hi0 hz0 hz1' hz2 rfl (by omega) _ k us rfl hrow ⟨g1, 0, none⟩ 1 1 [u] rfl rfl (fun j x hx => by
        cases j with
        | zero => simp at hx; subst hx; simpa [Addr.add] using hBx.2.1 0
        | succ j => simp at hx) (fun x hx => by simp at hx; subst hx; exact own_one hu) (by simp only [maxLen]; omega) (by omega) hB5.size ?_
      intro v7 w7 hown7 hg7 _ hat7
      obtain ⟨A7, c7, rfl⟩ := own_form hown7
      have hW7 := hW5.grown hrow (by decide) hg7
      have hO7 : OwnI w7 w2.heap.size (.slice A0 ss.length c0) ss := World.ownsRow.kept hO5 hg7 (own_ne hO5 hrow (by decide))
      have hR7 : OwnRows w7 w2.heap.size (Value.slice A7 (k + 1) c7) (gs.take k ++ [r]) := OwnRows.snoc hus (by rw [hlen]; exact hrow) heach hu (by rw [hlen]; exact hown7) hg7
      have hB7 : Below w2.heap.size w2 w7 := hB5.grown hg7 hB5.size (fun g hg => (own_lt hrow hg).1)
      rw [← HT.out] at hR7
      have HREL := Lib.hid (show (∃ gv, Whole (w7.setCell ⟨B3, 1, none⟩ (Value.slice A7 (k + 1) c7)) B3 63 #[.slice A0 ss.length c0, gv, .slice none 0 0] ∧ OwnI (w7.setCell ⟨B3, 1, none⟩ (Value.slice A7 (k + 1) c7)) w2.heap.size (.slice A0 ss.length c0) ss ∧ OwnRows (w7.setCell ⟨B3, 1, none⟩ (Value.slice A7 (k + 1) c7)) w2.heap.size gv (gs.take (k + 1))) ∧ Below w2.heap.size w2 (w7.setCell ⟨B3, 1, none⟩ (Value.slice A7 (k + 1) c7)) from
        ⟨⟨(Value.slice A7 (k + 1) c7), (by simpa using hW7.set 1 (Value.slice A7 (k + 1) c7)), own_set hO7 hW7 (by decide), hR7.set hW7⟩, Below.setCell hB7 (p := ⟨B3, 1, none⟩) hB3 (Value.slice A7 (k + 1) c7)⟩)
      have cc7 := hW7.box.2.1
      have ff7 := hW7.box.2.2
      have ll7 := hW7.box.1
      clear hown7 hg7 hat7 hR7 hO7 hB7
      go_upto_region 4 with fail
      clear cc7 ff7 ll7 hW7
      generalize w7.setCell ⟨B3, 1, none⟩ (Value.slice A7 (k + 1) c7) = w8 at *
      go_wp2
      go_roundw
      case rel => exact ⟨k + 1, by omega, by go_num, Lib.hid HREL.out.1, HREL.out.2⟩
      case measure => simp [intOf]; omega
    · have hk' : k = gs.length := by omega
      have hR' : OwnRows wr w2.heap.size gv gs := by rw [hk', List.take_of_length_le (Nat.le_refl _)] at hR; exact hR
      have dk : decide ((k : Int) < gs.length) = false := decide_eq_false (by omega)
      have HX := Lib.hid X1r
      clear hk' hR hin X1r
      have cc1 := HX.out.2.1
      have ll1 := HX.out.1
      obtain ⟨gd, rfl⟩ : ∃ x, x = gv := ⟨_, rfl⟩
      go_wp2
      go_loopw [5] (fun i wr => ∃ q : Nat, q ≤ ps.length ∧ i = .int .i64 q ∧ Hid (∃ gv, Whole wr B3 63 #[.slice A0 ss.length c0, gd, gv] ∧ OwnI wr w2.heap.size (.slice A0 ss.length c0) ss ∧ OwnRows wr w2.heap.size gv (ps.take q) ∧ OwnRows wr w2.heap.size gd gs ∧ (∀ g, gd.ownBlock = some g → gv.ownBlock ≠ some g)) ∧ Below w2.heap.size w2 wr) (fun i _ => ps.length - (intOf i).toNat)
      case atStart => exact ⟨0, Nat.zero_le _, rfl, Lib.hid ⟨_, hW, hO, ownRows_nil _ _, hR', (fun g _ h => by simp [Value.ownBlock] at h)⟩, hBw⟩
      case round =>
        clear hW hO hR' hBw cc1 ll1 HX dk
        obtain ⟨q, hq, rfl, hin, hBw⟩ := hrel
        obtain ⟨gv, hW, hO, hR, hGD, hND⟩ := hin.out
        have X1r := X1.kept X1.1 hBw (Nat.le_refl _)
        by_cases hlt : q < ps.length
        · obtain ⟨b, off, r, ra, rc, ha, hb, hx, hcu, hrm, hrn, hrs⟩ := row_n HP.out hlt
          have hlr : r.length ≤ 1000 := by have := H252.out r (List.mem_of_getElem? hx); omega
          have hbB : b < w2.heap.size := Nat.lt_of_lt_of_le hb hBw2.size
          have hz1 : b < wr.heap.size := Nat.lt_of_lt_of_le hbB hBw.size
          have hcr : wr.cell? ⟨b, off + q, none⟩ = some (.slice ra r.length rc) := ((hBw.cell (p := ⟨b, off + q, none⟩) hbB).trans ((hBw2.cell (p := ⟨b, off + q, none⟩) hb).trans hcu))
          have hrs' : SlA IntE wr ra r := (hrs.below intE_stable hBw2).below intE_stable hBw
          have HT : Hid (ps.take (q + 1) = ps.take q ++ [r]) := Lib.hid (by
            rw [List.take_succ_eq_append_getElem hlt]
            congr 2
            rw [List.getElem?_eq_getElem hlt] at hx
            exact Option.some.inj hx)
          subst ha
          have HBX := Lib.hid (And.intro hW.box X1r)
          clear hx hcu hrs X1r
          have cc1 := HBX.out.2.2.1
          have ll1 := HBX.out.2.1
          go_wp2
          clear cc1 ll1
          refine wp_region_floatC 7 42 43 (fun v W => OwnI W w2.heap.size v r) 31 (fun g => .slice (some ⟨g, 0, none⟩) 1 1) (by kernel_rfl) (by kernel_rfl) (fun v W W' h hb => own_below h hb) ?E
          case E =>
          apply Exists.intro
          apply And.intro
          · intro X' hX
            have rd3 := fun dz os => ((HBX.out.1.below hX).regrown dz os).2.1
            have rd1 := fun dz os => ((HBX.out.2.below hX).regrown dz os).2.1
            have rq := fun dz os => ((below_regrown X' dz os).cell (p := ⟨b, off + q, none⟩) (Nat.lt_of_lt_of_le hz1 hX.size)).trans ((hX.cell (p := ⟨b, off + q, none⟩) hz1).trans hcr)
            simp only [List.take_succ_cons, List.take_zero]
            unfold InB
            repeat ((with_reducible refine wpQuiet_step (fun K hK => ?_)); go_simp; ((with_reducible refine hK _ ?_); clear hK K))
            exact wpQuiet_nil rfl
          apply And.intro
          · refine ⟨_, rfl, rfl, 88, #[.slice ra r.length rc], fun W => ?_, fun W hW9 => ?_⟩
            · simp only [execOp, Act.eval]
              go_simp
            · refine (ints_any r ra rc W hlr hrn (hrs'.below intE_stable hW9)).mono ?_
              rintro e w9 ⟨v, rfl, hv, hb9⟩
              exact ⟨v, rfl, hb9, own_base hv (Nat.le_trans hBw.size hW9.size)⟩
          apply And.intro
          · rintro u ⟨W9, hu9⟩
            obtain ⟨Au, cu, rfl⟩ := own_form hu9
            refine ⟨_, rfl, rfl, fun W => ?_⟩
            simp only [execOp, Act.put, Act.eval]
            go_simp
          intro u g1 w5 hb5 hu hBx hg1
          have hW5 := hW.below hb5
          have hO5 := own_below hO hb5
          have hR5 := hR.below hb5
          have hGD5 := hGD.below hb5
          obtain ⟨us, hus, hrow, heach⟩ := hR5
          have hlen : (ps.take q).length = q := by rw [List.length_take]; omega
          rw [hlen] at hrow
          have hk25 : q ≤ 25 := by have := HL252.out; omega
          have hB5 : Below w2.heap.size w2 w5 := hBw.trans (hb5.mono hBw.size)
          simp only [List.drop_succ_cons, List.drop_zero, Act.put]
          refine wpList_append_own_at _ rfl (.tmp 36) (.tmp 43) 61 rfl w2.heap.size 31 i0 _ 1 24 hur hi0 hz0 hz1' hz2 rfl (by omega) _ q us rfl hrow ⟨g1, 0, none⟩ 1 1 [u] rfl rfl (fun j x hx => by
            cases j with
            | zero => simp at hx; subst hx; simpa [Addr.add] using hBx.2.1 0
            | succ j => simp at hx) (fun x hx => by simp at hx; subst hx; exact own_one hu) (by simp only [maxLen]; omega) (by omega) hB5.size ?_
          intro v7 w7 hown7 hg7 _ hat7
          obtain ⟨A7, c7, rfl⟩ := own_form hown7
          have hW7 := hW5.grown hrow (by decide) hg7
          have hO7 : OwnI w7 w2.heap.size (.slice A0 ss.length c0) ss := World.ownsRow.kept hO5 hg7 (own_ne hO5 hrow (by decide))
          have hR7 : OwnRows w7 w2.heap.size (Value.slice A7 (q + 1) c7) (ps.take q ++ [r]) := OwnRows.snoc hus (by rw [hlen]; exact hrow) heach hu (by rw [hlen]; exact hown7) hg7
          have hGD7 := hGD5.kept hrow (by
            cases hgo : gd.ownBlock with
            | none => obtain ⟨us2, _, q2, _⟩ := hGD5; exact .inl rfl
            | some g => exact .inr fun he => hND g hgo he.symm) hg7
          have hND7 : ∀ g, gd.ownBlock = some g → (Value.slice A7 (q + 1) c7).ownBlock ≠ some g := by
            intro g hg he
            rcases hat7 with h | h
            · exact hND g hg (h.symm.trans he)
            · have hlt5 : g < w5.heap.size := by
                obtain ⟨us2, _, q2, _⟩ := hGD5
                exact (own_lt q2 hg).2
              have := Option.some.inj (h.symm.trans he)
              omega
          have hB7 : Below w2.heap.size w2 w7 := hB5.grown hg7 hB5.size (fun g hg => (own_lt hrow hg).1)
          rw [← HT.out] at hR7
          have HREL := Lib.hid (show (∃ gv, Whole (w7.setCell ⟨B3, 2, none⟩ (Value.slice A7 (q + 1) c7)) B3 63 #[.slice A0 ss.length c0, gd, gv] ∧ OwnI (w7.setCell ⟨B3, 2, none⟩ (Value.slice A7 (q + 1) c7)) w2.heap.size (.slice A0 ss.length c0) ss ∧ OwnRows (w7.setCell ⟨B3, 2, none⟩ (Value.slice A7 (q + 1) c7)) w2.heap.size gv (ps.take (q + 1)) ∧ OwnRows (w7.setCell ⟨B3, 2, none⟩ (Value.slice A7 (q + 1) c7)) w2.heap.size gd gs ∧ (∀ g, gd.ownBlock = some g → gv.ownBlock ≠ some g)) ∧ Below w2.heap.size w2 (w7.setCell ⟨B3, 2, none⟩ (Value.slice A7 (q + 1) c7)) from
            ⟨⟨(Value.slice A7 (q + 1) c7), (by simpa using hW7.set 2 (Value.slice A7 (q + 1) c7)), own_set hO7 hW7 (by decide), hR7.set hW7, hGD7.set hW7, hND7⟩, Below.setCell hB7 (p := ⟨B3, 2, none⟩) hB3 (Value.slice A7 (q + 1) c7)⟩)
          have cc7 := hW7.box.2.1
          have ff7 := hW7.box.2.2
          have ll7 := hW7.box.1
          clear hown7 hg7 hat7 hR7 hO7 hB7
          go_upto_region 8 with fail
          clear cc7 ff7 ll7 hW7
          generalize w7.setCell ⟨B3, 2, none⟩ (Value.slice A7 (q + 1) c7) = w8 at *
          go_wp2
          go_roundw
          case rel => exact ⟨q + 1, by omega, by go_num, Lib.hid HREL.out.1, HREL.out.2⟩
          case measure => simp [intOf]; omega
        · have hk' : q = ps.length := by omega
          have hR' : OwnRows wr w2.heap.size gv ps := by rw [hk', List.take_of_length_le (Nat.le_refl _)] at hR; exact hR
          have dk : decide ((q : Int) < ps.length) = false := decide_eq_false (by omega)
          have HX := Lib.hid X1r
          clear hk' hR hin X1r
          have cc1 := HX.out.2.1
          have ll1 := HX.out.1
          have X2r : Whole wr (w.heap.size + 1) 63 #[.slice none 0 0, .slice none 0 0, .slice none 0 0] := (hBw.block _ X2.lt).trans X2
          obtain ⟨Ad, cd, rfl⟩ : ∃ A c, gd = Value.slice A gs.length c := by obtain ⟨_, _, q, _⟩ := hGD; exact own_form q
          obtain ⟨Ag, cg, rfl⟩ : ∃ A c, gv = Value.slice A ps.length c := by obtain ⟨_, _, q, _⟩ := hR'; exact own_form q
          have hle : w.heap.size ≤ w2.heap.size := hBw2.size
          have X3r := X2r.set 0 (Value.slice A0 ss.length c0)
          have X4r := X3r.set 1 (Value.slice Ad gs.length cd)
          have HF := Lib.hid (And.intro (own_base (own_set (i := 2) (u := Value.slice Ag ps.length cg) (own_set (i := 1) (u := Value.slice Ad gs.length cd) (own_set (i := 0) (u := Value.slice A0 ss.length c0) hO X2r (by decide)) X3r (by decide)) X4r (by decide)) hle)
            (And.intro ((((hGD.set (i := 0) (u := Value.slice A0 ss.length c0) X2r).set (i := 1) (u := Value.slice Ad gs.length cd) X3r).set (i := 2) (u := Value.slice Ag ps.length cg) X4r).base hle)
            (And.intro ((((hR'.set (i := 0) (u := Value.slice A0 ss.length c0) X2r).set (i := 1) (u := Value.slice Ad gs.length cd) X3r).set (i := 2) (u := Value.slice Ag ps.length cg) X4r).base hle)
              (Below.setCell (Below.setCell (Below.setCell (stepB hBw2 hBw) (p := ⟨w.heap.size + 1, 0, none⟩) (by simp) (Value.slice A0 ss.length c0)) (p := ⟨w.heap.size + 1, 1, none⟩) (by simp) (Value.slice Ad gs.length cd)) (p := ⟨w.heap.size + 1, 2, none⟩) (by simp) (Value.slice Ag ps.length cg)))))
          have cc3 := hW.box.2.1
          have ll3 := hW.box.1
          have cc2 := X2r.box.2.1
          have ff2 := X2r.box.2.2
          have ll2 := X2r.box.1
          clear X2r X3r X4r hO hGD hR' hND hBw
          go_wp2
          refine bodyPost_ret (v := .agg #[Value.slice A0 ss.length c0, Value.slice Ad gs.length cd, Value.slice Ag ps.length cg]) (by simp [results, Try.results28, go_sem, cc2, ff2, ll2]) rfl ⟨⟨_, _, _, rfl, HF.out.1, HF.out.2.1, HF.out.2.2.1⟩, HF.out.2.2.2⟩

end Go.Proofs.Ytpmeahmjmpgbfaa
