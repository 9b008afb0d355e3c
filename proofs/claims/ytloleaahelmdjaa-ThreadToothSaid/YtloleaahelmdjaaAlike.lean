/- Contract of thread.Alike. -/
import Derived.Test.YtloleaahelmdjaaCmp
import Derived.Shelf.SlSortCmp.NoneTotal
namespace Go.Proofs.Ytloleaahelmdjaa
open Go.RowKit Go.Shelf Go.Sort

/-- Whether two forms of a table are alike. -/
def prB (fs : List Form) (ep el ed : Int) (i k : Nat) : Bool := match fs[i]?, fs[k]? with | some f, some g => alikeB f g ep el ed | _, _ => false
/-- The pairs of an earlier form, below j, with the form k. -/
def prR (fs : List Form) (ep el ed : Int) (k j : Nat) : List (Int × Int) := ((List.range j).filter fun i => prB fs ep el ed i k).map fun (i : Nat) => ((i : Int), (k : Int))
/-- The pairs whose later form is below k. -/
def prL (fs : List Form) (ep el ed : Int) (k : Nat) : List (Int × Int) := (List.range k).flatMap fun k' => prR fs ep el ed k' k'

theorem prL_succ (fs : List Form) (ep el ed : Int) (k : Nat) : prL fs ep el ed (k + 1) = prL fs ep el ed k ++ prR fs ep el ed k k := by
  simp [prL, List.range_succ]
theorem prR_yes {fs : List Form} {ep el ed : Int} {k j : Nat} (h : prB fs ep el ed j k = true) : prR fs ep el ed k (j + 1) = prR fs ep el ed k j ++ [((j : Int), (k : Int))] := by
  simp [prR, List.range_succ, List.filter_append, h]
theorem prR_no {fs : List Form} {ep el ed : Int} {k j : Nat} (h : prB fs ep el ed j k = false) : prR fs ep el ed k (j + 1) = prR fs ep el ed k j := by
  simp [prR, List.range_succ, List.filter_append, h]
theorem prR_len (fs : List Form) (ep el ed : Int) (k j : Nat) : (prR fs ep el ed k j).length ≤ j := by
  have := List.length_filter_le (fun i => prB fs ep el ed i k) (List.range j)
  simpa [prR] using this
theorem prL_len (fs : List Form) (ep el ed : Int) (n k : Nat) (h : k ≤ n) : (prL fs ep el ed k).length ≤ k * n := by
  induction k with
  | zero => simp [prL]
  | succ k ih =>
    have h1 := ih (by omega)
    have h2 := prR_len fs ep el ed k k
    rw [prL_succ, List.length_append, Nat.succ_mul]
    omega

def pairsV (l : List (Int × Int)) : List Value := l.flatMap encP
theorem pairsV_len (l : List (Int × Int)) : (pairsV l).length = l.length * 2 := by
  induction l with
  | nil => rfl
  | cons x l ih => simp [pairsV, encP] at ih ⊢; omega
theorem pairsV_snoc (l : List (Int × Int)) (x : Int × Int) : pairsV (l ++ [x]) = pairsV l ++ encP x := by simp [pairsV]

theorem Try.info67 : (Try.prog.info? 67).map (fun i => (i.zero, i.size, i.bytes)) = some (some (.agg #[.int .i64 0, .int .i64 0]), 2, 16) := by kernel_rfl

def PairsAt (w : World) (base : Nat) (v : Value) (l : List (Int × Int)) : Prop := (v = .slice none 0 0 ∧ l = []) ∨
  ∃ g cap, v = .slice (some ⟨g, 0, none⟩) l.length cap ∧ base ≤ g ∧ g < w.heap.size ∧ ∀ i (h : i < l.length), w.cell? ⟨g, i * 2, none⟩ = some (.int .i64 l[i].1) ∧ w.cell? ⟨g, i * 2 + 1, none⟩ = some (.int .i64 l[i].2)

/-- In ascending order. -/
def sortP (l : List (Int × Int)) : List (Int × Int) := l.mergeSort fun x y => !(ltOf cmpP) y x
def errsB (ep el ed : Int) : Bool := allB 0 10000000 [ep, el, ed]

def AlPost (fs : List Form) (ep el ed : Int) (w : World) (e : Ending) (w' : World) : Prop := Below w.heap.size w w' ∧
  ((tabN fs ≠ 0 ∧ e = .returned (.tuple #[.slice none 0 0, .int .i64 (tabN fs)])) ∨ (tabN fs = 0 ∧ errsB ep el ed = false ∧ e = .returned (.tuple #[.slice none 0 0, .int .i64 3])) ∨
  (tabN fs = 0 ∧ errsB ep el ed = true ∧ ∃ lv, e = .returned (.tuple #[lv, .int .i64 0]) ∧ PairsAt w' w.heap.size lv (sortP (prL fs ep el ed fs.length))))

theorem tab_len {fs : List Form} (h0 : tabN fs = 0) : fs.length ≤ 100 ∧ ∀ f ∈ fs, okB f = true := by
  unfold tabN at h0
  by_cases h : 100 < fs.length
  · rw [if_pos h] at h0; exact absurd h0 (by decide)
  · rw [if_neg h] at h0
    by_cases h' : fs.all okB = true
    · exact ⟨by omega, List.all_eq_true.1 h'⟩
    · rw [if_neg h'] at h0; exact absurd h0 (by decide)

theorem errs_iff {ep el ed : Int} : errsB ep el ed = true ↔ (0 ≤ ep ∧ ep ≤ 10000000) ∧ (0 ≤ el ∧ el ≤ 10000000) ∧ (0 ≤ ed ∧ ed ≤ 10000000) := by
  simp [errsB, allB, inB]

theorem pair_news {w : World} {g : Nat} {x y : Value} (h : Box w g #[x, y]) : ∀ j u, [x, y][j]? = some u → w.cell? ((⟨g, 0, none⟩ : Addr).add j) = some u := by
  intro j u hu
  rw [show (⟨g, 0, none⟩ : Addr).add j = ⟨g, j, none⟩ by simp [Addr.add]; exact fun h => h.symm, h.2.1 j]
  simpa using hu
theorem pair_one (x y : Int) : ∀ u ∈ [Value.int .i64 x, Value.int .i64 y], u.oneCell' = true := by
  intro u hu
  simp at hu
  rcases hu with rfl | rfl <;> rfl

/-- What the loops leave: the pairs, in a row of the call's own, not sorted yet. -/
def AlMid (fs : List Form) (ep el ed : Int) (w : World) (lv : Value) (w' : World) : Prop := Below w.heap.size w w' ∧ w'.ownsRow w.heap.size 67 2 lv (prL fs ep el ed fs.length).length (pairsV (prL fs ep el ed fs.length)) ∧ (prL fs ep el ed fs.length).length ≤ 10000

set_option maxRecDepth 100000 in
set_option maxHeartbeats 8000000 in
theorem alike_all (fs : List Form) (v : Value) (ep el ed : Int) (w : World) (hF : FormsAt w v fs) (hm : fs.length ≤ 9223372036854775807)
    (hsort : ∀ lv W, AlMid fs ep el ed w lv W → Calls Try.prog 59 #[lv, .func (.func 60) #[] #[]] W fun e w' => e = .returned (.tuple #[]) ∧ Below w.heap.size w w' ∧ PairsAt w' w.heap.size lv (sortP (prL fs ep el ed fs.length))) :
    Calls Try.prog 31 #[v, .agg #[.int .i64 ep, .int .i64 el, .int .i64 ed]] w (AlPost fs ep el ed w) := by
  have HS := fun W (h : FormsAt W v fs) => shapesOf_any fs v W h hm
  have HS' := Lib.hid HS
  have HF := Lib.hid hF
  have HSORT := Lib.hid hsort
  obtain ⟨i0, hi, hz0, hz1, hz2⟩ := info_parts Try.info67
  clear HS hF hsort
  go_enter Try.func31, Try.ntmps31
  go_wp2_with fail
  refine (HS'.out _ (HF.out.below (by go_grown))).mono ?_
  rintro e w1 ⟨hb1, hp⟩
  have B1 : Box w1 w.heap.size #[.int .i64 ep, .int .i64 el, .int .i64 ed] := (Box.new w _ _).below hb1
  have hB1 : Below w.heap.size w w1 := stepB (by go_grown) hb1
  have hs1 := hB1.size
  clear hb1
  rcases hp with ⟨hne, rfl⟩ | ⟨h0, sv, rfl, hown⟩
  · have q1 : (tabN fs == 0) = false := by simpa using hne
    have q2 : (tabN fs != 0) = true := by simpa using hne
    have HN := Lib.hid hne
    clear hne
    go_wp2
    go_returns
    exact ⟨hB1, .inl ⟨HN.out, rfl⟩⟩
  · obtain ⟨hlen, hok⟩ := tab_len h0
    have HOK := Lib.hid hok
    have H0 := Lib.hid h0
    have HO := Lib.hid hown
    have cB := B1.2.1
    have hz1' := B1.1
    clear h0 hown hok
    go_wp2_with fail
    refine (allFrom3 _ _ ep el ed _ _ _ (by simp) (by go_cell) (by go_cell) (by go_cell)).mono ?_
    rintro e w2 ⟨rfl, hb2⟩
    have B2 : Box w2 w.heap.size #[.int .i64 ep, .int .i64 el, .int .i64 ed] := (B1.alloc _).below hb2
    have hB2 : Below w.heap.size w w2 := stepB (by go_grown) hb2
    have hs2 := hB2.size
    have HO2 := Lib.hid (ownsRow_below (HO.out.alloc _) hb2)
    clear hb2 cB B1 HO hz1' hB1
    cases hv : errsB ep el ed
    · have HVs := Lib.hid hv
      rw [show allB 0 10000000 [ep, el, ed] = false from hv]
      clear hv
      go_wp2
      go_returns
      exact ⟨hB2, .inr (.inl ⟨H0.out, HVs.out, rfl⟩)⟩
    · have HVs := Lib.hid hv
      rw [show allB 0 10000000 [ep, el, ed] = true from hv]
      clear hv
      rcases shapes_own HO2.out with ⟨rfl, rfl⟩ | ⟨g, cap, rfl, hg, hS⟩
      · clear HO2
        have hmid : AlMid [] ep el ed w (.slice none 0 0) w2 := ⟨hB2, World.ownsRow_nil _ _ _ _, by simp [prL]⟩
        go_wp2
        refine wp_loop_rounds 1 ?_
        rw [rounds_succ]
        go_wp2_with fail
        refine (HSORT.out _ _ hmid).mono ?_
        rintro e w3 ⟨rfl, hB3, hP⟩
        have HP := Lib.hid hP
        clear hP hmid
        go_wp2
        go_returns
        exact ⟨hB3, .inr (.inr ⟨H0.out, HVs.out, _, rfl, HP.out⟩)⟩
      · have HSh := Lib.hid hS
        clear HO2 hS
        go_wp2
        go_loopw [8, 30] (fun lv i wr => ∃ k : Nat, k ≤ fs.length ∧ i = .int .i64 k ∧ wr.ownsRow w2.heap.size 67 2 lv (prL fs ep el ed k).length (pairsV (prL fs ep el ed k)) ∧ Below w2.heap.size w2 wr) (fun _ i _ => fs.length - (intOf i).toNat)
        case atStart => exact ⟨0, by omega, rfl, World.ownsRow_nil _ _ _ _, Below.refl _ _⟩
        case round =>
          obtain ⟨k, hk, rfl, hown, hB⟩ := hrel
          have hsr := hB.size
          by_cases hlt : k < fs.length
          · obtain ⟨wo, rfl⟩ : ∃ wo : World, wo = wr := ⟨_, rfl⟩
            go_wp2
            go_loopw [8, 34] (fun lv i wr => ∃ j : Nat, j ≤ k ∧ i = .int .i64 j ∧ wr.ownsRow w2.heap.size 67 2 lv (prL fs ep el ed k ++ prR fs ep el ed k j).length (pairsV (prL fs ep el ed k ++ prR fs ep el ed k j)) ∧ Below w2.heap.size w2 wr) (fun _ i _ => k - (intOf i).toNat)
            case atStart => exact ⟨0, by omega, rfl, by simpa [prR] using hown, hB⟩
            case round =>
              clear hown hB hsr
              obtain ⟨j, hj, rfl, hown, hB⟩ := hrel
              have hsr := hB.size
              by_cases hjt : j < k
              · have hjl : j < fs.length := by omega
                obtain ⟨f, hf⟩ : ∃ f, fs[j] = f := ⟨_, rfl⟩
                obtain ⟨f', hf'⟩ : ∃ f, fs[k] = f := ⟨_, rfl⟩
                have hc := fun i hi => ((HSh.out.below hB hg) j hjl i hi)
                have hd := fun i hi => ((HSh.out.below hB hg) k hlt i hi)
                rw [hf] at hc
                rw [hf'] at hd
                have c0 := hc 0 (by omega)
                have c1 := hc 1 (by omega)
                have c2 := hc 2 (by omega)
                have c3 := hc 3 (by omega)
                have c4 := hc 4 (by omega)
                have c5 := hc 5 (by omega)
                have c6 := hc 6 (by omega)
                have c7 := hc 7 (by omega)
                have c8 := hc 8 (by omega)
                have c9 := hc 9 (by omega)
                have c10 := hc 10 (by omega)
                have d0 := hd 0 (by omega)
                have d1 := hd 1 (by omega)
                have d2 := hd 2 (by omega)
                have d3 := hd 3 (by omega)
                have d4 := hd 4 (by omega)
                have d5 := hd 5 (by omega)
                have d6 := hd 6 (by omega)
                have d7 := hd 7 (by omega)
                have d8 := hd 8 (by omega)
                have d9 := hd 9 (by omega)
                have d10 := hd 10 (by omega)
                unfold shapeCells at c0 c1 c2 c3 c4 c5 c6 c7 c8 c9 c10 d0 d1 d2 d3 d4 d5 d6 d7 d8 d9 d10
                simp only [Nat.add_zero] at c0 d0
                have hpr : prB fs ep el ed j k = alikeB f f' ep el ed := by
                  unfold prB
                  rw [List.getElem?_eq_getElem hjl, List.getElem?_eq_getElem hlt, hf, hf']
                have HPr := Lib.hid hpr
                have hl1 := ok_lim (HOK.out f (by rw [← hf]; exact List.getElem_mem _))
                have hl2 := ok_lim (HOK.out f' (by rw [← hf']; exact List.getElem_mem _))
                have HL1 := Lib.hid hl1
                have HL2 := Lib.hid hl2
                have hj1 : (j : Int) < (fs.length : Int) := by omega
                have hk1 : (k : Int) < (fs.length : Int) := by omega
                have hj0 : (0 : Int) ≤ (j : Int) := by omega
                have hk0 : (0 : Int) ≤ (k : Int) := by omega
                have cB := (B2.below hB).2.1
                clear hc hd hf hf' hpr hl1 hl2
                go_wp2
                refine wp_region_quiet_tail (C := fun w' => ∃ n, w' = wr.drewN n) 9 (by kernel_rfl) (by kernel_rfl) ⟨1, rfl⟩ ?_
                simp only [List.take_succ_cons, List.take_zero, List.drop_succ_cons, List.drop_zero]
                repeat (quiet_step (fail))
                refine wpQuiet_nil ?_
                intro Y hY'
                obtain ⟨nq, rfl⟩ := hY'
                clear c0 c1 c2 c3 c4 c5 c6 c7 c8 c9 c10 d0 d1 d2 d3 d4 d5 d6 d7 d8 d9 d10 cB
                go_wp2_with fail
                refine (alike_any f.p f.l f.r f.a f.b f.s f.t _ _ f.h f'.p f'.l f'.r f'.a f'.b f'.s f'.t _ _ f'.h ep el ed _ HL1.out HL2.out (errs_iff.1 HVs.out)).mono ?_
                rintro e w3 ⟨rfl, hb3⟩
                have hB3 : RowKit.Below w2.heap.size w2 w3 := hB.trans (((below_drewN _ wr nq).trans (hb3.mono (Nat.le_refl _))).mono hsr)
                have hsr3 := hB3.size
                have hown3 := ownsRow_below (ownsRow_below hown (below_drewN _ wr nq)) hb3
                clear hb3 hown hB
                rw [← HPr.out]
                cases ha : prB fs ep el ed j k
                · have hno := prR_no ha
                  have hown4 : w3.ownsRow w2.heap.size 67 2 u8 (prL fs ep el ed k ++ prR fs ep el ed k (j + 1)).length (pairsV (prL fs ep el ed k ++ prR fs ep el ed k (j + 1))) := by rw [hno]; exact hown3
                  clear ha hno hown3
                  go_wp2
                  go_roundw
                  case rel => exact ⟨j + 1, by omega, by go_num, hown4, hB3⟩
                  case measure => simp [intOf]; omega
                · have hyes := prR_yes ha
                  have HY := Lib.hid hyes
                  have hll := prL_len fs ep el ed 100 k (by omega)
                  have hlr := prR_len fs ep el ed k j
                  have hlen2 : (prL fs ep el ed k ++ prR fs ep el ed k j).length ≤ 10100 := by rw [List.length_append]; omega
                  clear ha hyes hll hlr
                  obtain ⟨P, hP⟩ : ∃ P, prL fs ep el ed k ++ prR fs ep el ed k j = P := ⟨_, rfl⟩
                  rw [hP] at hown3 hlen2
                  have HP := Lib.hid hP
                  clear hP
                  go_wp2_with (at_builtin; go_must (refine wpList_append_own _ rfl _ _ 59 rfl w2.heap.size 67 i0 (.agg #[.int .i64 0, .int .i64 0]) 2 16 Try.underlying59 hi hz0 hz1 hz2 rfl (by decide) _ P.length (pairsV P) rfl (hown3.alloc _) ⟨w3.heap.size, 0, none⟩ 1 1 [.int .i64 j, .int .i64 k] rfl rfl (pair_news (Box.new _ _ _)) (pair_one _ _) (by unfold maxLen; omega) (by omega) (by simp; omega) ?_); intro v' w4 hown4 hg4 _)
                  have hB4 : RowKit.Below w2.heap.size w2 w4 := by
                    refine RowKit.Below.grown (w := w3.alloc _) (hB3.alloc hsr3 _) hg4 (by simp; omega) (fun r e => ?_)
                    exact (hown3.lt r e).1
                  have hown5 : w4.ownsRow w2.heap.size 67 2 v' (prL fs ep el ed k ++ prR fs ep el ed k (j + 1)).length (pairsV (prL fs ep el ed k ++ prR fs ep el ed k (j + 1))) := by
                    rw [HY.out, ← List.append_assoc, HP.out, pairsV_snoc, List.length_append]
                    exact hown4
                  clear hown3 hown4 hg4 hB3
                  go_wp2
                  go_roundw
                  case rel => exact ⟨j + 1, by omega, by go_num, hown5, hB4⟩
                  case measure => simp [intOf]; omega
              · have hj' : j = k := by omega
                have hown' : wr.ownsRow w2.heap.size 67 2 u8 (prL fs ep el ed (k + 1)).length (pairsV (prL fs ep el ed (k + 1))) := by
                  rw [prL_succ]
                  rw [hj'] at hown
                  exact hown
                clear hown hj'
                go_wp2
                go_roundw
                case rel => exact ⟨k + 1, by omega, by go_num, hown', hB⟩
                case measure => simp [intOf]; omega
          · have hk' : k = fs.length := by omega
            have hmid : AlMid fs ep el ed w u8 wr := by
              rw [hk'] at hown
              have hll := prL_len fs ep el ed 100 fs.length hlen
              exact ⟨hB2.trans (hB.mono hs2), ⟨hown.1, hown.2.imp id (fun ⟨g, cap, cur, h1, h2, h3⟩ => ⟨g, cap, cur, h1, Nat.le_trans hs2 h2, h3⟩)⟩, by omega⟩
            have HM := Lib.hid hmid
            clear hown hk' hmid
            go_wp2_with fail
            refine (HSORT.out _ _ HM.out).mono ?_
            rintro e w3 ⟨rfl, hB3, hP⟩
            have HP := Lib.hid hP
            clear hP HM
            go_wp2
            go_returns
            exact ⟨hB3, .inr (.inr ⟨H0.out, HVs.out, _, rfl, HP.out⟩)⟩
end Go.Proofs.Ytloleaahelmdjaa
