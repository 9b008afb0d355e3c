/- Alike's sort: slices.SortFunc at the pairs; so the contract of Alike, whole. -/
import Derived.Test.YtloleaahelmdjaaAlike
namespace Go.Proofs.Ytloleaahelmdjaa
open Go.RowKit Go.Shelf Go.Sort

theorem ltP (x y : Int × Int) : ltOf cmpP x y = decide (x.1 < y.1 ∨ (x.1 = y.1 ∧ x.2 < y.2)) := by
  unfold ltOf cmpP cmpI
  by_cases h1 : x.1 < y.1
  · rw [if_pos h1]; simp [h1]
  · rw [if_neg h1]
    by_cases h2 : y.1 < x.1
    · rw [if_pos h2]; simp; omega
    · rw [if_neg h2]
      by_cases h3 : x.2 < y.2
      · rw [if_pos h3]; simp; omega
      · rw [if_neg h3]
        by_cases h4 : y.2 < x.2
        · rw [if_pos h4]; simp; omega
        · rw [if_neg h4]; simp; omega

theorem swoP : SWO (ltOf cmpP) where
  irrefl x := by rw [ltP]; simp
  trans x y z h1 h2 := by rw [ltP] at *; simp at *; omega
  ntrans x y z h1 h2 := by rw [ltP] at *; simp at *; omega

theorem totP (x y : Int × Int) (h1 : ltOf cmpP x y = false) (h2 : ltOf cmpP y x = false) : x = y := by
  rw [ltP] at h1 h2
  simp at h1 h2
  exact Prod.ext (by omega) (by omega)

theorem cmpLaysP (blk off size : Nat) (w : World) : CmpLays Try.prog 60 #[] encP 2 cmpP blk off size w := fun _ _ _ _ x y => cmpPair_any x y _

theorem Try.isAgg67 : ∀ w, (isAgg 67).run Try.prog w = .ok true w := fun _ => by kernel_rfl
theorem Try.sizeOf67 : ∀ w, (Go.sizeOf 67).run Try.prog w = .ok 2 w := fun _ => by kernel_rfl

theorem pairsV_get (l : List (Int × Int)) : ∀ t, t < l.length * 2 → (pairsV l)[t]? = some ((encP (l.toArray[t / 2]!))[t % 2]!) := by
  induction l with
  | nil => intro t h; exact absurd h (by simp)
  | cons x l ih =>
    intro t h
    rcases t with _ | _ | t
    · simp [pairsV, encP]
    · simp [pairsV, encP]
    · have := ih t (by simp at h; omega)
      rw [show pairsV (x :: l) = encP x ++ pairsV l from rfl, List.getElem?_append_right (by simp [encP])]
      rw [show (encP x).length = 2 from rfl, show t + 1 + 1 - 2 = t by omega, this]
      rw [show (t + 1 + 1) / 2 = t / 2 + 1 by omega, show (t + 1 + 1) % 2 = t % 2 by omega]
      simp

theorem holds_own {w : World} {base : Nat} {l : List (Int × Int)} {g cap : Nat} (h : w.ownsRow base 67 2 (.slice (some ⟨g, 0, none⟩) l.length cap) l.length (pairsV l)) : HoldsK encP 2 w g 0 l.toArray := by
  intro t ht
  have ht' : t < l.length * 2 := by simpa using ht
  have hcs := h.cells (g := g) rfl t _ (pairsV_get l t ht')
  rw [show (⟨g, 0, none⟩ : Addr).add t = ⟨g, 0 + t, none⟩ by simp [Addr.add]; exact fun h => h.symm] at hcs
  refine ⟨?_, ?_⟩
  · rw [hcs, get_flatK _ _ _ _ (by simpa using ht')]
    rfl
  · rcases h.2 with ⟨e, _⟩ | ⟨g', cap', cur, e, _, hh, _⟩
    · exact absurd e (by simp)
    · have : g = g' := by injection e with e1; injection e1 with e2; injection e2
      subst this
      exact free_at hh _

theorem below_sort {w : World} {g m : Nat} {d : Array (Int × Int)} {os : Array Obj} {B : Nat} (hB : B ≤ g) (hg : g < w.heap.size) : RowKit.Below B w (sortWorldK encP 2 w g 0 m d os) := by
  refine ⟨rfl, rfl, rfl, by simp [sortWorldK, putRowK, putRow, mapBlock, Sort.ahead], fun k hk => ?_⟩
  have h1 : (putRowK encP 2 (Sort.ahead w m) g 0 d).heap[k]? = w.heap[k]? := by
    show (w.heap.modify g _)[k]? = _
    rw [Array.getElem?_modify, if_neg (by omega)]
  rw [← h1]
  exact heap_grow_old _ _ (by simp [putRowK, putRow, mapBlock, Sort.ahead]; omega)

theorem sort_any (fs : List Form) (ep el ed : Int) (w : World) (lv : Value) (W : World) (h : AlMid fs ep el ed w lv W) :
    Calls Try.prog 59 #[lv, .func (.func 60) #[] #[]] W fun e w' => e = .returned (.tuple #[]) ∧ RowKit.Below w.heap.size w w' ∧ PairsAt w' w.heap.size lv (sortP (prL fs ep el ed fs.length)) := by
  obtain ⟨hB, hown, hL⟩ := h
  generalize prL fs ep el ed fs.length = L at *
  have hcp := hown
  rcases hcp.2 with ⟨rfl, e⟩ | ⟨g, cap, cur, rfl, hg, hh, hn, hcap, _, _⟩
  · have hL' : L = [] := List.eq_nil_of_length_eq_zero e
    subst hL'
    have hcon := AnyF.slices_SortFunc_none Try.laysSlF06_f59 none 0 (.func (.func 60) #[] #[]) W
    refine Calls.mono (R := fun e w' => e = .returned (.tuple #[]) ∧ w' = W) hcon ?_
    rintro e w' ⟨rfl, rfl⟩
    exact ⟨rfl, hB, .inl ⟨rfl, by simp [sortP]⟩⟩
  · have hlt := (Array.getElem?_eq_some_iff.1 hh).1
    have hH := holds_own hown
    have eg : ∀ args w, (callFunc 60 args).run Try.prog w = .ok (.enter 60 args) w := enters_of Try.func60 (by kernel_rfl) rfl
    have hcon := AnyQ.slices_SortFunc_total Try.laysSlF06_f59 2 Try.isAgg67 Try.sizeOf67 encP (fun _ => rfl)
      (fun x v hv => by simp [encP] at hv; rcases hv with rfl | rfl <;> rfl) cmpP swoP 60 #[] g 0 cap L.toArray W eg (cmpLaysP g 0 L.toArray.size W) hH hlt (by simp; omega) totP
    refine Calls.mono (R := fun e w' => e = .returned (.tuple #[]) ∧ ∃ n os, w' = sortWorldK encP 2 W g 0 n (sortP L).toArray os) hcon ?_
    rintro e w' ⟨rfl, n, os, rfl⟩
    have hlen : (sortP L).length = L.length := by simp [sortP, List.length_mergeSort]
    have hH2 := holdsK_sortWorldK_c encP 2 W g 0 L.toArray (sortP L).toArray n os hH hlt (by simp [hlen])
    have hb := below_sort (m := n) (d := (sortP L).toArray) (os := os) hg hlt
    refine ⟨rfl, hB.trans hb, .inr ⟨g, cap, by rw [hlen], hg, Nat.lt_of_lt_of_le hlt hb.size, fun i hi => ?_⟩⟩
    have c0 := HoldsK.cell hH2 (i := i) (c := 0) (by simpa using hi) (by omega)
    have c1 := HoldsK.cell hH2 (i := i) (c := 1) (by simpa using hi) (by omega)
    simp [encP, hi] at c0 c1
    exact ⟨c0.1, c1.1⟩

theorem alike_calls (fs : List Form) (v : Value) (ep el ed : Int) (w : World) (hF : FormsAt w v fs) (hm : fs.length ≤ 9223372036854775807) :
    Calls Try.prog 31 #[v, .agg #[.int .i64 ep, .int .i64 el, .int .i64 ed]] w (AlPost fs ep el ed w) :=
  alike_all fs v ep el ed w hF hm (fun lv W h => sort_any fs ep el ed w lv W h)
end Go.Proofs.Ytloleaahelmdjaa
