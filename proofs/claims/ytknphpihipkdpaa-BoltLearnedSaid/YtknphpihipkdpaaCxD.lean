/- Types, constants, operands, and the filling of structs and rows, in canonical memory and in the real one. -/
import Derived.Test.YtknphpihipkdpaaCxC
set_option linter.unusedSimpArgs false
set_option linter.unusedVariables false
namespace Go.Proofs.Ytknphpihipkdpaa.Cx
open Go Go.RowKit

mutual
theorem VR.ofVal {ρ : Env} {σ : Mp} : ∀ {v : Value} {c : CV}, CV.ofVal v = some c → VR ρ σ c v := by
  intro v c h
  cases v with
  | bool b => simp only [CV.ofVal] at h; cases h; exact .bool (.c b)
  | int k n => simp only [CV.ofVal] at h; cases h; exact .int k (.c n)
  | string s => simp only [CV.ofVal] at h; cases h; exact .raw _
  | float k b => simp only [CV.ofVal] at h; cases h; exact .raw _
  | pointer a => cases a <;> simp only [CV.ofVal] at h <;> cases h; exact .ptr0
  | slice a n m =>
    cases a with
    | some a => simp [CV.ofVal] at h
    | none =>
      cases n with
      | succ n => simp [CV.ofVal] at h
      | zero => cases m with
        | succ m => simp [CV.ofVal] at h
        | zero => simp only [CV.ofVal] at h; cases h; exact .slc0
  | map r => cases r <;> simp only [CV.ofVal] at h <;> cases h; exact .raw _
  | nilFunc => simp only [CV.ofVal] at h; cases h; exact .raw _
  | nilIface => simp only [CV.ofVal] at h; cases h; exact .raw _
  | agg cs =>
    simp only [CV.ofVal] at h
    split at h
    · rename_i l hl; cases h; exact .agg (VRl.ofVals hl)
    · cases h
  | tuple cs =>
    simp only [CV.ofVal] at h
    split at h
    · rename_i l hl; cases h; exact .tup (VRl.ofVals hl)
    · cases h
  | complex => simp [CV.ofVal] at h
  | chan => simp [CV.ofVal] at h
  | func => simp [CV.ofVal] at h
  | iface => simp [CV.ofVal] at h
theorem VRl.ofVals {ρ : Env} {σ : Mp} : ∀ {l : List Value} {m : List CV}, CV.ofVals l = some m → VRl ρ σ m l := by
  intro l m h
  cases l with
  | nil => simp only [CV.ofVals] at h; cases h; exact .nil
  | cons v l =>
    simp only [CV.ofVals] at h
    split at h
    · rename_i c m' h1 h2; cases h; exact .cons (VR.ofVal h1) (VRl.ofVals h2)
    · cases h
end

def aggD : TypeDesc → Bool
  | .struct _ | .array _ _ => true
  | _ => false

/-- What is known of a type is true. -/
def TyOk (P : Program) (t : Nat) (r : TyR) : Prop :=
  P.underlying t = some r.desc ∧ r.agg = aggD r.desc ∧ r.zero.length = r.size ∧ ∃ i z, P.info? t = some i ∧ i.size = r.size ∧ i.bytes = r.bytes ∧ i.zero = some z ∧ CV.ofVals z.cells.toList = some r.zero

theorem tyOf_ok {P : Program} {t : Nat} {r : TyR} (h : tyOf P t = some r) : TyOk P t r := by
  unfold tyOf at h
  split at h
  · rename_i d i hd hi
    split at h
    · rename_i z hz
      split at h
      · rename_i l hl
        by_cases hc : Nat.beq l.length i.size = true
        · rw [hc, cond_true] at h
          cases h
          exact ⟨hd, by cases d <;> rfl, Nat.eq_of_beq_eq_true hc, i, z, hi, rfl, rfl, hz, hl⟩
        · rw [Bool.not_eq_true] at hc; rw [hc, cond_false] at h; cases h
      · cases h
    · cases h
  · cases h

section
variable {P : Program} {t : Nat} {r : TyR} (h : TyOk P t r) (w : World)
include h
theorem TyOk.under : (underlying t).run P w = .ok r.desc w := run_underlying h.1 w
theorem TyOk.info : ∃ i, (typeInfo t).run P w = .ok i w ∧ i.size = r.size ∧ i.bytes = r.bytes := by
  obtain ⟨_, _, _, i, z, hi, h1, h2, _⟩ := h
  exact ⟨i, by simp [typeInfo, hi], h1, h2⟩
theorem TyOk.sizeOf' : (sizeOf t).run P w = .ok r.size w := by
  obtain ⟨i, h1, h2, _⟩ := h.info w
  simp [Go.sizeOf, h1, h2]
theorem TyOk.isAgg' : (isAgg t).run P w = .ok r.agg w := by
  have h1 := h.under w
  rw [h.2.1]
  cases hd : r.desc <;> simp [isAgg, h1, hd, aggD]
theorem TyOk.zeroA : ∃ z, (∀ w, (zeroValue t).run P w = .ok z w) ∧ CV.ofVals z.cells.toList = some r.zero := by
  obtain ⟨_, _, _, i, z, hi, h1, h2, h3, h4⟩ := h
  exact ⟨z, fun w => by simp [zeroValue, typeInfo, hi, h3], h4⟩
theorem TyOk.zeroV : ∃ z, (zeroValue t).run P w = .ok z w ∧ CV.ofVals z.cells.toList = some r.zero := by
  obtain ⟨_, _, _, i, z, hi, h1, h2, h3, h4⟩ := h
  exact ⟨z, by simp [zeroValue, typeInfo, hi, h3], h4⟩
end

/-- The temporaries of a frame. -/
def FR (ρ : Env) (σ : Mp) (T : Tr CV) (a : Act) : Prop := ∀ t, VR ρ σ (rd T t) (a.tmps.getD t undef)

theorem VR.undef (ρ : Env) (σ : Mp) : VR ρ σ undefC Go.undef := .tup .nil

theorem ev_run {ρ : Env} {σ : Mp} {T : Tr CV} {a : Act} {x : Operand} {c : CV} (hT : ∀ t, x = .tmp t → VR ρ σ (rd T t) (a.tmps.getD t Go.undef)) (h : ev T x = some c) : VR ρ σ c (a.eval x) := by
  cases x with
  | tmp t => simp only [ev] at h; cases h; exact hT t rfl
  | const v => exact VR.ofVal h
  | global g => simp [ev] at h
  | func f => simp only [ev] at h; cases h; exact .fn _ .nil .nil

/-- What an operation reads of the temporaries. -/
def Reads (ρ : Env) (σ : Mp) (T : Tr CV) (a : Act) (l : List Operand) : Prop := ∀ t, Operand.tmp t ∈ l → VR ρ σ (rd T t) (a.tmps.getD t Go.undef)

theorem Reads.ev {ρ : Env} {σ : Mp} {T : Tr CV} {a : Act} {l : List Operand} (hT : Reads ρ σ T a l) {x : Operand} (hx : x ∈ l) {c : CV} (h : ev T x = some c) : VR ρ σ c (a.eval x) :=
  ev_run (fun t e => hT t (e ▸ hx)) h

theorem evs_run {ρ : Env} {σ : Mp} {T : Tr CV} {a : Act} : ∀ {l : List Operand} {cs : List CV}, Reads ρ σ T a l → evs T l = some cs → VRl ρ σ cs (l.map a.eval)
  | [], cs, _, h => by simp only [evs] at h; cases h; exact .nil
  | x :: l, cs, hT, h => by
    simp only [evs] at h
    split at h
    · rename_i c m h1 h2
      cases h
      exact .cons (hT.ev (by simp) h1) (evs_run (fun t ht => hT t (by simp [ht])) h2)
    · cases h

/-- Numbered parts. -/
inductive PRl (ρ : Env) (σ : Mp) : List (Nat × CV) → List (Nat × Value) → Prop
  | nil : PRl ρ σ [] []
  | cons {i : Nat} {c : CV} {v : Value} {l : List (Nat × CV)} {m : List (Nat × Value)} (h : VR ρ σ c v) (t : PRl ρ σ l m) : PRl ρ σ ((i, c) :: l) ((i, v) :: m)

theorem evps_run {ρ : Env} {σ : Mp} {T : Tr CV} {a : Act} : ∀ {l : List (Nat × Operand)} {cs : List (Nat × CV)}, Reads ρ σ T a (l.map (·.2)) → evps T l = some cs → PRl ρ σ cs (l.map fun p => (p.1, a.eval p.2))
  | [], cs, _, h => by simp only [evps] at h; cases h; exact .nil
  | (i, x) :: l, cs, hT, h => by
    simp only [evps] at h
    split at h
    · rename_i c m h1 h2
      cases h
      exact .cons (hT.ev (by simp) h1) (evps_run (fun t ht => hT t (by simp only [List.map_cons, List.mem_cons]; exact .inr ht)) h2)
    · cases h

theorem fit_raw {c : CV} (h : c.fit = true) : (∀ w, c = .raw w → w.oneCell' = true) ∧ c ≠ .any :=
  ⟨by rintro w rfl; exact h, by rintro rfl; cases h⟩

/-! ## Filling -/

theorem seg_get (off : Nat) : ∀ (l : List Value) (j : Nat) (cs : Array Value) (i : Nat), off + j + l.length ≤ cs.size →
    ((l.zipIdx j).foldl (fun (cs : Array Value) (p : Value × Nat) => cs.setIfInBounds (off + p.2) p.1) cs)[i]? = if off + j ≤ i ∧ i < off + j + l.length then l[i - (off + j)]? else cs[i]?
  | [], j, cs, i, h => by simp; omega
  | v :: l, j, cs, i, h => by
    simp only [List.zipIdx_cons, List.foldl_cons]
    simp only [List.length_cons] at h
    rw [seg_get off l (j + 1) _ i (by simp; omega), Array.getElem?_setIfInBounds]
    simp only [List.length_cons]
    by_cases h2 : off + j = i
    · subst h2
      rw [if_neg (by omega), if_pos rfl, if_pos (by omega), if_pos (by omega)]
      simp
    · by_cases h3 : off + j ≤ i ∧ i < off + j + (l.length + 1)
      · rw [if_pos (by omega), if_pos h3, show i - (off + j) = (i - (off + (j + 1))) + 1 by omega, List.getElem?_cons_succ]
      · rw [if_neg (by omega), if_neg h3, if_neg h2]

theorem seg_foldl (off : Nat) (l : List Value) (cs : Array Value) (h : off + l.length ≤ cs.size) :
    (l.zipIdx.foldl (fun (cs : Array Value) (p : Value × Nat) => cs.setIfInBounds (off + p.2) p.1) cs).toList = cs.toList.take off ++ l ++ cs.toList.drop (off + l.length) := by
  apply List.ext_getElem?
  intro i
  rw [Array.getElem?_toList, seg_get off l 0 cs i (by omega), Nat.add_zero]
  by_cases h1 : i < off
  · rw [if_neg (by omega), List.append_assoc, List.getElem?_append_left (by simp; omega), List.getElem?_take_of_lt h1, Array.getElem?_toList]
  · by_cases h2 : i < off + l.length
    · rw [if_pos ⟨by omega, h2⟩, List.getElem?_append_left (by simp; omega), List.getElem?_append_right (by simp; omega)]
      congr 1; simp; omega
    · rw [if_neg (by omega), List.getElem?_append_right (by simp; omega), List.getElem?_drop, Array.getElem?_toList]
      congr 1; simp; omega

theorem fill_seg (off : Nat) (v cells : Array Value) (h : off + v.size ≤ cells.size) : (v.zipIdx.foldl (fun cs (c, j) => cs.setIfInBounds (off + j) c) cells).toList = cells.toList.take off ++ v.toList ++ cells.toList.drop (off + v.size) := by
  have := seg_foldl off v.toList cells (by simpa using h)
  simp only [Array.length_toList] at this
  rw [← this, ← Array.foldl_toList, Array.toList_zipIdx]

theorem fill_run {ρ : Env} {σ : Mp} (pl : Nat → Option (Nat × Nat)) : ∀ {ps : List (Nat × CV)} {qs : List (Nat × Value)} {cells : List CV} {cs : Array Value} {l : List CV}, PRl ρ σ ps qs → VRl ρ σ cells cs.toList → fillC pl cells ps = some l →
    ∃ cs', Instr.fill pl cs qs = some cs' ∧ VRl ρ σ l cs'.toList
  | _, _, cells, cs, l, .nil, hc, h => by simp only [fillC] at h; cases h; exact ⟨cs, rfl, hc⟩
  | _, _, cells, cs, l, .cons (i := i) (c := c) (v := v) hv ht, hc, h => by
    simp only [fillC] at h
    split at h
    · cases h
    · rename_i off size hp
      by_cases hb : (Nat.beq c.cells.length size && Nat.ble (off + size) cells.length && c.fit) = true
      · rw [hb, cond_true] at h
        simp only [Bool.and_eq_true] at hb
        have h1 := Nat.eq_of_beq_eq_true hb.1.1
        have h2 := Nat.le_of_ble_eq_true hb.1.2
        have hvc := hv.cells (fit_raw hb.2)
        have hl1 := hvc.length
        have hl2 := hc.length
        simp only [Array.length_toList] at hl1 hl2
        have hseg := fill_seg off v.cells cs (by omega)
        obtain ⟨cs', h3, h4⟩ := fill_run pl (cs := v.cells.zipIdx.foldl (fun cs (c, j) => cs.setIfInBounds (off + j) c) cs) ht (by
          rw [hseg, show off + v.cells.size = off + size by omega]
          exact ((hc.take off).append hvc).append (hc.drop (off + size))) h
        refine ⟨cs', ?_, h4⟩
        simp only [Instr.fill, hp]
        have e : (v.cells.size ≠ size || decide (off + v.cells.size > cs.size)) = false := by simp; omega
        rw [if_neg (by simp; omega)]
        exact h3
      · rw [Bool.not_eq_true] at hb; rw [hb, cond_false] at h; cases h

theorem fillC_length {pl : Nat → Option (Nat × Nat)} : ∀ {ps : List (Nat × CV)} {cells l : List CV}, fillC pl cells ps = some l → l.length = cells.length
  | [], cells, l, h => by simp only [fillC] at h; cases h; rfl
  | (i, c) :: ps, cells, l, h => by
    simp only [fillC] at h
    split at h
    · cases h
    · rename_i off size hp
      cases hb : (Nat.beq c.cells.length size && Nat.ble (off + size) cells.length && c.fit) with
      | false => rw [hb, cond_false] at h; cases h
      | true =>
        rw [hb, cond_true] at h
        simp only [Bool.and_eq_true] at hb
        have h1 := Nat.eq_of_beq_eq_true hb.1.1
        have h2 := Nat.le_of_ble_eq_true hb.1.2
        rw [fillC_length h]
        simp only [List.length_append, List.length_take, List.length_drop]; omega

theorem rep_length (l : List CV) : ∀ n, (rep n l).length = n * l.length
  | 0 => by simp [rep]
  | n + 1 => by simp [rep, rep_length l n, Nat.succ_mul, Nat.add_comm]

theorem rep_get (l : List CV) : ∀ (n i : Nat), i < n * l.length → (rep n l)[i]? = l[i % l.length]?
  | 0, i, h => by omega
  | n + 1, i, h => by
    simp only [rep]
    by_cases hi : i < l.length
    · rw [List.getElem?_append_left hi, Nat.mod_eq_of_lt hi]
    · rw [List.getElem?_append_right (by omega), rep_get l n (i - l.length) (by rw [Nat.succ_mul] at h; omega)]
      exact congrArg (fun k => l[k]?) (Nat.mod_eq_sub_mod (by omega)).symm

theorem rep_rel {ρ : Env} {σ : Mp} {l : List CV} {z : Array Value} (h : VRl ρ σ l z.toList) (n : Nat) (hz : 1 ≤ l.length) : VRl ρ σ (rep n l) (((Array.range (n * l.length)).map (z[· % z.size]!)).toList) := by
  have hl := h.length
  simp only [Array.length_toList] at hl
  refine VRl.mk (by simp [rep_length]) fun i c hc => ?_
  have hi : i < n * l.length := by rw [← rep_length]; exact (List.getElem?_eq_some_iff.1 hc).1
  rw [rep_get l n i hi] at hc
  obtain ⟨v, hv1, hv2⟩ := h.get hc
  refine ⟨v, ?_, hv2⟩
  simp only [Array.toList_map, Array.toList_range, List.getElem?_map, List.getElem?_range hi, Option.map_some]
  rw [← hl] at hv1
  have : i % z.size < z.size := Nat.mod_lt _ (by omega)
  rw [getElem!_pos z (i % z.size) this]
  rw [Array.getElem?_toList, Array.getElem?_eq_getElem this] at hv1
  exact hv1

theorem places_run {P : Program} {C : Ctx} (hC : ∀ t r, C.ty t = some r → TyOk P t r) (w : World) : ∀ {fs : List Field} {pl : List (Nat × Nat)}, placesC C fs = some pl →
    (fs.mapM (m := Sem) fun f => do pure (f.offset, ← sizeOf f.type)).run P w = .ok pl w
  | [], pl, h => by simp only [placesC] at h; cases h; rfl
  | f :: fs, pl, h => by
    simp only [placesC] at h
    split at h
    · rename_i q m h1 h2
      cases h
      have ih := places_run hC w h2
      simp only [List.mapM_cons, bind_assoc, pure_bind, Sem.run_bind, (hC _ _ h1).sizeOf' w, Result.andThen, ih, Sem.run_pure]
    · cases h

end Go.Proofs.Ytknphpihipkdpaa.Cx
