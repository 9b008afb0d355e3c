/- Regions that draw their order: whatever order the tape picks, memory stands for what the order of the text makes. -/
import Derived.Test.YtknphpihipkdpaaCxL
set_option linter.unusedSimpArgs false
set_option linter.unusedVariables false
namespace Go.Proofs.Ytknphpihipkdpaa.Cx
open Go Go.RowKit

/-! ## Which operations come before which -/

theorem preds_acc : ∀ (l : List Oper) (acc : List Nat) (k : Nat), k < acc.length → (preds l acc)[k]? = acc[k]?
  | [], acc, k, h => rfl
  | o :: l, acc, k, h => by
    simp only [preds]
    rw [preds_acc l _ k (by simp; omega), List.getElem?_append_left h]

theorem preds_length : ∀ (l : List Oper) (acc : List Nat), (preds l acc).length = acc.length + l.length
  | [], acc => by simp [preds]
  | o :: l, acc => by simp only [preds, preds_length l, List.length_append, List.length_cons, List.length_nil]; omega

theorem predM_inv {acc : List Nat} : ∀ {l : List Edge} {i : Nat}, (predM acc l).testBit i = true → ∃ e ∈ l, Region.binds .any e = true ∧ (i = e.on ∨ ∃ q, acc[e.on]? = some q ∧ q.testBit i = true)
  | [], i, h => by simp [predM] at h
  | e :: l, i, h => by
    simp only [predM] at h
    cases hb : Region.binds .any e with
    | false =>
      rw [hb, cond_false] at h
      obtain ⟨e', h1, h2, h3⟩ := predM_inv h
      exact ⟨e', by simp [h1], h2, h3⟩
    | true =>
      rw [hb, cond_true] at h
      simp only [Nat.testBit_or, Bool.or_eq_true] at h
      rcases h with (h | h) | h
      · refine ⟨e, by simp, hb, .inl ?_⟩
        rw [Nat.one_shiftLeft, Nat.testBit_two_pow] at h
        exact (of_decide_eq_true h).symm
      · cases ha : acc[e.on]? with
        | none => rw [ha] at h; simp at h
        | some q => rw [ha] at h; exact ⟨e, by simp, hb, .inr ⟨q, ha, h⟩⟩
      · obtain ⟨e', h1, h2, h3⟩ := predM_inv h
        exact ⟨e', by simp [h1], h2, h3⟩

theorem preds_inv : ∀ (l : List Oper) (acc : List Nat) (k : Nat) (p i : Nat), acc.length ≤ k → (preds l acc)[k]? = some p → p.testBit i = true →
    ∃ o, l[k - acc.length]? = some o ∧ ∃ e ∈ o.after.toList, Region.binds .any e = true ∧ (i = e.on ∨ ∃ q, (preds l acc)[e.on]? = some q ∧ q.testBit i = true)
  | [], acc, k, p, i, hk, h, _ => by
    simp only [preds] at h
    rw [List.getElem?_eq_none hk] at h; cases h
  | o :: l, acc, k, p, i, hk, h, hb => by
    simp only [preds] at h ⊢
    by_cases hk' : k = acc.length
    · subst hk'
      rw [preds_acc l _ _ (by simp), List.getElem?_append_right (Nat.le_refl _)] at h
      simp only [Nat.sub_self, List.getElem?_cons_zero, Option.some.injEq] at h
      subst h
      obtain ⟨e, h1, h2, h3⟩ := predM_inv hb
      refine ⟨o, by simp, e, h1, h2, ?_⟩
      rcases h3 with h3 | ⟨q, h3, h4⟩
      · exact .inl h3
      · have hlt := (List.getElem?_eq_some_iff.1 h3).1
        exact .inr ⟨q, by rw [preds_acc l _ _ (by simp; omega), List.getElem?_append_left hlt]; exact h3, h4⟩
    · obtain ⟨o', h1, h2⟩ := preds_inv l (acc ++ [predM acc o.after.toList]) k p i (by simp; omega) h hb
      refine ⟨o', ?_, h2⟩
      simp only [List.length_append, List.length_cons, List.length_nil] at h1
      rw [show k - acc.length = (k - (acc.length + 1)) + 1 by omega, List.getElem?_cons_succ]
      exact h1

theorem apartOk1_inv {ops : Array Oper} {i : Nat} {o : Oper} : ∀ {l : List Oper} {ps : List Nat} {k : Nat} {x : Oper} {p : Nat}, apartOk1 ops i o l ps = true → l[k]? = some x → ps[k]? = some p → p.testBit i = true ∨ o.apart ops x = true
  | y :: l, q :: ps, 0, x, p, h, h1, h2 => by
    simp only [List.getElem?_cons_zero, Option.some.injEq] at h1 h2
    subst h1 h2
    simp only [apartOk1, Bool.and_eq_true, Bool.or_eq_true] at h
    exact h.1
  | y :: l, q :: ps, k + 1, x, p, h, h1, h2 => by
    simp only [apartOk1, Bool.and_eq_true] at h
    exact apartOk1_inv (k := k) h.2 (by simpa using h1) (by simpa using h2)
  | [], _, k, x, p, _, h1, _ => by simp at h1
  | _ :: _, [], k, x, p, _, _, h2 => by simp at h2

theorem apartOk_inv {ops : Array Oper} : ∀ {l : List Oper} {ps : List Nat} {i0 i k : Nat} {o x : Oper} {p : Nat}, apartOk ops i0 l ps = true → l.length = ps.length → i < k → l[i]? = some o → l[k]? = some x → ps[k]? = some p → p.testBit (i0 + i) = true ∨ o.apart ops x = true
  | [], _, _, i, k, o, x, p, _, _, _, h1, _, _ => by simp at h1
  | _ :: _, [], _, i, k, o, x, p, _, hl, _, _, _, _ => by simp at hl
  | y :: l, q :: ps, i0, 0, k, o, x, p, h, hl, hik, h1, h2, h3 => by
    simp only [List.getElem?_cons_zero, Option.some.injEq] at h1
    subst h1
    simp only [apartOk, Bool.and_eq_true] at h
    obtain ⟨k, rfl⟩ : ∃ k', k = k' + 1 := ⟨k - 1, by omega⟩
    exact apartOk1_inv h.1.2 (by simpa using h2) (by simpa using h3)
  | y :: l, q :: ps, i0, i + 1, k, o, x, p, h, hl, hik, h1, h2, h3 => by
    simp only [apartOk, Bool.and_eq_true] at h
    obtain ⟨k, rfl⟩ : ∃ k', k = k' + 1 := ⟨k - 1, by omega⟩
    have := apartOk_inv (i := i) (k := k) h.2 (by simpa using hl) (by omega) (by simpa using h1) (by simpa using h2) (by simpa using h3)
    rw [show i0 + (i + 1) = i0 + 1 + i by omega]
    exact this

theorem apartOk_edges {ops : Array Oper} : ∀ {l : List Oper} {ps : List Nat} {i0 i : Nat} {o : Oper}, apartOk ops i0 l ps = true → l.length = ps.length → l[i]? = some o → ∀ e ∈ o.after.toList, Region.binds .any e = true → e.on < i0 + i
  | [], _, _, i, o, _, _, h1 => by simp at h1
  | _ :: _, [], _, i, o, _, hl, _ => by simp at hl
  | y :: l, q :: ps, i0, 0, o, h, hl, h1 => by
    simp only [List.getElem?_cons_zero, Option.some.injEq] at h1
    subst h1
    simp only [apartOk, Bool.and_eq_true, List.all_eq_true] at h
    intro e he hb
    have := h.1.1 e he
    rw [hb] at this
    simp only [Bool.not_true, Bool.false_or] at this
    exact Nat.lt_of_succ_le (Nat.le_of_ble_eq_true this)
  | y :: l, q :: ps, i0, i + 1, o, h, hl, h1 => by
    simp only [apartOk, Bool.and_eq_true] at h
    intro e he hb
    have := apartOk_edges (i := i) h.2 (by simpa using hl) (by simpa using h1) e he hb
    omega

theorem drawOk1_inv {i : Nat} {m : Mk} : ∀ {ns : List Mk} {ps : List Nat} {k : Nat} {x : Mk} {p : Nat}, drawOk1 i m ns ps = true → ns[k]? = some x → ps[k]? = some p → p.testBit i = true ∨ apartMk m x = true
  | y :: l, q :: ps, 0, x, p, h, h1, h2 => by
    simp only [List.getElem?_cons_zero, Option.some.injEq] at h1 h2
    subst h1 h2
    simp only [drawOk1, Bool.and_eq_true, Bool.or_eq_true] at h
    exact h.1
  | y :: l, q :: ps, k + 1, x, p, h, h1, h2 => by
    simp only [drawOk1, Bool.and_eq_true] at h
    exact drawOk1_inv (k := k) h.2 (by simpa using h1) (by simpa using h2)
  | [], _, k, x, p, _, h1, _ => by simp at h1
  | _ :: _, [], k, x, p, _, _, h2 => by simp at h2

theorem drawOk_inv : ∀ {ms : List Mk} {ps : List Nat} {i0 i k : Nat} {m x : Mk} {p : Nat}, drawOk i0 ms ps = true → ms.length = ps.length → i < k → ms[i]? = some m → ms[k]? = some x → ps[k]? = some p → p.testBit (i0 + i) = true ∨ apartMk m x = true
  | [], _, _, i, k, o, x, p, _, _, _, h1, _, _ => by simp at h1
  | _ :: _, [], _, i, k, o, x, p, _, hl, _, _, _, _ => by simp at hl
  | y :: l, q :: ps, i0, 0, k, o, x, p, h, hl, hik, h1, h2, h3 => by
    simp only [List.getElem?_cons_zero, Option.some.injEq] at h1
    subst h1
    simp only [drawOk, Bool.and_eq_true] at h
    obtain ⟨k, rfl⟩ : ∃ k', k = k' + 1 := ⟨k - 1, by omega⟩
    exact drawOk1_inv h.1 (by simpa using h2) (by simpa using h3)
  | y :: l, q :: ps, i0, i + 1, k, o, x, p, h, hl, hik, h1, h2, h3 => by
    simp only [drawOk, Bool.and_eq_true] at h
    obtain ⟨k, rfl⟩ : ∃ k', k = k' + 1 := ⟨k - 1, by omega⟩
    have := drawOk_inv (i := i) (k := k) h.2 (by simpa using hl) (by omega) (by simpa using h1) (by simpa using h2) (by simpa using h3)
    rw [show i0 + (i + 1) = i0 + 1 + i by omega]
    exact this

theorem apartL_inv {l m : List Nat} (h : apartL l m = true) : ∀ b ∈ l, b ∉ m := by
  intro b hb hm
  have := List.all_eq_true.1 h b hb
  simp only [Bool.not_eq_true'] at this
  rw [List.any_eq_false] at this
  exact this b hm (Nat.beq_refl b)

theorem outside_inv {lo hi : Nat} {l : List Nat} (h : outside lo hi l = true) : ∀ b ∈ l, ¬ (lo ≤ b ∧ b < hi) := by
  intro b hb
  have := List.all_eq_true.1 h b hb
  simp only [Bool.or_eq_true] at this
  rcases this with h | h
  · have : b < lo := Nat.lt_of_succ_le (Nat.le_of_ble_eq_true h); omega
  · have := Nat.le_of_ble_eq_true h; omega

/-- What two operations without an order do to memory does not meet. -/
structure Conf (ri rk : OR) (lo hi : Nat) : Prop where
  r : ∀ b, b ∈ rk.R ∨ b ∈ rk.W → b ∉ ri.W ∧ ¬ (lo ≤ b ∧ b < hi)
  w : ∀ b, b ∈ ri.R ∨ b ∈ ri.W → b ∉ rk.W

section
variable {P : Program} {C : Ctx} {ρ : Env} {σ : Mp} {cur : Cur} {self : Task → St → Option Out} {ro : Option Nat} {n : Nat} {Q : Exit → Act → World → Prop} {ops : Array Oper} {nt base : Nat} {T T' : Tr CV} {s s' : St} {ms : List Mk} {a0 a : Act} {w0 : World}

/-- A region's run laid out, with what its operations' order says. -/
structure Lay (P : Program) (C : Ctx) (ρ : Env) (slf : Task → St → Option Out) (ops : Array Oper) (nt base : Nat) (T T' : Tr CV) (s s' : St) (ms : List Mk) (st : Nat → St) (tm : Nat → Tr CV) (or : Nat → OR) (pr : Nat → Nat → Prop) : Prop where
  st0 : st 0 = s
  tm0 : tm 0 = T
  stN : st ops.size = s'
  tmN : tm ops.size = T'
  one : ∀ i o, ops[i]? = some o → oneE C slf ops (tm i) (st i) o = some (or i) ∧ putT nt (tm i) o.dst (or i).val = some (tm (i + 1)) ∧ st (i + 1) = (or i).s ∧
    (∀ b ∈ (or i).R, b < (st i).next) ∧ (∀ b ∈ (or i).W, b < (st i).next) ∧ ms[i]? = some ⟨(or i).R, (or i).W, (st i).next, (st (i + 1)).next⟩
  frm : ∀ i, i < ops.size → Frm (st i) (st (i + 1)) (or i).W
  mono : ∀ i j, i ≤ j → j ≤ ops.size → (st i).next ≤ (st j).next
  pcs : ∀ i, i ≤ ops.size → ∃ L, s'.pc = L ++ (st i).pc
  edge : ∀ i o, ops[i]? = some o → ∀ e ∈ o.after.toList, Region.binds .any e = true → e.on < i
  pred : ∀ k i, pr k i → ∃ o, ops[k]? = some o ∧ ∃ e ∈ o.after.toList, Region.binds .any e = true ∧ (i = e.on ∨ pr e.on i)
  temps : ∀ i k o x, i < k → ops[i]? = some o → ops[k]? = some x → pr k i ∨ o.apart ops x = true
  conf : ∀ i k, i < k → k < ops.size → pr k i ∨ Conf (or i) (or k) (st i).next (st (i + 1)).next

theorem lay_of (hS : SelfOk P C ρ self) (h : opsE C self ops nt ops.toList T s = some (T', s', ms)) (hr : regOk ops = true) (hd : (quietB s.next ms || drawOk 0 ms (preds ops.toList [])) = true) :
    ∃ st tm or pr, Lay P C ρ self ops nt base T T' s s' ms st tm or pr := by
  obtain ⟨st, tm, or, e1, e2, e3, e4, e5, e6⟩ := opsE_trace hS h
  have hpl := pc_le (l := ops.toList) hS (fun i o ho => ⟨(e6 i o ho).1, (e6 i o ho).2.2.1⟩)
  have hlen : ops.toList.length = (preds ops.toList []).length := by rw [preds_length]; simp
  have hN : ops.toList.length = ops.size := by simp
  have toL : ∀ (i : Nat) (o : Oper), ops[i]? = some o ↔ ops.toList[i]? = some o := fun i o => by rw [Array.getElem?_toList]
  have mono : ∀ i j, i ≤ j → j ≤ ops.size → (st i).next ≤ (st j).next := fun i j hij hj => by
    have := (hpl (j - i) i (by omega)).1
    rwa [show i + (j - i) = j by omega] at this
  refine ⟨st, tm, or, fun k i => ∃ p, (preds ops.toList [])[k]? = some p ∧ p.testBit i = true, e1, e2, by rw [← hN]; exact e3, by rw [← hN]; exact e4, fun i o ho => e6 i o ((toL i o).1 ho), fun i hi => ?_, mono, fun i hi => ?_, fun i o ho e he hb => ?_, fun k i hk => ?_, fun i k o x hik ho hx => ?_, fun i k hik hk => ?_⟩
  · obtain ⟨h1, _, h3, _⟩ := e6 i _ (List.getElem?_eq_getElem (by omega))
    rw [h3]; exact oneE_frame hS h1
  · obtain ⟨L, hL⟩ := (hpl (ops.size - i) i (by omega)).2
    rw [show i + (ops.size - i) = ops.toList.length by omega, e3] at hL
    exact ⟨L, hL⟩
  · have := apartOk_edges hr hlen ((toL i o).1 ho) e he hb
    omega
  · obtain ⟨p, hp, hb⟩ := hk
    obtain ⟨o, h1, e, h2, h3, h4⟩ := preds_inv _ _ k p i (by simp) hp hb
    exact ⟨o, (toL k o).2 (by simpa using h1), e, h2, h3, h4⟩
  · have hk : k < (preds ops.toList []).length := by rw [← hlen]; exact (List.getElem?_eq_some_iff.1 ((toL k x).1 hx)).1
    rcases apartOk_inv hr hlen hik ((toL i o).1 ho) ((toL k x).1 hx) (List.getElem?_eq_getElem hk) with h | h
    · exact .inl ⟨_, List.getElem?_eq_getElem hk, by simpa using h⟩
    · exact .inr h
  · obtain ⟨_, _, _, _, _, hi6⟩ := e6 i _ (List.getElem?_eq_getElem (by omega))
    obtain ⟨_, _, _, hk4, _, hk6⟩ := e6 k _ (List.getElem?_eq_getElem (by omega))
    rcases Bool.or_eq_true _ _ |>.mp hd with hq | hq
    · have hq := List.all_eq_true.1 hq
      have qi := hq _ (List.mem_of_getElem? hi6)
      have qk := hq _ (List.mem_of_getElem? hk6)
      simp only [Bool.and_eq_true, List.isEmpty_iff, Bool.or_eq_true] at qi qk
      refine .inr ⟨fun b hb => ?_, fun b _ => by rw [qk.1]; simp⟩
      rw [qi.1]
      refine ⟨by simp, fun hlo => ?_⟩
      have h0 := mono 0 i (by omega) (by omega)
      rw [e1] at h0
      rcases hb with hb | hb
      · have : b < s.next := by
          rcases qk.2 with q | q
          · have h1 : (st k).next = s.next := Nat.eq_of_beq_eq_true q
            have := hk4 b hb
            omega
          · exact Nat.lt_of_succ_le (Nat.le_of_ble_eq_true (List.all_eq_true.1 q b hb))
        omega
      · rw [qk.1] at hb; cases hb
    · have hk' : k < (preds ops.toList []).length := by omega
      rcases drawOk_inv hq (by omega) hik hi6 hk6 (List.getElem?_eq_getElem hk') with h | h
      · exact .inl ⟨_, List.getElem?_eq_getElem hk', by simpa using h⟩
      · simp only [apartMk, Bool.and_eq_true] at h
        obtain ⟨⟨⟨⟨h1, h2⟩, h3⟩, h4⟩, h5⟩ := h
        refine .inr ⟨fun b hb => ⟨fun hw => ?_, ?_⟩, fun b hb => ?_⟩
        · rcases hb with hb | hb
          · exact apartL_inv h1 b hw hb
          · exact apartL_inv h2 b hw hb
        · rcases hb with hb | hb
          · exact outside_inv h4 b hb
          · exact outside_inv h5 b hb
        · rcases hb with hb | hb
          · exact apartL_inv h3 b hb
          · exact apartL_inv h2 b hb

/-- What an operation changes of canonical memory. -/
def Mod (st : Nat → St) (or : Nat → OR) (i b : Nat) : Prop := b ∈ (or i).W ∨ ((st i).next ≤ b ∧ b < (st (i + 1)).next)

/-- What holds when just the operations of a set have come up. -/
structure InvD (ρ : Env) (σ : Mp) (cur : Cur) (ops : Array Oper) (nt base : Nat) (s s' : St) (ms : List Mk) (st : Nat → St) (tm : Nat → Tr CV) (or : Nat → OR) (pr : Nat → Nat → Prop) (a0 : Act) (w0 : World) (S : Nat → Prop) (σ' : Mp) (cur' : Cur) (cT : Nat → CV) (a : Act) (w : World) : Prop where
  down : ∀ k, S k → ∀ i, pr k i → S i
  ext : ∀ b, (b < s.next ∨ s'.next ≤ b) → σ' b = σ b
  noneS : ∀ i, i < ops.size → ¬ S i → ∀ b, (st i).next ≤ b → b < (st (i + 1)).next → σ' b = none
  H : HR ρ σ' cur' w
  right : ∀ j, j ≤ ops.size → ∀ b, (b ∈ sumR base ms ∨ b ∈ sumW base ms ∨ base ≤ b) → b < (st j).next → (∀ i, i < j → ¬ S i → ¬ Mod st or i b) → (∀ i, j ≤ i → i < ops.size → S i → ¬ Mod st or i b) → cur' b = (st j).heap.get b
  out : ∀ b, (∀ i, i < ops.size → ¬ Mod st or i b) → cur' b = cur b
  K : Keeps σ base (sumW base ms) w0 w
  F : ∀ b l, s.next ≤ b → b < s'.next → σ' b = some l → w0.heap.size ≤ l.blk ∨ ∃ b0, (b0 ∈ sumW base ms ∨ base ≤ b0) ∧ ∃ l0, σ b0 = some l0 ∧ l0.blk = l.blk
  sz : a.tmps.size = nt
  df : a.defers = a0.defers
  T : ∀ t, VR ρ σ' (cT t) (a.tmps.getD t Go.undef)
  rightT : ∀ j, j ≤ ops.size → ∀ t, (∀ i o, i < j → ¬ S i → ops[i]? = some o → o.dst ≠ some t) → (∀ i o, j ≤ i → S i → ops[i]? = some o → o.dst ≠ some t) → cT t = rd (tm j) t

variable {st : Nat → St} {tm : Nat → Tr CV} {or : Nat → OR} {pr : Nat → Nat → Prop}

theorem Lay.nextS (L : Lay P C ρ self ops nt base T T' s s' ms st tm or pr) {i : Nat} (hi : i ≤ ops.size) : s.next ≤ (st i).next ∧ (st i).next ≤ s'.next := by
  have h1 := L.mono 0 i (Nat.zero_le _) hi
  have h2 := L.mono i ops.size hi (Nat.le_refl _)
  rw [L.st0] at h1; rw [L.stN] at h2
  exact ⟨h1, h2⟩

/-- A block that no operation has changed up to j reads as at first. -/
theorem Lay.same (L : Lay P C ρ self ops nt base T T' s s' ms st tm or pr) : ∀ {j k : Nat} {b : Nat}, j ≤ k → k ≤ ops.size → (∀ i, j ≤ i → i < k → ¬ Mod st or i b) → (st k).heap.get b = (st j).heap.get b := by
  intro j k b hjk hk hm
  obtain ⟨d, rfl⟩ : ∃ d, k = j + d := ⟨k - j, by omega⟩
  induction d with
  | zero => rfl
  | succ d ih =>
    have h1 := ih (by omega) (by omega) (fun i h1 h2 => hm i h1 (by omega))
    have h2 := hm (j + d) (by omega) (by omega)
    have hf := L.frm (j + d) (by omega)
    rw [show j + (d + 1) = j + d + 1 by omega, hf.get b (fun h => h2 (.inl h)) (fun h => h2 (.inr h)), h1]

theorem InvD.start (L : Lay P C ρ self ops nt base T T' s s' ms st tm or pr) (hH : HR ρ σ cur w0) (hA : ∀ b, b ∈ sumR base ms ∨ b ∈ sumW base ms ∨ (base ≤ b ∧ b < s.next) → cur b = s.heap.get b) (hN : ∀ b, s.next ≤ b → b < s'.next → σ b = none) (hF : FRn ρ σ nt T a0 a) (hb : base ≤ s.next) :
    InvD ρ σ cur ops nt base s s' ms st tm or pr a0 w0 (fun _ => False) σ cur (rd T) a w0 := by
  refine ⟨fun _ h => h.elim, fun _ _ => rfl, fun i hi _ b h1 h2 => ?_, hH, fun j hj b hD hlt h1 _ => ?_, fun _ _ => rfl, Keeps.refl _ _ _ _, fun b l h1 h2 h3 => ?_, hF.1, hF.2.2, hF.2.1, fun j hj t h1 _ => ?_⟩
  · have := L.nextS (i := i) (by omega)
    have := L.nextS (i := i + 1) (by omega)
    exact hN b (by omega) (by omega)
  · have hs : b < s.next := by
      rcases Nat.lt_or_ge b s.next with h | h
      · exact h
      · exfalso
        -- some operation before j made it
        have : ∀ k, k ≤ j → (st k).next ≤ b := by
          intro k
          induction k with
          | zero => intro _; rw [L.st0]; exact h
          | succ k ih =>
            intro hk
            rcases Nat.lt_or_ge b (st (k + 1)).next with h2 | h2
            · exact absurd (.inr ⟨ih (by omega), h2⟩) (h1 k (by omega) (fun h => h))
            · exact h2
        have := this j (Nat.le_refl _)
        omega
    rw [L.same (Nat.zero_le j) hj (fun i _ hi => h1 i hi (fun h => h)), L.st0]
    refine hA b ?_
    rcases hD with h | h | h
    · exact .inl h
    · exact .inr (.inl h)
    · exact .inr (.inr ⟨h, hs⟩)
  · rw [hN b h1 h2] at h3; cases h3
  · have : ∀ k, k ≤ j → rd (tm k) t = rd T t := by
      intro k
      induction k with
      | zero => intro _; rw [L.tm0]
      | succ k ih =>
        intro hk
        have hlt : k < ops.size := by omega
        obtain ⟨_, h2, _⟩ := L.one k _ (Array.getElem?_eq_getElem hlt)
        have hne := h1 k _ (by omega) (fun h => h) (Array.getElem?_eq_getElem hlt)
        rw [← ih (by omega)]
        unfold putT at h2
        split at h2
        · injection h2 with h2; rw [h2]
        · rename_i d hd
          cases hbl : Nat.blt d nt with
          | false => rw [hbl, cond_false] at h2; cases h2
          | true =>
            rw [hbl, cond_true] at h2
            injection h2 with h2
            rw [← h2]
            simp only [rd, Tr.get_set]
            rw [if_neg (fun h => hne (by rw [hd, h]))]
    exact (this j (Nat.le_refl _)).symm

/-- One operation more. -/
theorem InvD.step {S : Nat → Prop} {σ1 : Mp} {cur1 : Cur} {cT : Nat → CV} {w : World} {k : Nat} {o : Oper} {K : Act → World → Prop} (L : Lay P C ρ self ops nt base T T' s s' ms st tm or pr) (hC : CtxOk2 P C) (hS : SelfOk P C ρ self) (hp : ∀ p ∈ s'.pc, p.holds ρ) (hb : base ≤ s.next) (hN : ∀ b, s.next ≤ b → b < s'.next → σ b = none)
    (I : InvD ρ σ cur ops nt base s s' ms st tm or pr a0 w0 S σ1 cur1 cT a w) (hk : ops[k]? = some o) (hkS : ¬ S k) (hpr : ∀ i, pr k i → S i)
    (hK : ∀ σ2 cur2 cT2 a2 w2, InvD ρ σ cur ops nt base s s' ms st tm or pr a0 w0 (fun i => S i ∨ i = k) σ2 cur2 cT2 a2 w2 → K a2 w2) : OpGoal P ro n ops Q o K a w := by
  obtain ⟨g1, g2, g3, g4, g5, g6⟩ := L.one k o hk
  have hlt : k < ops.size := (Array.getElem?_eq_some_iff.1 hk).1
  have hf := L.frm k hlt
  have hsk := L.nextS (i := k) (by omega)
  have hsk1 := L.nextS (i := k + 1) (by omega)
  have hkk1 := hf.next
  have hfO : Frm (st k) (or k).s (or k).W := by rw [← g3]; exact hf
  have hpk : ∀ p ∈ (or k).s.pc, p.holds ρ := fun p hp' => hp p (by obtain ⟨X, hX⟩ := L.pcs (k + 1) (by omega); rw [hX, g3]; simp [hp'])
  -- what the operation reads and writes is as at its place in the text
  have hD : ∀ b, b ∈ (or k).R ∨ b ∈ (or k).W → (b ∈ sumR base ms ∨ b ∈ sumW base ms ∨ base ≤ b) := by
    intro b hb'
    by_cases h : b < base
    · rcases hb' with hb' | hb'
      · exact .inl (sumR_mem g6 b hb' h)
      · exact .inr (.inl (sumW_mem g6 b hb' h))
    · exact .inr (.inr (by omega))
  have hlt2 : ∀ b, b ∈ (or k).R ∨ b ∈ (or k).W → b < (st k).next := fun b hb' => by
    rcases hb' with hb' | hb'
    · exact g4 b hb'
    · exact g5 b hb'
  -- an operation that came up though it stands behind this one
  have late : ∀ i, k < i → S i → ¬ pr i k := fun i _ hSi hpi => hkS (I.down i hSi k hpi)
  have hA : ∀ b, b ∈ (or k).R ∨ b ∈ (or k).W → cur1 b = (st k).heap.get b := by
    intro b hb'
    refine I.right k (by omega) b (hD b hb') (hlt2 b hb') (fun i hi hSi => ?_) (fun i hi hin hSi => ?_)
    · rcases L.conf i k hi hlt with h | h
      · exact absurd (hpr i h) hSi
      · intro hm
        obtain ⟨h1, h2⟩ := h.r b hb'
        rcases hm with hm | hm
        · exact h1 hm
        · exact h2 hm
    · have hne : i ≠ k := fun e => hkS (e ▸ hSi)
      intro hm
      rcases L.conf k i (by omega) hin with h | h
      · exact late i (by omega) hSi h
      · rcases hm with hm | hm
        · exact h.w b hb' hm
        · have := L.mono k i (by omega) (by omega)
          have := hlt2 b hb'
          omega
  have hNk : ∀ b, (st k).next ≤ b → b < (or k).s.next → σ1 b = none := fun b h1 h2 => I.noneS k hlt hkS b h1 (by rw [g3]; exact h2)
  -- the temporaries that it looks at
  have hL : Looks ρ σ1 (tm k) a ops o := by
    intro t ht
    have := I.T t
    rw [I.rightT k (by omega) t (fun i oi hi hSi hoi hdi => ?_) (fun i oi hi hSi hoi hdi => ?_)] at this
    · exact this
    · rcases L.temps i k oi o hi hoi hk with h | h
      · exact hSi (hpr i h)
      · exact (Oper.apart_spec h).1 t hdi ht
    · have hne : i ≠ k := fun e => hkS (e ▸ hSi)
      rcases L.temps k i o oi (by omega) hk hoi with h | h
      · exact late i (by omega) hSi h
      · exact (Oper.apart_spec h).2.2 t hdi ht
  refine oneE_sound hC hS g1 hpk hL I.H hA hNk (fun v w' hpost => ?_)
  obtain ⟨σ2, p1, p2, p3, p4, p5⟩ := hpost
  have hle : σ1.le σ2 := p1.le hNk
  rw [← g3] at p1 p3 p5
  have hWk : ∀ b ∈ (or k).W, b ∈ sumW base ms ∨ base ≤ b := fun b hb' => by
    by_cases h : b < base
    · exact .inl (sumW_mem g6 b hb' h)
    · exact .inr (by omega)
  have old : ∀ b l, (b ∈ (or k).W ∨ (st k).next ≤ b) → σ1 b = some l → w0.heap.size ≤ l.blk ∨ ∃ b0, (b0 ∈ sumW base ms ∨ base ≤ b0) ∧ ∃ l0, σ b0 = some l0 ∧ l0.blk = l.blk := by
    intro b l hb' hl
    by_cases hr : s.next ≤ b ∧ b < s'.next
    · exact I.F b l hr.1 hr.2 hl
    · rw [I.ext b (by omega)] at hl
      refine .inr ⟨b, ?_, l, hl, rfl⟩
      rcases hb' with hb' | hb'
      · exact hWk b hb'
      · exact .inr (by omega)
  have modk : ∀ b, Mod st or k b ↔ (b ∈ (or k).W ∨ ((st k).next ≤ b ∧ b < (st (k + 1)).next)) := fun _ => Iff.rfl
  refine hK σ2 (upd cur1 (st k).next (st (k + 1)).next (st (k + 1)).heap (or k).W) (fun t => if o.dst = some t then (or k).val else cT t) _ w' ?_
  refine ⟨fun j hj i hi => ?_, fun b hb' => ?_, fun i hi hSi b h1 h2 => ?_, ?_, fun j hj b hDb hltb c1 c2 => ?_, fun b hm => ?_, ?_, fun b l h1 h2 h3 => ?_, ?_, ?_, fun t => ?_, fun j hj t c1 c2 => ?_⟩
  · rcases hj with hj | rfl
    · exact .inl (I.down j hj i hi)
    · exact .inl (hpr i hi)
  · rw [p1 b (by omega), I.ext b hb']
  · have hne : i ≠ k := fun e => hSi (.inr e)
    have : b < (st k).next ∨ (st (k + 1)).next ≤ b := by
      rcases Nat.lt_or_gt_of_ne hne with h | h
      · have := L.mono (i + 1) k (by omega) (by omega); omega
      · have := L.mono (k + 1) i (by omega) (by omega); omega
    rw [p1 b this]
    exact I.noneS i hi (fun h => hSi (.inl h)) b h1 h2
  · rw [g3] at p3 ⊢; exact p3
  · show (if b ∈ (or k).W ∨ ((st k).next ≤ b ∧ b < (st (k + 1)).next) then _ else _) = _
    by_cases hm : Mod st or k b
    · rw [if_pos ((modk b).1 hm)]
      by_cases hkj : k < j
      · -- nothing between changes it
        refine (L.same (by omega) hj (fun i hi1 hi2 hmi => ?_)).symm
        by_cases hSi : S i ∨ i = k
        · rcases hSi with hSi | hSi
          · rcases L.conf k i (by omega) (by omega) with h | h
            · exact late i (by omega) hSi h
            · rcases hmi with hmi | hmi
              · rcases hm with hm | hm
                · exact h.w b (.inr hm) hmi
                · have := (h.r b (.inr hmi)).2; exact this hm
              · rcases hm with hm | hm
                · have := g5 b hm; have := L.mono k i (by omega) (by omega); omega
                · have := L.mono (k + 1) i (by omega) (by omega); omega
          · omega
        · exact c1 i hi2 hSi hmi
      · exact absurd hm (c2 k (by omega) hlt (.inr rfl))
    · rw [if_neg (fun h => hm ((modk b).2 h))]
      refine I.right j hj b hDb hltb (fun i hi hSi => ?_) (fun i hi hin hSi => c2 i hi hin (.inl hSi))
      by_cases e : i = k
      · subst e; exact hm
      · exact c1 i hi (fun h => by rcases h with h | h; · exact hSi h
                                   · exact e h)
  · show (if b ∈ (or k).W ∨ ((st k).next ≤ b ∧ b < (st (k + 1)).next) then _ else _) = _
    rw [if_neg (fun h => hm k hlt ((modk b).2 h))]
    exact I.out b hm
  · refine ⟨p4.os.trans I.K.os, p4.tape.trans I.K.tape, p4.output.trans I.K.output, Nat.le_trans I.K.size p4.size, fun x hx hne => ?_, fun k r hr => (I.K.loops k r hr).elim fun r1 h1 => p4.loops k r1 h1, fun k hr => p4.defd k (I.K.defd k hr)⟩
    rw [p4.block x (by have := I.K.size; omega) (fun b hb' l hl e => ?_), I.K.block x hx hne]
    rcases old b l hb' hl with h1 | ⟨b0, h0, l0, h1, h2⟩
    · omega
    · exact hne b0 h0 l0 h1 (h2.trans e)
  · by_cases hr : (st k).next ≤ b ∧ b < (st (k + 1)).next
    · rcases p5 b l hr.1 hr.2 h3 with h4 | ⟨b0, h0, l0, h5, h6⟩
      · exact .inl (by have := I.K.size; omega)
      · rcases old b0 l0 h0 h5 with h7 | ⟨b1, h8, l1, h9, h10⟩
        · exact .inl (by omega)
        · exact .inr ⟨b1, h8, l1, h9, h10.trans h6⟩
    · rw [p1 b (by omega)] at h3
      exact I.F b l h1 h2 h3
  · cases hd : o.dst with
    | none => simp [Act.put, I.sz]
    | some d => simp [Act.put, I.sz]
  · cases hd : o.dst with
    | none => exact I.df
    | some d => exact I.df
  · cases hd : o.dst with
    | none => simp only [Act.put, if_neg (by simp : ¬ (none = some t))]; exact (I.T t).mono hle
    | some d =>
      simp only [Act.put]
      by_cases e : d = t
      · subst e
        simp only [if_true]
        have hlt' : d < a.tmps.size := by
          rw [hd] at g2
          simp only [putT] at g2
          cases hbl : Nat.blt d nt with
          | false => rw [hbl, cond_false] at g2; cases g2
          | true => rw [I.sz]; exact Nat.lt_of_succ_le (Nat.le_of_ble_eq_true hbl)
        rw [Array.getD_eq_getD_getElem?, Array.getElem?_setIfInBounds_self_of_lt hlt']
        exact p2
      · rw [if_neg (by simpa using e), Array.getD_eq_getD_getElem?, Array.getElem?_setIfInBounds_ne e, ← Array.getD_eq_getD_getElem?]
        exact (I.T t).mono hle
  · show (if o.dst = some t then (or k).val else cT t) = _
    by_cases e : o.dst = some t
    · rw [if_pos e]
      by_cases hkj : k < j
      · -- the value that the operation put there
        have h0 : rd (tm (k + 1)) t = (or k).val := by
          rw [e] at g2
          simp only [putT] at g2
          cases hbl : Nat.blt t nt with
          | false => rw [hbl, cond_false] at g2; cases g2
          | true =>
            rw [hbl, cond_true] at g2
            injection g2 with g2
            rw [← g2]
            simp [rd, Tr.get_set]
        have : ∀ m, k + 1 ≤ m → m ≤ j → rd (tm m) t = (or k).val := by
          intro m
          induction m with
          | zero => intro h; omega
          | succ m ih =>
            intro h1 h2
            by_cases e2 : m = k
            · subst e2; exact h0
            · have hm1 := ih (by omega) (by omega)
              have hml : m < ops.size := by omega
              obtain ⟨_, q2, _⟩ := L.one m _ (Array.getElem?_eq_getElem hml)
              have hdm : ops[m].dst ≠ some t := by
                by_cases hSm : S m ∨ m = k
                · rcases hSm with hSm | hSm
                  · rcases L.temps k m o _ (by omega) hk (Array.getElem?_eq_getElem hml) with h | h
                    · exact absurd h (late m (by omega) hSm)
                    · exact (Oper.apart_spec h).2.1 t e
                  · omega
                · exact c1 m _ (by omega) hSm (Array.getElem?_eq_getElem hml)
              rw [← hm1]
              unfold putT at q2
              split at q2
              · injection q2 with q2; rw [q2]
              · rename_i d hd
                cases hbl : Nat.blt d nt with
                | false => rw [hbl, cond_false] at q2; cases q2
                | true =>
                  rw [hbl, cond_true] at q2
                  injection q2 with q2
                  rw [← q2]
                  simp only [rd, Tr.get_set]
                  rw [if_neg (fun h => hdm (by rw [hd, h]))]
        exact (this j (by omega) (Nat.le_refl _)).symm
      · exact absurd e (c2 k o (by omega) (.inr rfl) hk)
    · rw [if_neg e]
      refine I.rightT j hj t (fun i oi hi hSi hoi => ?_) (fun i oi hi hSi hoi => c2 i oi hi (.inl hSi) hoi)
      by_cases e2 : i = k
      · subst e2; rw [hk] at hoi; obtain rfl := Option.some.inj hoi; exact e
      · exact c1 i oi hi (fun h => by rcases h with h | h; · exact hSi h
                                      · exact e2 h) hoi

end
end Go.Proofs.Ytknphpihipkdpaa.Cx
