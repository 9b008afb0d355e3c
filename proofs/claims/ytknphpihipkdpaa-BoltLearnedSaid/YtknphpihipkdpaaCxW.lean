/- POINTS BY LISTS: temporaries and blocks listed; a path of the evaluator; a loop over a family of points. -/
import Derived.Test.YtknphpihipkdpaaCxV
import Derived.Test.YtknphpihipkdpaaCxS
set_option linter.unusedSimpArgs false
set_option linter.unusedVariables false
namespace Go.Proofs.Ytknphpihipkdpaa.Cx
open Go Go.RowKit

noncomputable def mkT : List (Nat × CV) → Tr CV
  | [] => .nil
  | (t, c) :: l => (mkT l).set t c
noncomputable def mkH : List (Nat × Blk) → Tr Blk
  | [] => .nil
  | (t, c) :: l => (mkH l).set t c

noncomputable def mkP (T : List (Nat × CV)) (h : List (Nat × Blk)) (n : Nat) : Pt := ⟨mkT T, mkH h, n⟩

def codeL : Code → Code
  | .seq a _ => a
  | .cond _ a _ => a
  | .block _ b => b
  | .loop b => b
  | .scope b => b
  | .rangeFunc _ _ a _ => a
  | c => c
def codeR : Code → Code
  | .seq _ b => b
  | .cond _ _ b => b
  | .rangeFunc _ _ _ b => b
  | .block _ b => b
  | .loop b => b
  | .scope b => b
  | c => c
/-- A part of a statement: 0 its first part (a loop's, a block's body), 1 its second one. -/
def codeAt : Code → List Nat → Code
  | c, [] => c
  | c, 0 :: l => codeAt (codeL c) l
  | c, _ :: l => codeAt (codeR c) l
def funcCode (f : Func) : Code := match f.body with | some c => c | none => .skip

theorem rd_mkT (t : Nat) : ∀ (l : List (Nat × CV)), rd (mkT l) t = match l.find? (fun x => x.1 == t) with | some x => x.2 | none => .any
  | [] => rfl
  | (u, c) :: l => by
    have ih := rd_mkT t l
    simp only [mkT, rd, Tr.get_set, List.find?_cons]
    by_cases h : t = u
    · subst h; simp
    · have h' : (u == t) = false := by simp; exact fun e => h e.symm
      rw [if_neg h, h']
      exact ih
theorem get_mkH (t : Nat) : ∀ (l : List (Nat × Blk)), (mkH l).get t = (l.find? (fun x => x.1 == t)).map (·.2)
  | [] => rfl
  | (u, c) :: l => by
    have ih := get_mkH t l
    simp only [mkH, Tr.get_set, List.find?_cons]
    by_cases h : t = u
    · subst h; simp
    · have h' : (u == t) = false := by simp; exact fun e => h e.symm
      rw [if_neg h, h']
      exact ih

section
variable {P : Program} {C : Ctx} {ρ : Env} {X : Fx} {c d : Code} {p : Pt} {Φ Ψ : Ex → Pt → Prop}

/-- One path of the evaluator. -/
theorem Sem.path {m : Nat} {o : List Nat} {sl bl : List Nat} {e : Ex} {cs : List CV} {ks : List (Option Blk)} {n base nt : Nat} {l : List PC} {W : List Nat} (hC : CtxOk3 P C) (hM : MemoOk P C ρ) (hX : FxOk ρ X) (hb : X.base = base) (hnt : X.nt = nt) (hr : regsOk c = true)
    (h : Out.pk sl bl (Cx.eval C m base (.code c nt p.T) (p.st o)) = some (e, cs, ks, n, l, W)) (hp : ∀ q ∈ l, q.holds ρ) (hW : ∀ b ∈ W, b ∈ X.W)
    (hΦ : ∀ T h, sl.map (rd T) = cs → bl.map h.get = ks → Φ e ⟨T, h, n⟩) : Sem P ρ X c p Φ := by
  subst hb hnt
  obtain ⟨T, s, R, h1, h2, h3, h4, h5⟩ := Out.pk_inv h
  subst h4 h5
  exact Sem.eval hC hM hX hr h1 hp hW (hΦ T s.heap h2 h3)

/-- The evaluator runs up to a part of a statement: whether it came there, or how the statement was left; what it wrote of old blocks. -/
noncomputable def evalTo (C : Ctx) (m base nt : Nat) : Code → List Nat → Tr CV → St → Option (Bool × Ex × Tr CV × St × List Nat)
  | _, [], T, s => some (true, .normal, T, s, [])
  | .seq a b, d :: l, T, s =>
    bif Nat.beq d 0 then
      match evalTo C m base nt a l T s with
      | some (false, .normal, T1, s1, W1) => match Cx.eval C m base (.code b nt T1) s1 with
        | some ⟨.code e T2, s2, _, W2⟩ => some (false, e, T2, s2, W1 ++ W2)
        | _ => none
      | r => r
    else
      match Cx.eval C m base (.code a nt T) s with
      | some ⟨.code .normal T1, s1, _, W1⟩ => match evalTo C m base nt b l T1 s1 with
        | some (t, e, T2, s2, W2) => some (t, e, T2, s2, W1 ++ W2)
        | none => none
      | some ⟨.code e T1, s1, _, W1⟩ => some (false, e, T1, s1, W1)
      | _ => none
  | .cond x a b, d :: l, T, s =>
    match ev T x with
    | some (.bool e) => match s.decide e with
      | some (v, s1) =>
        bif v == Nat.beq d 0 then evalTo C m base nt (bif v then a else b) l T s1 else
        match Cx.eval C m base (.code (bif v then a else b) nt T) s1 with
        | some ⟨.code e T1, s1, _, W1⟩ => some (false, e, T1, s1, W1)
        | _ => none
      | none => none
    | _ => none
  | .block i b, _ :: l, T, s =>
    match evalTo C m base nt b l T s with
    | some (false, .exit j, T1, s1, W1) => some (false, bif Nat.beq j i then .normal else .exit j, T1, s1, W1)
    | r => r
  | .scope b, _ :: l, T, s => evalTo C m base nt b l T s
  | _, _, _, _ => none

/-- What is to hold where a part of a statement is left. -/
def Aft (P : Program) (ρ : Env) (X : Fx) : Code → List Nat → (Ex → Pt → Prop) → Ex → Pt → Prop
  | _, [], Φ => Φ
  | .seq a b, d :: l, Φ => match d with
    | 0 => Aft P ρ X a l (Then P ρ X b Φ)
    | _ + 1 => Aft P ρ X b l Φ
  | .cond _ a b, d :: l, Φ => match d with
    | 0 => Aft P ρ X a l Φ
    | _ + 1 => Aft P ρ X b l Φ
  | .block i b, _ :: l, Φ => Aft P ρ X b l (Inside i Φ)
  | .scope b, _ :: l, Φ => Aft P ρ X b l Φ
  | _, _, _ => fun _ _ => False

/-- The evaluator runs up to a part: what is left to be shown. -/
def Rest (P : Program) (ρ : Env) (X : Fx) (c : Code) (π : List Nat) (Φ : Ex → Pt → Prop) : Bool → Ex → Pt → Prop
  | true, _, p => Sem P ρ X (codeAt c π) p (Aft P ρ X c π Φ)
  | false, e, p => Φ e p

theorem evalTo_frm {m base nt : Nat} (hC : CtxOk3 P C) (hM : MemoOk P C ρ) : ∀ (π : List Nat) (c : Code) (T : Tr CV) (s0 s1 : St) (t : Bool) (e : Ex) (T1 : Tr CV) (W : List Nat), base ≤ s0.next → evalTo C m base nt c π T s0 = some (t, e, T1, s1, W) → s0.next ≤ s1.next ∧ ∃ l, s1.pc = l ++ s0.pc
  | [], c, T, s0, s1, t, e, T1, W, hle, h => by
    simp only [evalTo] at h
    cases h
    exact ⟨Nat.le_refl _, [], rfl⟩
  | d :: l, .seq a b, T, s0, s1, t, e, T1, W, hle, h => by
    simp only [evalTo] at h
    cases hd : Nat.beq d 0 with
    | true =>
      rw [hd, cond_true] at h
      split at h
      · rename_i T2 s2 W1 he
        obtain ⟨n1, l1, p1⟩ := evalTo_frm hC hM l a T s0 s2 _ _ _ _ hle he
        split at h
        · rename_i e3 T3 s3 R3 W3 he3
          cases h
          have k3 := (eval_ok (ρ := ρ) hC hM m).code _ _ _ _ _ _ _ _ _ _ he3 (Nat.le_trans hle n1)
          obtain ⟨l3, p3⟩ := k3.frm.pc
          exact ⟨Nat.le_trans n1 k3.frm.next, l3 ++ l1, by rw [p3, p1, List.append_assoc]⟩
        · cases h
      · exact evalTo_frm hC hM l a T s0 s1 _ _ _ _ hle h
    | false =>
      rw [hd, cond_false] at h
      split at h
      · rename_i T2 s2 R2 W2 he
        have k2 := (eval_ok (ρ := ρ) hC hM m).code _ _ _ _ _ _ _ _ _ _ he hle
        obtain ⟨l2, p2⟩ := k2.frm.pc
        split at h
        · rename_i t3 e3 T3 s3 W3 he3
          cases h
          obtain ⟨n3, l3, p3⟩ := evalTo_frm hC hM l b T2 s2 s1 _ _ _ _ (Nat.le_trans hle k2.frm.next) he3
          exact ⟨Nat.le_trans k2.frm.next n3, l3 ++ l2, by rw [p3, p2, List.append_assoc]⟩
        · cases h
      · rename_i e2 T2 s2 R2 W2 hne he
        cases h
        have k2 := (eval_ok (ρ := ρ) hC hM m).code _ _ _ _ _ _ _ _ _ _ he hle
        exact ⟨k2.frm.next, k2.frm.pc⟩
      · cases h
  | d :: l, .cond x a b, T, s0, s1, t, e, T1, W, hle, h => by
    simp only [evalTo] at h
    split at h
    · rename_i ex hx
      split at h
      · rename_i v s2 hd
        obtain ⟨d1, d2, ⟨ld, d3⟩, d4⟩ := decide_parts (ρ := ρ) hd
        cases hv : v == Nat.beq d 0 with
        | true =>
          rw [hv, cond_true] at h
          obtain ⟨n1, l1, p1⟩ := evalTo_frm hC hM l (bif v then a else b) T s2 s1 _ _ _ _ (by rw [d1]; exact hle) h
          exact ⟨by rw [← d1]; exact n1, l1 ++ ld, by rw [p1, d3, List.append_assoc]⟩
        | false =>
          rw [hv, cond_false] at h
          split at h
          · rename_i e3 T3 s3 R3 W3 he3
            cases h
            have k3 := (eval_ok (ρ := ρ) hC hM m).code _ _ _ _ _ _ _ _ _ _ he3 (by rw [d1]; exact hle)
            obtain ⟨l3, p3⟩ := k3.frm.pc
            exact ⟨by rw [← d1]; exact k3.frm.next, l3 ++ ld, by rw [p3, d3, List.append_assoc]⟩
          · cases h
      · cases h
    · cases h
  | d :: l, .block i b, T, s0, s1, t, e, T1, W, hle, h => by
    simp only [evalTo] at h
    split at h
    · rename_i j T2 s2 W2 he
      cases h
      exact evalTo_frm hC hM l b T s0 s1 _ _ _ _ hle he
    · exact evalTo_frm hC hM l b T s0 s1 _ _ _ _ hle h
  | d :: l, .scope b, T, s0, s1, t, e, T1, W, hle, h => by
    simp only [evalTo] at h
    exact evalTo_frm hC hM l b T s0 s1 _ _ _ _ hle h
  | _ :: _, .skip, _, _, _, _, _, _, _, _, h => by simp [evalTo] at h
  | _ :: _, .region .., _, _, _, _, _, _, _, _, h => by simp [evalTo] at h
  | _ :: _, .loop _, _, _, _, _, _, _, _, _, h => by simp [evalTo] at h
  | _ :: _, .rangeFunc .., _, _, _, _, _, _, _, _, h => by simp [evalTo] at h
  | _ :: _, .exit _, _, _, _, _, _, _, _, _, h => by simp [evalTo] at h
  | _ :: _, .label _, _, _, _, _, _, _, _, _, h => by simp [evalTo] at h
  | _ :: _, .goto _, _, _, _, _, _, _, _, _, h => by simp [evalTo] at h
  | _ :: _, .ret, _, _, _, _, _, _, _, _, h => by simp [evalTo] at h
  | _ :: _, .refuse _, _, _, _, _, _, _, _, _, h => by simp [evalTo] at h

theorem Sem.to {m : Nat} (hC : CtxOk3 P C) (hM : MemoOk P C ρ) (hX : FxOk ρ X) : ∀ (π : List Nat) (c : Code) (Φ : Ex → Pt → Prop) (p : Pt) (s0 s1 : St) (t : Bool) (e : Ex) (T1 : Tr CV) (W : List Nat), regsOk c = true → s0.heap = p.h → s0.next = p.n → evalTo C m X.base X.nt c π p.T s0 = some (t, e, T1, s1, W) → (∀ q ∈ s1.pc, q.holds ρ) → (∀ b ∈ W, b ∈ X.W) → X.base ≤ p.n →
    (∃ l, s1.pc = l ++ s0.pc) ∧ (Rest P ρ X c π Φ t e ⟨T1, s1.heap, s1.next⟩ → Sem P ρ X c p Φ)
  | [], c, Φ, p, s0, s1, t, e, T1, W, hr, h1, h2, h, hp, hW, hle => by
    simp only [evalTo] at h
    cases h
    refine ⟨⟨[], rfl⟩, fun hR => ?_⟩
    obtain ⟨T, hh, n⟩ := p
    subst h1 h2
    simpa only [Rest, codeAt, Aft] using hR
  | d :: l, .seq a b, Φ, p, s0, s1, t, e, T1, W, hr, h1, h2, h, hp, hW, hle => by
    have hra := (regs_seq hr).1
    have hrb := (regs_seq hr).2
    simp only [evalTo] at h
    cases hd : Nat.beq d 0 with
    | true =>
      rw [hd, cond_true] at h
      obtain rfl := Nat.eq_of_beq_eq_true hd
      split at h
      · rename_i T2 s2 W1 he
        split at h
        · rename_i e3 T3 s3 R3 W3 he3
          cases h
          have k3' : ∃ l, s1.pc = l ++ s2.pc := ((eval_ok (ρ := ρ) hC hM m).code _ _ _ _ _ _ _ _ _ _ he3 (Nat.le_trans (by rw [h2]; exact hle) (evalTo_frm (ρ := ρ) hC hM l a p.T s0 s2 _ _ _ _ (by rw [h2]; exact hle) he).1)).frm.pc
          have hp2 : ∀ q ∈ s2.pc, q.holds ρ := fun q hq => hp q (by obtain ⟨L, hL⟩ := k3'; rw [hL]; simp [hq])
          obtain ⟨⟨l1, hl1⟩, hs⟩ := Sem.to hC hM hX l a (Then P ρ X b Φ) p s0 s2 _ _ _ _ hra h1 h2 he hp2 (fun b hb => hW b (by simp [hb])) hle
          obtain ⟨l3, hl3⟩ := k3'
          refine ⟨⟨l3 ++ l1, by rw [hl3, hl1, List.append_assoc]⟩, fun hR => .seq (hs ?_)⟩
          show Sem P ρ X b ⟨T2, s2.heap, s2.next⟩ Φ
          exact .evalS hC hM hX hrb rfl rfl he3 hp (fun b hb => hW b (by simp [hb])) hR
        · cases h
      · rename_i hne
        obtain ⟨hl1, hs⟩ := Sem.to hC hM hX l a (Then P ρ X b Φ) p s0 s1 t e T1 W hra h1 h2 h hp hW hle
        refine ⟨hl1, fun hR => .seq (hs ?_)⟩
        cases t with
        | true => exact hR
        | false =>
          cases e with
          | normal => exact absurd h (hne _ _ _)
          | exit i => exact hR
          | ret => exact hR
    | false =>
      rw [hd, cond_false] at h
      obtain ⟨d', rfl⟩ : ∃ d', d = d' + 1 := by cases d with | zero => cases hd | succ d => exact ⟨d, rfl⟩
      split at h
      · rename_i T2 s2 R2 W2 he
        have k2 := (eval_ok (ρ := ρ) hC hM m).code _ _ _ _ _ _ _ _ _ _ he (by rw [h2]; exact hle)
        split at h
        · rename_i t3 e3 T3 s3 W3 he3
          cases h
          have hle2 : X.base ≤ s2.next := Nat.le_trans (by rw [h2]; exact hle) k2.frm.next
          obtain ⟨⟨l3, hl3⟩, hs⟩ := Sem.to hC hM hX l b Φ ⟨T2, s2.heap, s2.next⟩ s2 s1 t e T1 W3 hrb rfl rfl he3 hp (fun b hb => hW b (by simp [hb])) hle2
          obtain ⟨l2, hl2⟩ := k2.frm.pc
          refine ⟨⟨l3 ++ l2, by rw [hl3, hl2, List.append_assoc]⟩, fun hR => .seq (.evalS hC hM hX hra h1 h2 he (fun q hq => hp q (by rw [hl3]; simp [hq])) (fun b hb => hW b (by simp [hb])) ?_)⟩
          show Sem P ρ X b ⟨T2, s2.heap, s2.next⟩ Φ
          refine hs ?_
          cases t <;> exact hR
        · cases h
      · rename_i e2 T2 s2 R2 W2 hne he
        cases h
        have k2 := (eval_ok (ρ := ρ) hC hM m).code _ _ _ _ _ _ _ _ _ _ he (by rw [h2]; exact hle)
        refine ⟨k2.frm.pc, fun hR => .seq (.evalS hC hM hX hra h1 h2 he hp hW ?_)⟩
        cases e with
        | normal => exact absurd he (by intro he'; exact hne rfl)
        | exit i => exact hR
        | ret => exact hR
      · cases h
  | d :: l, .cond x a b, Φ, p, s0, s1, t, e, T1, W, hr, h1, h2, h, hp, hW, hle => by
    simp only [evalTo] at h
    split at h
    · rename_i ex hx
      split at h
      · rename_i v s2 hd
        obtain ⟨d1, d2, ⟨ld, d3⟩, d4⟩ := decide_parts (ρ := ρ) hd
        have hrv : regsOk (bif v then a else b) = true := by cases v; exact (regs_cond hr).2; exact (regs_cond hr).1
        cases hv : v == Nat.beq d 0 with
        | true =>
          rw [hv, cond_true] at h
          obtain ⟨⟨l1, hl1⟩, hs⟩ := Sem.to hC hM hX l (bif v then a else b) Φ p s2 s1 t e T1 W hrv (d2.trans h1) (d1.trans h2) h hp hW hle
          refine ⟨⟨l1 ++ ld, by rw [hl1, d3, List.append_assoc]⟩, fun hR => .cond hx (d4 (fun q hq => hp q (by rw [hl1]; simp [hq]))) ?_⟩
          have hv := eq_of_beq hv
          cases v with
          | true =>
            obtain rfl := Nat.eq_of_beq_eq_true hv.symm
            exact hs (by cases t <;> exact hR)
          | false =>
            obtain ⟨d', rfl⟩ : ∃ d', d = d' + 1 := by cases d with | zero => cases hv | succ d => exact ⟨d, rfl⟩
            exact hs (by cases t <;> exact hR)
        | false =>
          rw [hv, cond_false] at h
          split at h
          · rename_i e3 T3 s3 R3 W3 he3
            cases h
            have k3 := (eval_ok (ρ := ρ) hC hM m).code _ _ _ _ _ _ _ _ _ _ he3 (by rw [d1, h2]; exact hle)
            obtain ⟨l3, hl3⟩ := k3.frm.pc
            refine ⟨⟨l3 ++ ld, by rw [hl3, d3, List.append_assoc]⟩, fun hR => .cond hx (d4 (fun q hq => hp q (by rw [hl3]; simp [hq]))) ?_⟩
            have := Sem.evalS (p := p) (Φ := Φ) hC hM hX hrv (d2.trans h1) (d1.trans h2) he3 hp hW hR
            cases v <;> exact this
          · cases h
      · cases h
    · cases h
  | d :: l, .block i b, Φ, p, s0, s1, t, e, T1, W, hr, h1, h2, h, hp, hW, hle => by
    simp only [evalTo] at h
    split at h
    · rename_i j T2 s2 W2 he
      cases h
      obtain ⟨hl1, hs⟩ := Sem.to hC hM hX l b (Inside i Φ) p s0 s1 false (.exit j) T1 W hr h1 h2 he hp hW hle
      refine ⟨hl1, fun hR => .block (hs ?_)⟩
      show bif Nat.beq j i then Φ .normal _ else Φ (.exit j) _
      cases hj : Nat.beq j i with
      | true => rw [hj] at hR; exact hR
      | false => rw [hj] at hR; exact hR
    · rename_i hne
      obtain ⟨hl1, hs⟩ := Sem.to hC hM hX l b (Inside i Φ) p s0 s1 t e T1 W hr h1 h2 h hp hW hle
      refine ⟨hl1, fun hR => .block (hs ?_)⟩
      cases t with
      | true => cases d <;> exact hR
      | false =>
        cases e with
        | normal => exact hR
        | exit j => exact absurd h (hne _ _ _ _)
        | ret => exact hR
  | d :: l, .scope b, Φ, p, s0, s1, t, e, T1, W, hr, h1, h2, h, hp, hW, hle => by
    simp only [evalTo] at h
    obtain ⟨hl1, hs⟩ := Sem.to hC hM hX l b Φ p s0 s1 t e T1 W hr h1 h2 h hp hW hle
    exact ⟨hl1, fun hR => .scope (hs (by cases t <;> cases d <;> exact hR))⟩
  | _ :: _, .skip, _, _, _, _, _, _, _, _, _, _, _, h, _, _, _ => by simp [evalTo] at h
  | _ :: _, .region .., _, _, _, _, _, _, _, _, _, _, _, h, _, _, _ => by simp [evalTo] at h
  | _ :: _, .loop _, _, _, _, _, _, _, _, _, _, _, _, h, _, _, _ => by simp [evalTo] at h
  | _ :: _, .rangeFunc .., _, _, _, _, _, _, _, _, _, _, _, h, _, _, _ => by simp [evalTo] at h
  | _ :: _, .exit _, _, _, _, _, _, _, _, _, _, _, _, h, _, _, _ => by simp [evalTo] at h
  | _ :: _, .label _, _, _, _, _, _, _, _, _, _, _, _, h, _, _, _ => by simp [evalTo] at h
  | _ :: _, .goto _, _, _, _, _, _, _, _, _, _, _, _, h, _, _, _ => by simp [evalTo] at h
  | _ :: _, .ret, _, _, _, _, _, _, _, _, _, _, _, h, _, _, _ => by simp [evalTo] at h
  | _ :: _, .refuse _, _, _, _, _, _, _, _, _, _, _, _, h, _, _, _ => by simp [evalTo] at h

noncomputable def toPk (sl bl : List Nat) : Option (Bool × Ex × Tr CV × St × List Nat) → Option (Bool × Ex × List CV × List (Option Blk) × Nat × List PC × List Nat)
  | some (t, e, T, s, W) => some (t, e, sl.map (rd T), bl.map s.heap.get, s.next, s.pc, W)
  | none => none

/-- One path of the evaluator up to a part. -/
theorem Sem.toPath {m : Nat} {o : List Nat} {π : List Nat} {sl bl : List Nat} {t : Bool} {e : Ex} {cs : List CV} {ks : List (Option Blk)} {n base nt : Nat} {l : List PC} {W : List Nat} (hC : CtxOk3 P C) (hM : MemoOk P C ρ) (hX : FxOk ρ X) (hb : X.base = base) (hnt : X.nt = nt) (hle : base ≤ p.n) (hr : regsOk c = true)
    (h : toPk sl bl (evalTo C m base nt c π p.T (p.st o)) = some (t, e, cs, ks, n, l, W)) (hp : ∀ q ∈ l, q.holds ρ) (hW : ∀ b ∈ W, b ∈ X.W)
    (hΦ : ∀ T h, sl.map (rd T) = cs → bl.map h.get = ks → Rest P ρ X c π Φ t e ⟨T, h, n⟩) : Sem P ρ X c p Φ := by
  subst hb hnt
  cases hv : evalTo C m X.base X.nt c π p.T (p.st o) with
  | none => rw [hv] at h; cases h
  | some r =>
    obtain ⟨t1, e1, T1, s1, W1⟩ := r
    rw [hv] at h
    simp only [toPk, Option.some.injEq, Prod.mk.injEq] at h
    obtain ⟨rfl, rfl, h1, h2, rfl, rfl, rfl⟩ := h
    exact (Sem.to hC hM hX π c Φ p (p.st o) s1 t1 e1 T1 W1 hr rfl rfl hv hp hW hle).2 (hΦ T1 s1.heap h1 h2)

theorem regs_at : ∀ (π : List Nat) {c : Code}, regsOk c = true → regsOk (codeAt c π) = true := by
  have hl : ∀ {c : Code}, regsOk c = true → regsOk (codeL c) = true := fun {c} h => by
    cases c <;> simp only [codeL, regsOk, Bool.and_eq_true] at h ⊢ <;> first | exact h.1 | exact h | trivial
  have hr : ∀ {c : Code}, regsOk c = true → regsOk (codeR c) = true := fun {c} h => by
    cases c <;> simp only [codeR, regsOk, Bool.and_eq_true] at h ⊢ <;> first | exact h.2 | exact h | trivial
  intro π
  induction π with
  | nil => intro c h; exact h
  | cons d l ih =>
    intro c h
    cases d with
    | zero => exact ih (hl h)
    | succ d => exact ih (hr h)

/-- A loop's round over a family of points. -/
def RoundT {Θ : Type} (ρ : Env) (X : Fx) (tm : Θ → Pt) (I : Θ → Prop) (μ : Θ → Nat) (θ : Θ) (Φ : Ex → Pt → Prop) : Ex → Pt → Prop
  | .normal, p => ∃ θ' ren, I θ' ∧ μ θ' < μ θ ∧ Mat ρ X ren p (tm θ')
  | e, p => Φ e p

theorem Sem.loopT {Θ : Type} (tm : Θ → Pt) (I : Θ → Prop) (μ : Θ → Nat) (hX : FxOk ρ X) (hb : ∀ θ, I θ → Sem P ρ X c (tm θ) (RoundT ρ X tm I μ θ Φ)) (θ : Θ) (h : I θ) : Sem P ρ X (.loop c) (tm θ) Φ := by
  intro Q a w hS hQ
  refine wpIn_loop_ghost (fun k a w => ∃ θ, I θ ∧ k = μ θ ∧ SR ρ X (tm θ) a w) (μ θ) ⟨θ, h, rfl, hS⟩ ?_
  rintro k a w ⟨θ, hI, rfl, hS⟩
  refine hb θ hI _ a w hS fun e p' a' w' h1 h2 => ?_
  cases e with
  | normal => obtain ⟨θ', ren, h3, h4, h5⟩ := h1; exact ⟨_, h4, θ', h3, rfl, h2.mat hX h5⟩
  | exit i => exact hQ _ _ _ _ h1 h2
  | ret => exact hQ _ _ _ _ h1 h2

/-! ## Values and blocks under other names -/

theorem MC.any {ren : Nat → Nat} {n2 : Nat} {c : CV} : MC ρ ren n2 c .any := fun _ _ _ _ _ => .any _
theorem MC.plain {ren : Nat → Nat} {n2 : Nat} {c : CV} (h : c.plain = true) : MC ρ ren n2 c c := fun _ _ _ _ hv => hv.plain h
theorem MC.eq {ren : Nat → Nat} {n2 : Nat} {c c0 c1 : CV} (h : MC ρ ren n2 c1 c) (e : c0 = c1) : MC ρ ren n2 c0 c := e ▸ h
theorem MC.of {ren : Nat → Nat} {n2 : Nat} {c c0 c1 : CV} (e : c0 = c1) (h : MC ρ ren n2 c1 c) : MC ρ ren n2 c0 c := e ▸ h
theorem MC.int {ren : Nat → Nat} {n2 : Nat} {k : IntKind} {e e' : IE} (h : e.den ρ = e'.den ρ) : MC ρ ren n2 (.int k e) (.int k e') := fun _ _ _ _ hv => by
  rw [hv.int_inv, h]; exact .int _ _
theorem MC.bool {ren : Nat → Nat} {n2 : Nat} {e e' : BE} (h : e.den ρ = e'.den ρ) : MC ρ ren n2 (.bool e) (.bool e') := fun _ _ _ _ hv => by
  rw [hv.bool_inv, h]; exact .bool _
theorem MC.ptr {ren : Nat → Nat} {n2 b b0 o : Nat} (h : ren b = b0) (hb : b < n2) : MC ρ ren n2 (.ptr (some (b0, o))) (.ptr (some (b, o))) := fun σ σ2 v hs hv => by
  subst h
  cases hv with
  | ptr h => exact .ptr (by rw [hs b hb]; exact h)
theorem MC.slc {ren : Nat → Nat} {n2 b b0 o n c : Nat} (h : ren b = b0) (hb : b < n2) : MC ρ ren n2 (.slc (some (b0, o)) n c) (.slc (some (b, o)) n c) := fun σ σ2 v hs hv => by
  subst h
  cases hv with
  | slc h hc hsz => exact .slc (by rw [hs b hb]; exact h) hc hsz
theorem MC.slx {ren : Nat → Nat} {n2 b b0 z o n c : Nat} (h : ren b = b0) (hb : b < n2) : MC ρ ren n2 (.slx b0 z o n c) (.slx b z o n c) := fun σ σ2 v hs hv => .slx (MC.slc h hb σ σ2 v hs hv.slx_inv)
theorem MC.sla {ren : Nat → Nat} {n2 b b0 z o n : Nat} (h : ren b = b0) (hb : b < n2) : MC ρ ren n2 (.sla b0 z o n) (.sla b z o n) := fun σ σ2 v hs hv => by
  subst h
  cases hv with
  | sla h hc => exact .sla (by rw [hs b hb]; exact h) hc
  | sla0 a c => exact .sla0 a c
/-- A slice of rows, read alone. -/
theorem VR.slx_sla {σ : Mp} {b z o n c : Nat} {v : Value} (hv : VR ρ σ (.slx b z o n c) v) (hn : n ≤ c) : VR ρ σ (.sla b z o n) v := by
  have hv := hv.slx_inv
  cases hv with
  | slc h hc hsz => exact .sla h (Nat.le_trans hn hc)
theorem MC.slxa {ren : Nat → Nat} {n2 b b0 z o n c : Nat} (h : ren b = b0) (hb : b < n2) (hn : n ≤ c) : MC ρ ren n2 (.slx b0 z o n c) (.sla b z o n) := fun σ σ2 v hs hv => MC.sla h hb σ σ2 v hs (hv.slx_sla hn)
/-- A slice of cells as one of rows. -/
theorem MC.slcx {ren : Nat → Nat} {n2 b b0 z n c : Nat} (h : ren b = b0) (hb : b < n2) : MC ρ ren n2 (.slc (some (b0, 0)) n c) (.slx b z 0 n c) := fun σ σ2 v hs hv => .slx (by rw [Nat.zero_mul]; exact MC.slc h hb σ σ2 v hs hv)
theorem MC.map {ren : Nat → Nat} {n2 b b0 : Nat} (h : ren b = b0) (hb : b < n2) : MC ρ ren n2 (.map b0) (.map b) := fun σ σ2 v hs hv => by
  subst h
  cases hv with
  | map h => exact .map (by rw [hs b hb]; exact h)

inductive MCl (ρ : Env) (ren : Nat → Nat) (n2 : Nat) : List CV → List CV → Prop
  | nil : MCl ρ ren n2 [] []
  | cons {a b : CV} {l m : List CV} (h : MC ρ ren n2 a b) (t : MCl ρ ren n2 l m) : MCl ρ ren n2 (a :: l) (b :: m)

theorem MCl.run {ren : Nat → Nat} {n2 : Nat} {l m : List CV} (h : MCl ρ ren n2 l m) (σ σ2 : Mp) (us : List Value) (hs : ∀ b, b < n2 → σ2 b = σ (ren b)) (hv : VRl ρ σ l us) : VRl ρ σ2 m us := by
  induction h generalizing us with
  | nil => cases hv; exact .nil
  | cons h t ih => cases hv with
    | cons h1 h2 => exact .cons (h σ σ2 _ hs h1) (ih _ h2)
theorem MC.agg {ren : Nat → Nat} {n2 : Nat} {l m : List CV} (h : MCl ρ ren n2 l m) : MC ρ ren n2 (.agg l) (.agg m) := fun σ σ2 v hs hv => by
  obtain ⟨cs, rfl, h1⟩ := hv.agg_inv
  exact .agg (h.run σ σ2 _ hs h1)
theorem MC.tup {ren : Nat → Nat} {n2 : Nat} {l m : List CV} (h : MCl ρ ren n2 l m) : MC ρ ren n2 (.tup l) (.tup m) := fun σ σ2 v hs hv => by
  obtain ⟨cs, rfl, h1⟩ := hv.tup_inv
  exact .tup (h.run σ σ2 _ hs h1)
theorem MC.fn {ren : Nat → Nat} {n2 : Nat} {f : Fn} {l m l' m' : List CV} (h : MCl ρ ren n2 l m) (h' : MCl ρ ren n2 l' m') : MC ρ ren n2 (.fn f l l') (.fn f m m') := fun σ σ2 v hs hv => by
  obtain ⟨x, y, rfl, h1, h2⟩ := hv.fn_inv
  exact .fn f (h.run σ σ2 _ hs h1) (h'.run σ σ2 _ hs h2)
theorem MCl.plains {ren : Nat → Nat} {n2 : Nat} : ∀ {l : List CV}, CV.plains l = true → MCl ρ ren n2 l l
  | [], _ => .nil
  | c :: l, h => by
    simp only [CV.plains, Bool.and_eq_true] at h
    exact .cons (.plain h.1) (MCl.plains h.2)

theorem MB.lit {ren : Nat → Nat} {n2 : Nat} {l m : List CV} {e : Nat} {x : Option BX} {v : Bool} (h : MCl ρ ren n2 l m) : MB ρ ren n2 ⟨.lit l, e, v, x⟩ ⟨.lit m, e, v, none⟩ :=
  ⟨rfl, rfl, rfl, fun h => h, fun σ σ2 us hs hv => h.run σ σ2 us hs hv⟩
/-- Rows that are the same, row by row. -/
theorem MB.rows {ren : Nat → Nat} {n2 n m z z' : Nat} {row row' : Nat → List CV} {h h'} {e : Nat} {x : Option BX} {v : Bool} (hn : n = m) (hr : ∀ j, j < n → MCl ρ ren n2 (row j) (row' j)) : MB ρ ren n2 ⟨.rows n z row h, e, v, x⟩ ⟨.rows m z' row' h', e, v, none⟩ := by
  subst hn
  refine ⟨rfl, rfl, rfl, fun h => h, fun σ σ2 us hs hv => ?_⟩
  have key : ∀ k, k ≤ n → ∀ us, VRl ρ σ (flatR row k) us → VRl ρ σ2 (flatR row' k) us := by
    intro k
    induction k with
    | zero => intro _ us hv; cases hv; exact .nil
    | succ k ih =>
      intro hk us hv
      rw [flatR] at hv
      obtain ⟨x, y, rfl, h1, h2⟩ := hv.cut
      rw [flatR]
      exact (ih (by omega) x h1).append ((hr k (by omega)).run σ σ2 y hs h2)
  exact key n (Nat.le_refl _) us hv
/-- No cells as no rows. -/
theorem MB.zero {ren : Nat → Nat} {n2 z : Nat} {row' : Nat → List CV} {h'} {e : Nat} {x : Option BX} {v : Bool} : MB ρ ren n2 ⟨.lit [], e, v, x⟩ ⟨.rows 0 z row' h', e, v, none⟩ :=
  ⟨rfl, rfl, rfl, fun h => h, fun σ σ2 us hs hv => by cases hv; exact .nil⟩

/-- Points by lists. -/
theorem Mat.of {ren : Nat → Nat} {base : Nat} {T : Tr CV} {h : Tr Blk} {n n2 : Nat} {Tl : List (Nat × CV)} {hl : List (Nat × Blk)} (hbs : X.base = base) (hle : base ≤ n2) (hfix : ∀ b, b < base → ren b = b)
    (hrng : ∀ b, base ≤ b → b < n2 → base ≤ ren b ∧ ren b < n) (hinj : ∀ b b', b < n2 → b' < n2 → ren b = ren b' → b = b')
    (hT : ∀ x ∈ Tl, MC ρ ren n2 (rd T x.1) x.2) (hold : ∀ b, b < base → b ∉ X.W → (mkH hl).get b = h.get b)
    (hB : ∀ x ∈ hl, (x.1 ∈ X.W ∨ base ≤ x.1) → ∃ k0, h.get (ren x.1) = some k0 ∧ MB ρ ren n2 k0 x.2) : Mat ρ X ren ⟨T, h, n⟩ (mkP Tl hl n2) := by
  subst hbs
  refine ⟨hle, hfix, hrng, hinj, fun t => ?_, hold, fun b k hb hk => ?_⟩
  · show MC ρ ren n2 (rd T t) (rd (mkT Tl) t)
    rw [rd_mkT]
    split
    · rename_i x hx
      have h1 := List.find?_some hx
      have h2 := List.mem_of_find?_eq_some hx
      have := hT x h2
      simp only [beq_iff_eq] at h1
      rwa [h1] at this
    · exact .any
  · have hk : (mkH hl).get b = some k := hk
    rw [get_mkH] at hk
    obtain ⟨x, hx, rfl⟩ := Option.map_eq_some_iff.1 hk
    have h1 := List.find?_some hx
    have h2 := List.mem_of_find?_eq_some hx
    simp only [beq_iff_eq] at h1
    subst h1
    obtain ⟨k0, q1, q2⟩ := hB x h2 (hb.imp id (fun h => h.1))
    exact ⟨k0, q1, .inl q2⟩

theorem hp_nil : ∀ q ∈ ([] : List PC), q.holds ρ := fun q h => by cases h
theorem hp_cons {b v : Bool} {l : List PC} (h : b = v) (t : ∀ q ∈ l, q.holds ρ) : ∀ q ∈ (.b (.x b) v :: l), q.holds ρ := fun q hq => by
  rcases List.mem_cons.1 hq with rfl | hq
  · exact h
  · exact t q hq

mutual
/-- All blocks that a value names are below a number. -/
def CV.lts (n : Nat) : CV → Bool
  | .ptr (some (b, _)) | .slc (some (b, _)) _ _ | .slx b _ _ _ _ | .sla b _ _ _ | .ptx b _ _ _ | .yld b | .map b => Nat.blt b n
  | .agg l | .tup l => CV.ltsl n l
  | .slr b _ N _ => Nat.ble (b + N) n
  | .fn _ l m => CV.ltsl n l && CV.ltsl n m
  | _ => true
def CV.ltsl (n : Nat) : List CV → Bool
  | [] => true
  | c :: l => c.lts n && CV.ltsl n l
end

theorem blt_lt {b n : Nat} (h : Nat.blt b n = true) : b < n := Nat.lt_of_succ_le (Nat.le_of_ble_eq_true h)

mutual
theorem VR.lts {σ σ2 : Mp} {n : Nat} (hs : ∀ b, b < n → σ2 b = σ b) {c : CV} {v : Value} : VR ρ σ c v → c.lts n = true → VR ρ σ2 c v
  | .bool b, _ => .bool b
  | .int k e, _ => .int k e
  | .raw v, _ => .raw v
  | .ptr0, _ => .ptr0
  | .ptr h1, h => .ptr (by simp only [CV.lts] at h; rw [hs _ (blt_lt h)]; exact h1)
  | .slc0, _ => .slc0
  | .slc h1 h2 h3, h => .slc (by simp only [CV.lts] at h; rw [hs _ (blt_lt h)]; exact h1) h2 h3
  | .slx h1, h => .slx (VR.lts hs h1 (by simpa only [CV.lts] using h))
  | .sla h1 hc, h => .sla (by simp only [CV.lts] at h; rw [hs _ (blt_lt h)]; exact h1) hc
  | .sla0 a c, _ => .sla0 a c
  | .sln a c h, _ => .sln a c h
  | .slr a c h hr, hn => .slr a c h fun i h1 h2 => let ⟨l, o, q1, q2, q3⟩ := hr i h1 h2; ⟨l, o, q1, q2, by rw [hs _ (by simp only [CV.lts] at hn; have := Nat.le_of_ble_eq_true hn; omega)]; exact q3⟩
  | .ptx h1, h => .ptx (VR.lts hs h1 (by simpa only [CV.lts] using h))
  | .junk h, _ => .junk h
  | .any v, _ => .any v
  | .emp a c, _ => .emp a c
  | .fn f ha hb, h => by
    simp only [CV.lts, Bool.and_eq_true] at h
    exact .fn f (VRl.lts hs ha h.1) (VRl.lts hs hb h.2)
  | .agg hl, h => .agg (VRl.lts hs hl (by simpa only [CV.lts] using h))
  | .tup hl, h => .tup (VRl.lts hs hl (by simpa only [CV.lts] using h))
  | .yld h1, h => .yld (by simp only [CV.lts] at h; rw [hs _ (blt_lt h)]; exact h1)
  | .map h1, h => .map (by simp only [CV.lts] at h; rw [hs _ (blt_lt h)]; exact h1)
theorem VRl.lts {σ σ2 : Mp} {n : Nat} (hs : ∀ b, b < n → σ2 b = σ b) {l : List CV} {m : List Value} : VRl ρ σ l m → CV.ltsl n l = true → VRl ρ σ2 l m
  | .nil, _ => .nil
  | .cons h t, hp => by
    simp only [CV.ltsl, Bool.and_eq_true] at hp
    exact .cons (VR.lts hs h hp.1) (VRl.lts hs t hp.2)
end

theorem MC.idc {n2 : Nat} {c : CV} (h : c.lts n2 = true) : MC ρ id n2 c c := fun σ σ2 v hs hv => hv.lts hs h
theorem MCl.idl {n2 : Nat} : ∀ {l : List CV}, CV.ltsl n2 l = true → MCl ρ id n2 l l
  | [], _ => .nil
  | c :: l, h => by
    simp only [CV.ltsl, Bool.and_eq_true] at h
    exact .cons (.idc h.1) (MCl.idl h.2)
theorem MB.idl {n2 : Nat} {l : List CV} {e : Nat} {x : Option BX} {v : Bool} (h : CV.ltsl n2 l = true) : MB ρ id n2 ⟨.lit l, e, v, x⟩ ⟨.lit l, e, v, none⟩ := .lit (.idl h)
theorem MB.ida {n2 n z : Nat} {row : Nat → List CV} {h} {e : Nat} {x : Option BX} {v : Bool} (hr : ∀ j, CV.ltsl n2 (row j) = true) : MB ρ id n2 ⟨.arg n z row h, e, v, x⟩ ⟨.arg n z row h, e, v, none⟩ := by
  obtain ⟨_, _, _, _, h5⟩ := MB.rows (ρ := ρ) (ren := id) (n2 := n2) (z := z) (z' := z) (row := row) (row' := row) (h := h) (h' := h) (e := e) (x := x) (v := v) (n := n) (m := n) rfl fun j _ => MCl.idl (hr j)
  exact ⟨rfl, rfl, rfl, fun h => h, h5⟩
theorem MB.idr {n2 n z : Nat} {row : Nat → List CV} {h} {e : Nat} {x : Option BX} {v : Bool} (hr : ∀ j, CV.ltsl n2 (row j) = true) : MB ρ id n2 ⟨.rows n z row h, e, v, x⟩ ⟨.rows n z row h, e, v, none⟩ := .rows rfl fun j _ => .idl (hr j)

theorem fa_nil {α : Type} {p : α → Prop} : ∀ x ∈ ([] : List α), p x := fun x h => by cases h
theorem fa_cons {α : Type} {p : α → Prop} {a : α} {l : List α} (h : p a) (t : ∀ x ∈ l, p x) : ∀ x ∈ a :: l, p x := fun x hx => by
  rcases List.mem_cons.1 hx with rfl | hx
  · exact h
  · exact t x hx

/-- What is not wanted is forgotten; nothing is named anew. -/
theorem Mat.ofId {base : Nat} {T : Tr CV} {h : Tr Blk} {n n2 : Nat} {Tl : List (Nat × CV)} {hl : List (Nat × Blk)} (hbs : X.base = base) (hle : base ≤ n2) (hn : n2 ≤ n)
    (hT : ∀ x ∈ Tl, MC ρ id n2 (rd T x.1) x.2) (hold : ∀ b, b < base → b ∉ X.W → (mkH hl).get b = h.get b)
    (hB : ∀ x ∈ hl, (x.1 ∈ X.W ∨ base ≤ x.1) → ∃ k0, h.get x.1 = some k0 ∧ MB ρ id n2 k0 x.2) : Mat ρ X id ⟨T, h, n⟩ (mkP Tl hl n2) :=
  .of hbs hle (fun _ _ => rfl) (fun b h1 h2 => ⟨h1, Nat.lt_of_lt_of_le h2 hn⟩) (fun _ _ _ _ h => h) hT hold hB

/-- All that is new is forgotten. -/
theorem Mat.none {base : Nat} {T : Tr CV} {h h0 : Tr Blk} {n : Nat} (hbs : X.base = base) (hn : base ≤ n) (hW : X.W = []) (hold : ∀ b, b < base → h0.get b = h.get b) : Mat ρ X id ⟨T, h, n⟩ ⟨.nil, h0, base⟩ := by
  subst hbs
  refine ⟨Nat.le_refl _, fun _ _ => rfl, fun b h1 h2 => ⟨h1, Nat.lt_of_lt_of_le h2 hn⟩, fun _ _ _ _ h => h, fun t => ?_, fun b hb _ => hold b hb, fun b k hb hk => ?_⟩
  · have : rd (.nil : Tr CV) t = .any := by simp [rd, Tr.get_nil]
    rw [this]; exact .any
  · rcases hb with hb | hb
    · rw [hW] at hb; cases hb
    · have : X.base ≤ b ∧ b < X.base := hb; omega

/-! ## Numbers -/

theorem run_add {a b : Int} (h1 : -9223372036854775808 ≤ a + b) (h2 : a + b ≤ 9223372036854775807) : Ar.run .add .i64 a b = a + b := wrap_id h1 h2
theorem run_sub {a b : Int} (h1 : -9223372036854775808 ≤ a - b) (h2 : a - b ≤ 9223372036854775807) : Ar.run .sub .i64 a b = a - b := wrap_id h1 h2
theorem run_mul {a b : Int} (h1 : -9223372036854775808 ≤ a * b) (h2 : a * b ≤ 9223372036854775807) : Ar.run .mul .i64 a b = a * b := wrap_id h1 h2

end
end Go.Proofs.Ytknphpihipkdpaa.Cx
