/- AUTOMATA: a function's code as rounds between the heads of its loops: the evaluator runs from a head to the next one. -/
import Derived.Test.YtjdldcmcjaaibaaPkFShifts3

namespace Go.Proofs.Ytjdldcmcjaaibaa.Cx
set_option linter.unusedSimpArgs false
set_option linter.unusedVariables false
open Go Go.RowKit
/-! ## A loop at its head -/
def LoopW (F : Fence) (n : Nat) (P : Program) (c : Code) (Q : Exit → Act → World → Prop) (a : Act) (w : World) : Prop :=
  ∀ (b : Frame) (k : List Item) (cs : List Frame), b.roundOf = F.round → F.fn b.fn → F.room (cs.length + 1 + n) →
    ∃ e a' w', Q e a' w' ∧ ArrivesIn (Machine.fenced P F) P (lone (b.atR a (.code c :: .inLoop c :: k)) cs w) b k cs e a' w'
theorem LoopW.wpIn {F : Fence} {n : Nat} {P : Program} {Q : Exit → Act → World → Prop} {a : Act} {w : World} {c : Code} (h : LoopW F n P c Q a w) : (Code.loop c).wpIn F n P Q a w := by
  intro b k cs hro hb hr
  obtain ⟨e, a', w', hq, harr⟩ := h b k cs hro hb hr
  exact ⟨e, a', w', hq, .of_steps (.one (fenced_calm hb hr rfl) stepR_loop) harr⟩
theorem LoopW.unfold {F : Fence} {n : Nat} {P : Program} {Q : Exit → Act → World → Prop} {a : Act} {w : World} {c : Code} (h : c.wpIn F n P (Exit.then (LoopW F n P c Q) Q) a w) : LoopW F n P c Q a w := by
  intro b k cs hro hb hr
  obtain ⟨e, a₁, w₁, hq, harr⟩ := h b (.inLoop c :: k) cs hro hb hr
  cases e with
  | normal =>
    obtain ⟨e₂, a₂, w₂, hq₂, harr₂⟩ := hq b k cs hro hb hr
    exact ⟨e₂, a₂, w₂, hq₂, .of_steps (StepsIn.trans harr (.one (fenced_calm hb hr rfl) stepR_inLoop)) harr₂⟩
  | exit id => exact ⟨_, a₁, w₁, hq, .pass (x := .inLoop c) rfl (fun _ _ => .inl (by simp)) harr⟩
  | goto l => exact ⟨_, a₁, w₁, hq, .pass (x := .inLoop c) rfl (fun _ _ => .inl (by simp)) harr⟩
  | ret => exact ⟨_, a₁, w₁, hq, .pass (x := .inLoop c) rfl (fun _ _ => .inl (by simp)) harr⟩
  | panic ch => exact ⟨_, a₁, w₁, hq, .pass (x := .inLoop c) rfl (fun _ _ => .inl (by simp)) harr⟩
  | outgrown => exact ⟨_, a₁, w₁, hq, .pass (x := .inLoop c) rfl (fun _ _ => .inl (by simp)) harr⟩
/-- A loop from its head, whose body is this. -/
def SemL (P : Program) (ρ : Env) (X : Fx) (c : Code) (p : Pt) (Φ : Ex → Pt → Prop) : Prop :=
  ∀ (Q : Exit → Act → World → Prop) (a : Act) (w : World), SR ρ X p a w → (∀ e p' a' w', Φ e p' → SR ρ X p' a' w' → Q e.conv a' w') → LoopW (fc X.ro) X.n P c Q a w
/-- A round's end. -/
def InL (P : Program) (ρ : Env) (X : Fx) (c : Code) (Φ : Ex → Pt → Prop) : Ex → Pt → Prop
  | .normal, p => SemL P ρ X c p Φ
  | e, p => Φ e p
section
variable {P : Program} {C : Ctx} {ρ : Env} {X : Fx} {c d : Code} {p : Pt} {Φ Ψ : Ex → Pt → Prop}
theorem SemL.loop (h : SemL P ρ X c p Φ) : Sem P ρ X (.loop c) p Φ := fun Q a w hS hQ => (h Q a w hS hQ).wpIn
theorem SemL.unfold (h : Sem P ρ X c p (InL P ρ X c Φ)) : SemL P ρ X c p Φ := by
  intro Q a w hS hQ
  refine LoopW.unfold (h _ a w hS fun e p' a' w' h1 h2 => ?_)
  cases e with
  | normal => exact h1 Q a' w' h2 hQ
  | exit i => exact hQ _ _ _ _ h1 h2
  | ret => exact hQ _ _ _ _ h1 h2
theorem SemL.pre {p2 : Pt} (hs : ∀ a w, SR ρ X p a w → SR ρ X p2 a w) (h : SemL P ρ X c p2 Φ) : SemL P ρ X c p Φ :=
  fun Q a w hS hQ => h Q a w (hs a w hS) hQ
theorem SemL.mat {ren : Nat → Nat} {p2 : Pt} (hX : FxOk ρ X) (hm : Mat ρ X ren p p2) (h : SemL P ρ X c p2 Φ) : SemL P ρ X c p Φ := .pre (fun a w hS => hS.mat hX hm) h
/-- What is to hold where a part of a statement is left, loops among what is around it. -/
def AftL (P : Program) (ρ : Env) (X : Fx) : Code → List Nat → (Ex → Pt → Prop) → Ex → Pt → Prop
  | _, [], Φ => Φ
  | .seq a b, d :: l, Φ => match d with
    | 0 => AftL P ρ X a l (Then P ρ X b Φ)
    | _ + 1 => AftL P ρ X b l Φ
  | .cond _ a b, d :: l, Φ => match d with
    | 0 => AftL P ρ X a l Φ
    | _ + 1 => AftL P ρ X b l Φ
  | .block i b, _ :: l, Φ => AftL P ρ X b l (Inside i Φ)
  | .scope b, _ :: l, Φ => AftL P ρ X b l Φ
  | .loop b, _ :: l, Φ => AftL P ρ X b l (InL P ρ X b Φ)
  | _, _, _ => fun _ _ => False
def LoopAt (P : Program) (ρ : Env) (X : Fx) (c : Code) (Ψ : Ex → Pt → Prop) (p : Pt) : Prop :=
  match c with
  | .loop b => SemL P ρ X b p Ψ
  | .rangeFunc f ps as' bd => Sem P ρ X (.rangeFunc f ps as' bd) p Ψ
  | _ => False
/-- What is left to be shown at a loop's head. -/
def AtL (P : Program) (ρ : Env) (X : Fx) (c : Code) (π : List Nat) (Φ : Ex → Pt → Prop) (p : Pt) : Prop :=
  LoopAt P ρ X (codeAt c π) (AftL P ρ X c π Φ) p
theorem AtL.mat {ren : Nat → Nat} {p2 : Pt} {π : List Nat} (hX : FxOk ρ X) (hm : Mat ρ X ren p p2) (h : AtL P ρ X c π Φ p2) : AtL P ρ X c π Φ p := by
  unfold AtL at *
  generalize codeAt c π = d at *
  cases d <;> first | exact h.elim | skip
  · exact SemL.mat hX hm h
  · exact Sem.mat hX hm h
inductive KR where
  | at (π : List Nat)
  | fin (e : Ex)
structure KO where
  r : KR
  T : Tr CV
  s : St
  W : List Nat
def KR.down (d : Nat) : KR → KR
  | .at π => .at (d :: π)
  | r => r
def KO.down (d : Nat) (o : KO) : KO := ⟨o.r.down d, o.T, o.s, o.W⟩
/-- A block's end. -/
def KR.blk (i : Nat) : KR → KR
  | .at π => .at (0 :: π)
  | .fin (.exit j) => .fin (bif Nat.beq j i then .normal else .exit j)
  | r => r
def KO.blk (i : Nat) (o : KO) : KO := ⟨o.r.blk i, o.T, o.s, o.W⟩
/-- A round's end. -/
def KR.lp : KR → KR
  | .at π => .at (0 :: π)
  | .fin .normal => .at []
  | r => r
def KO.lp (o : KO) : KO := ⟨o.r.lp, o.T, o.s, o.W⟩
def KO.add (W : List Nat) (o : KO) : KO := ⟨o.r, o.T, o.s, W ++ o.W⟩
def firstReg : Code → Option Nat
  | .region i _ _ => some i
  | .seq a b => match firstReg a with | some i => some i | none => firstReg b
  | .cond _ a b => match firstReg a with | some i => some i | none => firstReg b
  | .block _ b | .loop b | .scope b => firstReg b
  | _ => none
/-- The evaluator runs from a statement's start up to a loop's head, or the statement's end; loops of the list are run. -/
noncomputable def startK (C : Ctx) (m base nt : Nat) (un : List Nat) : Code → Tr CV → St → Option KO
  | .seq a b, T, s =>
    match startK C m base nt un a T s with
    | some ⟨.fin .normal, T1, s1, W1⟩ => match startK C m base nt un b T1 s1 with
      | some o => some ((o.down 1).add W1)
      | none => none
    | some o => some (o.down 0)
    | none => none
  | .cond x a b, T, s =>
    match ev T x with
    | some (.bool e) => match s.decide e with
      | some (true, s1) => match startK C m base nt un a T s1 with | some o => some (o.down 0) | none => none
      | some (false, s1) => match startK C m base nt un b T s1 with | some o => some (o.down 1) | none => none
      | none => none
    | _ => none
  | .block i b, T, s => match startK C m base nt un b T s with | some o => some (o.blk i) | none => none
  | .scope b, T, s => match startK C m base nt un b T s with | some o => some (o.down 0) | none => none
  | .loop b, T, s =>
    bif (match firstReg b with | some i => un.any (Nat.beq i) | none => false) then
      match Cx.eval C m base (.code (.loop b) nt T) s with
      | some ⟨.code e T1, s1, _, W1⟩ => some ⟨.fin e, T1, s1, W1⟩
      | _ => none
    else some ⟨.at [], T, s, []⟩
  | .rangeFunc f ps as' bd, T, s =>
    bif (match firstReg (.seq as' bd) with | some i => un.any (Nat.beq (i + 1000000)) | none => false) then some ⟨.at [], T, s, []⟩
    else match Cx.eval C m base (.code (.rangeFunc f ps as' bd) nt T) s with
      | some ⟨.code e T1, s1, _, W1⟩ => some ⟨.fin e, T1, s1, W1⟩
      | _ => none
  | c, T, s => match Cx.eval C m base (.code c nt T) s with
    | some ⟨.code e T1, s1, _, W1⟩ => some ⟨.fin e, T1, s1, W1⟩
    | _ => none
/-- The evaluator runs on from where a part of a statement was left. -/
noncomputable def resumeK (C : Ctx) (m base nt : Nat) (un : List Nat) : Code → List Nat → Ex → Tr CV → St → Option KO
  | _, [], e, T, s => some ⟨.fin e, T, s, []⟩
  | .seq a b, d :: l, e, T, s => match d with
    | 0 => match resumeK C m base nt un a l e T s with
      | some ⟨.fin .normal, T1, s1, W1⟩ => match startK C m base nt un b T1 s1 with
        | some o => some ((o.down 1).add W1)
        | none => none
      | some o => some (o.down 0)
      | none => none
    | _ + 1 => match resumeK C m base nt un b l e T s with | some o => some (o.down 1) | none => none
  | .cond _ a b, d :: l, e, T, s => match d with
    | 0 => match resumeK C m base nt un a l e T s with | some o => some (o.down 0) | none => none
    | _ + 1 => match resumeK C m base nt un b l e T s with | some o => some (o.down 1) | none => none
  | .block i b, _ :: l, e, T, s => match resumeK C m base nt un b l e T s with | some o => some (o.blk i) | none => none
  | .scope b, _ :: l, e, T, s => match resumeK C m base nt un b l e T s with | some o => some (o.down 0) | none => none
  | .loop b, _ :: l, e, T, s => match resumeK C m base nt un b l e T s with | some o => some o.lp | none => none
  | _, _, _, _, _ => none
def Obl (P : Program) (ρ : Env) (X : Fx) (c : Code) (Φ : Ex → Pt → Prop) : KR → Pt → Prop
  | .at π, p => AtL P ρ X c π Φ p
  | .fin e, p => Φ e p
/-- What a run from a statement's start is. -/
structure KS (P : Program) (ρ : Env) (base nt : Nat) (s s1 : St) (W : List Nat) (obl goal : Fx → (Ex → Pt → Prop) → Prop) : Prop where
  next : s.next ≤ s1.next
  pc : ∃ l, s1.pc = l ++ s.pc
  old : ∀ b, b < base → b ∉ W → s1.heap.get b = s.heap.get b
  run : ∀ (X : Fx) (Φ : Ex → Pt → Prop), FxOk ρ X → X.base = base → X.nt = nt → (∀ q ∈ s1.pc, q.holds ρ) → (∀ b ∈ W, b ∈ X.W) → obl X Φ → goal X Φ
end
section
variable {P : Program} {C : Ctx} {ρ : Env} {m base nt : Nat} {un : List Nat}
theorem KR.down_fin {d : Nat} {r : KR} {e : Ex} (h : r.down d = .fin e) : r = .fin e := by cases r <;> simp_all [KR.down]
theorem obl_down0 {X : Fx} {Φ Ψ : Ex → Pt → Prop} {c a : Code} {d : Nat} {r : KR} {p : Pt} (hf : ∀ e, Φ e p → r = .fin e → Ψ e p) (ha : ∀ π, r = .at π → AtL P ρ X c (d :: π) Φ p → AtL P ρ X a π Ψ p) (h : Obl P ρ X c Φ (r.down d) p) : Obl P ρ X a Ψ r p := by
  cases r with
  | «at» π => exact ha π rfl h
  | fin e => exact hf e h rfl
theorem eval_start (hC : CtxOk3 P C) (hM : MemoOk P C ρ) {c : Code} {T T1 : Tr CV} {s s1 : St} {e : Ex} {R W : List Nat} (hr : regsOk c = true) (hle : base ≤ s.next) (he : Cx.eval C m base (.code c nt T) s = some ⟨.code e T1, s1, R, W⟩) :
    KS P ρ base nt s s1 W (fun X Φ => Φ e ⟨T1, s1.heap, s1.next⟩) (fun X Φ => Sem P ρ X c ⟨T, s.heap, s.next⟩ Φ) := by
  have k := (eval_ok (ρ := ρ) hC hM m).code _ _ _ _ _ _ _ _ _ _ he hle
  refine ⟨k.frm.next, k.frm.pc, fun b hb hW => k.frm.get b hW (fun h => by omega), fun X Φ hX hb hnt hp hW h => ?_⟩
  subst hb hnt
  exact Sem.evalS (p := ⟨T, s.heap, s.next⟩) hC hM hX hr rfl rfl he hp hW h
theorem startK_ok (hC : CtxOk3 P C) (hM : MemoOk P C ρ) : ∀ (c : Code) (T : Tr CV) (s : St) (o : KO), regsOk c = true → base ≤ s.next → startK C m base nt un c T s = some o →
    KS P ρ base nt s o.s o.W (fun X Φ => Obl P ρ X c Φ o.r ⟨o.T, o.s.heap, o.s.next⟩) (fun X Φ => Sem P ρ X c ⟨T, s.heap, s.next⟩ Φ)
  | .seq a b, T, s, o, hr, hle, h => by
    have hra := (regs_seq hr).1
    have hrb := (regs_seq hr).2
    simp only [startK] at h
    split at h
    · rename_i T1 s1 W1 ha
      have k1 := startK_ok hC hM a T s _ hra hle ha
      split at h
      · rename_i o2 hb
        cases h
        have k2 := startK_ok hC hM b T1 s1 o2 hrb (Nat.le_trans hle k1.next) hb
        obtain ⟨l1, p1⟩ := k1.pc
        obtain ⟨l2, p2⟩ := k2.pc
        refine ⟨Nat.le_trans k1.next k2.next, ⟨l2 ++ l1, by show o2.s.pc = _; rw [p2, p1, List.append_assoc]⟩, fun b hb hW => (k2.old b hb (fun h => hW (List.mem_append_right _ h))).trans (k1.old b hb (fun h => hW (List.mem_append_left _ h))), fun X Φ hX hbs hnt hp hW h => ?_⟩
        have hp : ∀ q ∈ o2.s.pc, q.holds ρ := hp
        have hW : ∀ b ∈ W1 ++ o2.W, b ∈ X.W := hW
        refine .seq (k1.run X (Then P ρ X b Φ) hX hbs hnt (fun q hq => hp q (by rw [p2]; exact List.mem_append_right _ hq)) (fun b hb => hW b (List.mem_append_left _ hb)) ?_)
        show Sem P ρ X b ⟨T1, s1.heap, s1.next⟩ Φ
        refine k2.run X Φ hX hbs hnt hp (fun b hb => hW b (List.mem_append_right _ hb)) ?_
        exact obl_down0 (d := 1) (fun e h _ => h) (fun π _ h => h) h
      · cases h
    · rename_i o1 hne ha
      cases h
      have k1 := startK_ok hC hM a T s o1 hra hle ha
      refine ⟨k1.next, k1.pc, k1.old, fun X Φ hX hbs hnt hp hW h => .seq (k1.run X (Then P ρ X b Φ) hX hbs hnt hp hW ?_)⟩
      refine obl_down0 (d := 0) (fun e h he => ?_) (fun π _ h => h) h
      cases e with
      | normal =>
        obtain ⟨r, T1, s1, W1⟩ := o1
        exact (hne T1 s1 W1 (by have he : r = .fin .normal := he; rw [he])).elim
      | exit i => exact h
      | ret => exact h
    · cases h
  | .cond x a b, T, s, o, hr, hle, h => by
    simp only [startK] at h
    split at h
    · rename_i ex hx
      split at h
      · rename_i s2 hd
        obtain ⟨d1, d2, ⟨ld, d3⟩, d4⟩ := decide_parts (ρ := ρ) hd
        split at h
        · rename_i o1 ha
          cases h
          have k1 := startK_ok hC hM a T s2 o1 (regs_cond hr).1 (by rw [d1]; exact hle) ha
          obtain ⟨l1, p1⟩ := k1.pc
          refine ⟨by rw [← d1]; exact k1.next, ⟨l1 ++ ld, by show o1.s.pc = _; rw [p1, d3, List.append_assoc]⟩, fun b hb hW => (k1.old b hb hW).trans (by rw [d2]), fun X Φ hX hbs hnt hp hW h => ?_⟩
          have hp : ∀ q ∈ o1.s.pc, q.holds ρ := hp
          refine .cond hx (v := true) (d4 (fun q hq => hp q (by rw [p1]; exact List.mem_append_right _ hq))) ?_
          rw [if_pos rfl, ← d1, ← d2]
          exact k1.run X Φ hX hbs hnt hp hW (obl_down0 (d := 0) (fun e h _ => h) (fun π _ h => h) h)
        · cases h
      · rename_i s2 hd
        obtain ⟨d1, d2, ⟨ld, d3⟩, d4⟩ := decide_parts (ρ := ρ) hd
        split at h
        · rename_i o1 ha
          cases h
          have k1 := startK_ok hC hM b T s2 o1 (regs_cond hr).2 (by rw [d1]; exact hle) ha
          obtain ⟨l1, p1⟩ := k1.pc
          refine ⟨by rw [← d1]; exact k1.next, ⟨l1 ++ ld, by show o1.s.pc = _; rw [p1, d3, List.append_assoc]⟩, fun b hb hW => (k1.old b hb hW).trans (by rw [d2]), fun X Φ hX hbs hnt hp hW h => ?_⟩
          have hp : ∀ q ∈ o1.s.pc, q.holds ρ := hp
          refine .cond hx (v := false) (d4 (fun q hq => hp q (by rw [p1]; exact List.mem_append_right _ hq))) ?_
          rw [if_neg (by simp), ← d1, ← d2]
          exact k1.run X Φ hX hbs hnt hp hW (obl_down0 (d := 1) (fun e h _ => h) (fun π _ h => h) h)
        · cases h
      · cases h
    · cases h
  | .block i b, T, s, o, hr, hle, h => by
    simp only [startK] at h
    split at h
    · rename_i o1 ha
      cases h
      have k1 := startK_ok hC hM b T s o1 hr hle ha
      refine ⟨k1.next, k1.pc, k1.old, fun X Φ hX hbs hnt hp hW h => .block (k1.run X (Inside i Φ) hX hbs hnt hp hW ?_)⟩
      obtain ⟨r, T1, s1, W1⟩ := o1
      cases r with
      | «at» π => exact h
      | fin e =>
        cases e with
        | normal => exact h
        | ret => exact h
        | exit j =>
          show bif Nat.beq j i then Φ .normal _ else Φ (.exit j) _
          have h : Φ (bif Nat.beq j i then .normal else .exit j) ⟨T1, s1.heap, s1.next⟩ := h
          cases hj : Nat.beq j i with
          | true => rw [hj] at h; exact h
          | false => rw [hj] at h; exact h
    · cases h
  | .scope b, T, s, o, hr, hle, h => by
    simp only [startK] at h
    split at h
    · rename_i o1 ha
      cases h
      have k1 := startK_ok hC hM b T s o1 hr hle ha
      refine ⟨k1.next, k1.pc, k1.old, fun X Φ hX hbs hnt hp hW h => .scope (k1.run X Φ hX hbs hnt hp hW ?_)⟩
      exact obl_down0 (d := 0) (fun e h _ => h) (fun π _ h => h) h
    · cases h
  | .loop b, T, s, o, hr, hle, h => by
    simp only [startK] at h
    cases hu : (match firstReg b with | some i => un.any (Nat.beq i) | none => false) with
    | true =>
      rw [hu, cond_true] at h
      split at h
      · rename_i e T1 s1 R W1 he
        cases h
        exact eval_start hC hM hr hle he
      · cases h
    | false =>
      rw [hu, cond_false] at h
      cases h
      exact ⟨Nat.le_refl _, ⟨[], rfl⟩, fun _ _ _ => rfl, fun X Φ hX hbs hnt hp hW h => SemL.loop h⟩
  | .skip, T, s, o, hr, hle, h => by
    simp only [startK] at h
    split at h
    · rename_i e T1 s1 R W1 he
      cases h
      exact eval_start hC hM hr hle he
    · cases h
  | .region i ops dr, T, s, o, hr, hle, h => by
    simp only [startK] at h
    split at h
    · rename_i e T1 s1 R W1 he
      cases h
      exact eval_start hC hM hr hle he
    · cases h
  | .rangeFunc f ps as' bd, T, s, o, hr, hle, h => by
    simp only [startK] at h
    cases hu : (match firstReg (.seq as' bd) with | some i => un.any (Nat.beq (i + 1000000)) | none => false) with
    | true =>
      rw [hu, cond_true] at h
      cases h
      exact ⟨Nat.le_refl _, ⟨[], rfl⟩, fun _ _ _ => rfl, fun X Φ hX hbs hnt hp hW h => h⟩
    | false =>
      rw [hu, cond_false] at h
      split at h
      · rename_i e T1 s1 R W1 he
        cases h
        exact eval_start hC hM hr hle he
      · cases h
  | .exit i, T, s, o, hr, hle, h => by
    simp only [startK] at h
    split at h
    · rename_i e T1 s1 R W1 he
      cases h
      exact eval_start hC hM hr hle he
    · cases h
  | .label i, T, s, o, hr, hle, h => by
    simp only [startK] at h
    split at h
    · rename_i e T1 s1 R W1 he
      cases h
      exact eval_start hC hM hr hle he
    · cases h
  | .goto i, T, s, o, hr, hle, h => by
    simp only [startK] at h
    split at h
    · rename_i e T1 s1 R W1 he
      cases h
      exact eval_start hC hM hr hle he
    · cases h
  | .ret, T, s, o, hr, hle, h => by
    simp only [startK] at h
    split at h
    · rename_i e T1 s1 R W1 he
      cases h
      exact eval_start hC hM hr hle he
    · cases h
  | .refuse i, T, s, o, hr, hle, h => by
    simp only [startK] at h
    split at h
    · rename_i e T1 s1 R W1 he
      cases h
      exact eval_start hC hM hr hle he
    · cases h
theorem resumeK_ok (hC : CtxOk3 P C) (hM : MemoOk P C ρ) : ∀ (π : List Nat) (c : Code) (e : Ex) (T : Tr CV) (s : St) (o : KO), regsOk c = true → base ≤ s.next → resumeK C m base nt un c π e T s = some o →
    KS P ρ base nt s o.s o.W (fun X Φ => Obl P ρ X c Φ o.r ⟨o.T, o.s.heap, o.s.next⟩) (fun X Φ => AftL P ρ X c π Φ e ⟨T, s.heap, s.next⟩)
  | [], c, e, T, s, o, hr, hle, h => by
    simp only [resumeK] at h
    cases h
    refine ⟨Nat.le_refl _, ⟨[], rfl⟩, fun _ _ _ => rfl, fun X Φ hX hbs hnt hp hW h => ?_⟩
    simp only [AftL]
    exact h
  | d :: l, .seq a b, e, T, s, o, hr, hle, h => by
    have hra := (regs_seq hr).1
    have hrb := (regs_seq hr).2
    cases d with
    | zero =>
      simp only [resumeK] at h
      split at h
      · rename_i T1 s1 W1 ha
        have k1 := resumeK_ok hC hM l a e T s _ hra hle ha
        split at h
        · rename_i o2 hb
          cases h
          have k2 := startK_ok hC hM b T1 s1 o2 hrb (Nat.le_trans hle k1.next) hb
          obtain ⟨l1, p1⟩ := k1.pc
          obtain ⟨l2, p2⟩ := k2.pc
          refine ⟨Nat.le_trans k1.next k2.next, ⟨l2 ++ l1, by show o2.s.pc = _; rw [p2, p1, List.append_assoc]⟩, fun b hb hW => (k2.old b hb (fun h => hW (List.mem_append_right _ h))).trans (k1.old b hb (fun h => hW (List.mem_append_left _ h))), fun X Φ hX hbs hnt hp hW h => ?_⟩
          have hp : ∀ q ∈ o2.s.pc, q.holds ρ := hp
          have hW : ∀ b ∈ W1 ++ o2.W, b ∈ X.W := hW
          refine k1.run X (Then P ρ X b Φ) hX hbs hnt (fun q hq => hp q (by rw [p2]; exact List.mem_append_right _ hq)) (fun b hb => hW b (List.mem_append_left _ hb)) ?_
          show Sem P ρ X b ⟨T1, s1.heap, s1.next⟩ Φ
          refine k2.run X Φ hX hbs hnt hp (fun b hb => hW b (List.mem_append_right _ hb)) ?_
          exact obl_down0 (d := 1) (fun e h _ => h) (fun π _ h => h) h
        · cases h
      · rename_i o1 hne ha
        cases h
        have k1 := resumeK_ok hC hM l a e T s o1 hra hle ha
        refine ⟨k1.next, k1.pc, k1.old, fun X Φ hX hbs hnt hp hW h => k1.run X (Then P ρ X b Φ) hX hbs hnt hp hW ?_⟩
        refine obl_down0 (d := 0) (fun e h he => ?_) (fun π _ h => h) h
        cases e with
        | normal =>
          obtain ⟨r, T1, s1, W1⟩ := o1
          exact (hne T1 s1 W1 (by have he : r = .fin .normal := he; rw [he])).elim
        | exit i => exact h
        | ret => exact h
      · cases h
    | succ d =>
      simp only [resumeK] at h
      split at h
      · rename_i o1 ha
        cases h
        have k1 := resumeK_ok hC hM l b e T s o1 hrb hle ha
        exact ⟨k1.next, k1.pc, k1.old, fun X Φ hX hbs hnt hp hW h => k1.run X Φ hX hbs hnt hp hW (obl_down0 (d := 1) (fun e h _ => h) (fun π _ h => h) h)⟩
      · cases h
  | d :: l, .cond x a b, e, T, s, o, hr, hle, h => by
    cases d with
    | zero =>
      simp only [resumeK] at h
      split at h
      · rename_i o1 ha
        cases h
        have k1 := resumeK_ok hC hM l a e T s o1 (regs_cond hr).1 hle ha
        exact ⟨k1.next, k1.pc, k1.old, fun X Φ hX hbs hnt hp hW h => k1.run X Φ hX hbs hnt hp hW (obl_down0 (d := 0) (fun e h _ => h) (fun π _ h => h) h)⟩
      · cases h
    | succ d =>
      simp only [resumeK] at h
      split at h
      · rename_i o1 ha
        cases h
        have k1 := resumeK_ok hC hM l b e T s o1 (regs_cond hr).2 hle ha
        exact ⟨k1.next, k1.pc, k1.old, fun X Φ hX hbs hnt hp hW h => k1.run X Φ hX hbs hnt hp hW (obl_down0 (d := 1) (fun e h _ => h) (fun π _ h => h) h)⟩
      · cases h
  | d :: l, .block i b, e, T, s, o, hr, hle, h => by
    simp only [resumeK] at h
    split at h
    · rename_i o1 ha
      cases h
      have k1 := resumeK_ok hC hM l b e T s o1 hr hle ha
      refine ⟨k1.next, k1.pc, k1.old, fun X Φ hX hbs hnt hp hW h => k1.run X (Inside i Φ) hX hbs hnt hp hW ?_⟩
      obtain ⟨r, T1, s1, W1⟩ := o1
      cases r with
      | «at» π => exact h
      | fin e =>
        cases e with
        | normal => exact h
        | ret => exact h
        | exit j =>
          show bif Nat.beq j i then Φ .normal _ else Φ (.exit j) _
          have h : Φ (bif Nat.beq j i then .normal else .exit j) ⟨T1, s1.heap, s1.next⟩ := h
          cases hj : Nat.beq j i with
          | true => rw [hj] at h; exact h
          | false => rw [hj] at h; exact h
    · cases h
  | d :: l, .scope b, e, T, s, o, hr, hle, h => by
    simp only [resumeK] at h
    split at h
    · rename_i o1 ha
      cases h
      have k1 := resumeK_ok hC hM l b e T s o1 hr hle ha
      exact ⟨k1.next, k1.pc, k1.old, fun X Φ hX hbs hnt hp hW h => k1.run X Φ hX hbs hnt hp hW (obl_down0 (d := 0) (fun e h _ => h) (fun π _ h => h) h)⟩
    · cases h
  | d :: l, .loop b, e, T, s, o, hr, hle, h => by
    simp only [resumeK] at h
    split at h
    · rename_i o1 ha
      cases h
      have k1 := resumeK_ok hC hM l b e T s o1 hr hle ha
      refine ⟨k1.next, k1.pc, k1.old, fun X Φ hX hbs hnt hp hW h => k1.run X (InL P ρ X b Φ) hX hbs hnt hp hW ?_⟩
      obtain ⟨r, T1, s1, W1⟩ := o1
      cases r with
      | «at» π => exact h
      | fin e =>
        cases e with
        | normal => exact h
        | exit j => exact h
        | ret => exact h
    · cases h
  | _ :: _, .skip, _, _, _, _, _, _, h => by simp [resumeK] at h
  | _ :: _, .region .., _, _, _, _, _, _, h => by simp [resumeK] at h
  | _ :: _, .rangeFunc .., _, _, _, _, _, _, h => by simp [resumeK] at h
  | _ :: _, .exit _, _, _, _, _, _, _, h => by simp [resumeK] at h
  | _ :: _, .label _, _, _, _, _, _, _, h => by simp [resumeK] at h
  | _ :: _, .goto _, _, _, _, _, _, _, h => by simp [resumeK] at h
  | _ :: _, .ret, _, _, _, _, _, _, h => by simp [resumeK] at h
  | _ :: _, .refuse _, _, _, _, _, _, _, h => by simp [resumeK] at h
end
end Go.Proofs.Ytjdldcmcjaaibaa.Cx

/- AUTOMATA, read off as functions: trees of tests between the heads of a function's loops; what they yield is what the function does. -/
namespace Go.Proofs.Ytjdldcmcjaaibaa.Cx
set_option linter.unusedSimpArgs false
set_option linter.unusedVariables false
open Go Go.RowKit
/-! ## From one head to the next -/
def pathOk : Code → List Nat → Bool
  | _, [] => true
  | .seq a b, d :: l => match d with | 0 => pathOk a l | _ + 1 => pathOk b l
  | .cond _ a b, d :: l => match d with | 0 => pathOk a l | _ + 1 => pathOk b l
  | .block _ b, _ :: l => pathOk b l
  | .scope b, _ :: l => pathOk b l
  | .loop b, _ :: l => pathOk b l
  | _, _ => false
noncomputable def edgeK (C : Ctx) (m base nt : Nat) (un : List Nat) (c : Code) (π : List Nat) (T : Tr CV) (s : St) : Option KO :=
  bif pathOk c π then
    match codeAt c π with
    | .loop b => match startK C m base nt un b T s with
      | some ⟨.at π', T1, s1, W1⟩ => some ⟨.at (π ++ 0 :: π'), T1, s1, W1⟩
      | some ⟨.fin .normal, T1, s1, W1⟩ => some ⟨.at π, T1, s1, W1⟩
      | some ⟨.fin e, T1, s1, W1⟩ => match resumeK C m base nt un c π e T1 s1 with | some o => some (o.add W1) | none => none
      | none => none
    | _ => none
  else none
section
variable {P : Program} {C : Ctx} {ρ : Env} {m base nt : Nat} {un : List Nat}
theorem at_append {X : Fx} : ∀ (π : List Nat) (c : Code) (l : List Nat) (Φ : Ex → Pt → Prop), pathOk c π = true → codeAt c (π ++ l) = codeAt (codeAt c π) l ∧ AftL P ρ X c (π ++ l) Φ = AftL P ρ X (codeAt c π) l (AftL P ρ X c π Φ)
  | [], c, l, Φ, _ => by simp [codeAt, AftL]
  | d :: π, c, l, Φ, h => by
    cases c with
    | seq a b =>
      cases d with
      | zero => exact at_append π a l _ h
      | succ d => exact at_append π b l _ h
    | cond x a b =>
      cases d with
      | zero => exact at_append π a l _ h
      | succ d => exact at_append π b l _ h
    | block i b => cases d <;> exact at_append π b l _ h
    | scope b => cases d <;> exact at_append π b l _ h
    | loop b => cases d <;> exact at_append π b l _ h
    | _ => simp [pathOk] at h
theorem edgeK_ok (hC : CtxOk3 P C) (hM : MemoOk P C ρ) {c : Code} {π : List Nat} {T : Tr CV} {s : St} {o : KO} (hr : regsOk c = true) (hle : base ≤ s.next) (h : edgeK C m base nt un c π T s = some o) :
    KS P ρ base nt s o.s o.W (fun X Φ => Obl P ρ X c Φ o.r ⟨o.T, o.s.heap, o.s.next⟩) (fun X Φ => AtL P ρ X c π Φ ⟨T, s.heap, s.next⟩) := by
  unfold edgeK at h
  cases hpo : pathOk c π with
  | false => rw [hpo] at h; cases h
  | true =>
    rw [hpo, cond_true] at h
    have hrp := regs_at π hr
    split at h
    · rename_i b hcb
      have hrb : regsOk b = true := by rw [hcb] at hrp; exact hrp
      have goal : ∀ {X : Fx} {Φ : Ex → Pt → Prop} {p : Pt}, Sem P ρ X b p (InL P ρ X b (AftL P ρ X c π Φ)) → AtL P ρ X c π Φ p := fun {X Φ p} h => by
        unfold AtL
        rw [hcb]
        exact SemL.unfold h
      have back : ∀ {X : Fx} {Φ : Ex → Pt → Prop} {p : Pt} {π' : List Nat}, AtL P ρ X c (π ++ 0 :: π') Φ p → AtL P ρ X b π' (InL P ρ X b (AftL P ρ X c π Φ)) p := fun {X Φ p π'} h => by
        unfold AtL at *
        obtain ⟨e1, e2⟩ := at_append (P := P) (ρ := ρ) (X := X) π c (0 :: π') Φ hpo
        rw [e1, e2, hcb] at h
        exact h
      split at h
      · rename_i π' T1 s1 W1 hs
        cases h
        have k := startK_ok hC hM b T s _ hrb hle hs
        exact ⟨k.next, k.pc, k.old, fun X Φ hX hbs hnt hp hW h => goal (k.run X _ hX hbs hnt hp hW (back h))⟩
      · rename_i T1 s1 W1 hs
        cases h
        have k := startK_ok hC hM b T s _ hrb hle hs
        refine ⟨k.next, k.pc, k.old, fun X Φ hX hbs hnt hp hW h => goal (k.run X _ hX hbs hnt hp hW ?_)⟩
        show SemL P ρ X b _ _
        have h : AtL P ρ X c π Φ _ := h
        unfold AtL at h
        rw [hcb] at h
        exact h
      · rename_i e T1 s1 W1 hne hs
        split at h
        · rename_i o2 h2
          cases h
          have k := startK_ok hC hM b T s _ hrb hle hs
          have k2 := resumeK_ok hC hM π c e T1 s1 o2 hr (Nat.le_trans hle k.next) h2
          obtain ⟨l1, p1⟩ := k.pc
          obtain ⟨l2, p2⟩ := k2.pc
          refine ⟨Nat.le_trans k.next k2.next, ⟨l2 ++ l1, by show o2.s.pc = _; rw [p2, p1, List.append_assoc]⟩, fun b hb hW => (k2.old b hb (fun h => hW (List.mem_append_right _ h))).trans (k.old b hb (fun h => hW (List.mem_append_left _ h))), fun X Φ hX hbs hnt hp hW h => ?_⟩
          have hp : ∀ q ∈ o2.s.pc, q.holds ρ := hp
          have hW : ∀ b ∈ W1 ++ o2.W, b ∈ X.W := hW
          refine goal (k.run X _ hX hbs hnt (fun q hq => hp q (by rw [p2]; exact List.mem_append_right _ hq)) (fun b hb => hW b (List.mem_append_left _ hb)) ?_)
          have k3 := k2.run X Φ hX hbs hnt hp (fun b hb => hW b (List.mem_append_right _ hb)) h
          cases e with
          | normal => exact (hne rfl).elim
          | exit i => exact k3
          | ret => exact k3
        · cases h
      · cases h
    · cases h
end
/-! ## Names -/
mutual
/-- A value whose blocks have other names. -/
def CV.ren (f : Nat → Nat) : CV → CV
  | .ptr (some (b, o)) => .ptr (some (f b, o))
  | .slc (some (b, o)) n c => .slc (some (f b, o)) n c
  | .slx b z o n c => .slx (f b) z o n c
  | .sla b z o n => .sla (f b) z o n
  | .ptx b z j g => .ptx (f b) z j g
  | .fn g l m => .fn g (CV.renl f l) (CV.renl f m)
  | .agg l => .agg (CV.renl f l)
  | .tup l => .tup (CV.renl f l)
  | .map b => .map (f b)
  | .yld b => .yld (f b)
  | c => c
def CV.renl (f : Nat → Nat) : List CV → List CV
  | [] => []
  | c :: l => c.ren f :: CV.renl f l
end
mutual
/-- All blocks that a value names are below a number, and it can be named anew. -/
def CV.rnb (n : Nat) : CV → Bool
  | .ptr (some (b, _)) | .slc (some (b, _)) _ _ | .slx b _ _ _ _ | .sla b _ _ _ | .ptx b _ _ _ | .map b | .yld b => Nat.blt b n
  | .agg l | .tup l => CV.rnbl n l
  | .slr _ _ _ _ => false
  | .fn _ l m => CV.rnbl n l && CV.rnbl n m
  | _ => true
def CV.rnbl (n : Nat) : List CV → Bool
  | [] => true
  | c :: l => c.rnb n && CV.rnbl n l
end
section
variable {ρ : Env} {f : Nat → Nat} {n : Nat}
mutual
theorem MC.ren : ∀ {c : CV}, c.rnb n = true → MC ρ f n (c.ren f) c
  | .bool _, _ => .plain rfl
  | .int _ _, _ => .plain rfl
  | .raw _, _ => .plain rfl
  | .ptr none, _ => .plain rfl
  | .ptr (some (b, o)), h => .ptr rfl (blt_lt h)
  | .slc none _ _, _ => .plain rfl
  | .slc (some (b, o)) _ _, h => .slc rfl (blt_lt h)
  | .slx .., h => .slx rfl (blt_lt h)
  | .sla .., h => .sla rfl (blt_lt h)
  | .sln _, _ => fun _ _ _ _ hv => by cases hv with | sln a c h => exact .sln a c h
  | .slr .., h => by simp [CV.rnb] at h
  | .ptx b z j g, h => fun σ σ2 v hs hv => .ptx (MC.ptr rfl (blt_lt h) σ σ2 v hs hv.ptx_inv)
  | .junk, _ => .plain rfl
  | .any, _ => .plain rfl
  | .emp, _ => .plain rfl
  | .fn g l m, h => by
    simp only [CV.rnb, Bool.and_eq_true] at h
    exact .fn (MCl.ren h.1) (MCl.ren h.2)
  | .agg l, h => .agg (MCl.ren h)
  | .tup l, h => .tup (MCl.ren h)
  | .yld b, h => fun σ σ2 v hs hv => by
    cases hv with
    | yld h1 => exact .yld ((hs b (blt_lt h)).trans h1)
  | .map _, h => .map rfl (blt_lt h)
theorem MCl.ren : ∀ {l : List CV}, CV.rnbl n l = true → MCl ρ f n (CV.renl f l) l
  | [], _ => .nil
  | c :: l, h => by
    simp only [CV.rnbl, Bool.and_eq_true] at h
    exact .cons (MC.ren h.1) (MCl.ren h.2)
end
theorem CV.renl_length : ∀ (l : List CV), (CV.renl f l).length = l.length
  | [] => rfl
  | _ :: l => congrArg Nat.succ (CV.renl_length l)
theorem CV.ren_flat (c : CV) : (c.ren f).flat = c.flat := by
  cases c with
  | ptr a => cases a <;> rfl
  | slc a n c => cases a <;> rfl
  | _ => rfl
theorem CV.renl_flat : ∀ (l : List CV), (CV.renl f l).all CV.flat = l.all CV.flat
  | [] => rfl
  | c :: l => by simp only [CV.renl, List.all_cons, CV.ren_flat, CV.renl_flat l]
theorem CV.renl_ok {z : Nat} {l : List CV} (h : l.length = z ∧ l.all CV.flat = true) : (CV.renl f l).length = z ∧ (CV.renl f l).all CV.flat = true :=
  ⟨(CV.renl_length l).trans h.1, (CV.renl_flat l).trans h.2⟩
end
mutual
/-- Numbers and tests that stand as they are in Lean. -/
def CV.nrm : CV → CV
  | .int k (.c n) => .int k (.x n)
  | .bool (.c b) => .bool (.x b)
  | .fn g l m => .fn g (CV.nrml l) (CV.nrml m)
  | .agg l => .agg (CV.nrml l)
  | .tup l => .tup (CV.nrml l)
  | c => c
def CV.nrml : List CV → List CV
  | [] => []
  | c :: l => c.nrm :: CV.nrml l
end
section
variable {ρ : Env}
theorem VR.int_x {σ : Mp} {k : IntKind} {n : Int} {v : Value} : VR ρ σ (.int k (.c n)) v ↔ VR ρ σ (.int k (.x n)) v := ⟨fun h => by cases h; exact .int k (.x n), fun h => by cases h; exact .int k (.c n)⟩
theorem VR.bool_x {σ : Mp} {n : Bool} {v : Value} : VR ρ σ (.bool (.c n)) v ↔ VR ρ σ (.bool (.x n)) v := ⟨fun h => by cases h; exact .bool (.x n), fun h => by cases h; exact .bool (.c n)⟩
mutual
theorem VR.nrm {σ : Mp} : ∀ (c : CV) {v : Value}, VR ρ σ c v ↔ VR ρ σ c.nrm v
  | .int k e, v => by cases e <;> first | exact VR.int_x | exact Iff.rfl
  | .bool e, v => by cases e <;> first | exact VR.bool_x | exact Iff.rfl
  | .fn g l m, v => ⟨fun h => by
      obtain ⟨x, y, rfl, h1, h2⟩ := h.fn_inv
      exact .fn g ((VRl.nrm l).1 h1) ((VRl.nrm m).1 h2), fun h => by
      obtain ⟨x, y, rfl, h1, h2⟩ := VR.fn_inv (show VR ρ σ (.fn g (CV.nrml l) (CV.nrml m)) v from h)
      exact .fn g ((VRl.nrm l).2 h1) ((VRl.nrm m).2 h2)⟩
  | .agg l, v => ⟨fun h => by
      obtain ⟨cs, rfl, h1⟩ := h.agg_inv
      exact .agg ((VRl.nrm l).1 h1), fun h => by
      obtain ⟨cs, rfl, h1⟩ := VR.agg_inv (show VR ρ σ (.agg (CV.nrml l)) v from h)
      exact .agg ((VRl.nrm l).2 h1)⟩
  | .tup l, v => ⟨fun h => by
      obtain ⟨cs, rfl, h1⟩ := h.tup_inv
      exact .tup ((VRl.nrm l).1 h1), fun h => by
      obtain ⟨cs, rfl, h1⟩ := VR.tup_inv (show VR ρ σ (.tup (CV.nrml l)) v from h)
      exact .tup ((VRl.nrm l).2 h1)⟩
  | .raw _, v | .ptr _, v | .slc .., v | .slx .., v | .sla .., v | .sln _, v | .slr .., v | .ptx .., v | .junk, v | .any, v | .emp, v | .yld _, v | .map _, v => Iff.rfl
theorem VRl.nrm {σ : Mp} : ∀ (l : List CV) {vs : List Value}, VRl ρ σ l vs ↔ VRl ρ σ (CV.nrml l) vs
  | [], vs => Iff.rfl
  | c :: l, vs => ⟨fun h => by
      cases h with
      | cons h t => exact .cons ((VR.nrm c).1 h) ((VRl.nrm l).1 t), fun h => by
      have hh : VRl ρ σ (c.nrm :: CV.nrml l) vs := h
      cases hh with
      | cons h1 t1 => exact .cons ((VR.nrm c).2 h1) ((VRl.nrm l).2 t1)⟩
end
theorem MC.nrm {ren : Nat → Nat} {n2 : Nat} {a b c : CV} (h : MC ρ ren n2 b c) (e : a.nrm = b.nrm) : MC ρ ren n2 a c :=
  fun σ σ2 v hs hv => h σ σ2 v hs ((VR.nrm b).2 (e ▸ (VR.nrm a).1 hv))
end
theorem CV.nrml_ok {z : Nat} : ∀ {l : List CV}, l.length = z ∧ l.all CV.flat = true → (CV.nrml l).length = z ∧ (CV.nrml l).all CV.flat = true := by
  have len : ∀ l : List CV, (CV.nrml l).length = l.length := fun l => by
    induction l with
    | nil => rfl
    | cons c l ih => exact congrArg Nat.succ ih
  have flat : ∀ c : CV, c.nrm.flat = c.flat := fun c => by
    cases c with
    | int k e => cases e <;> rfl
    | bool e => cases e <;> rfl
    | _ => rfl
  have all : ∀ l : List CV, (CV.nrml l).all CV.flat = l.all CV.flat := fun l => by
    induction l with
    | nil => rfl
    | cons c l ih => simp only [CV.nrml, List.all_cons, flat, ih]
  intro l h
  exact ⟨(len l).trans h.1, (all l).trans h.2⟩
theorem flatR_nrm {ρ : Env} {σ : Mp} {row : Nat → List CV} : ∀ (n : Nat) {vs : List Value}, VRl ρ σ (flatR row n) vs ↔ VRl ρ σ (flatR (fun i => CV.nrml (row i)) n) vs
  | 0, vs => Iff.rfl
  | n + 1, vs => ⟨fun h => by
      rw [flatR] at h ⊢
      obtain ⟨x, y, rfl, h1, h2⟩ := h.cut
      exact ((flatR_nrm n).1 h1).append ((VRl.nrm _).1 h2), fun h => by
      rw [flatR] at h ⊢
      obtain ⟨x, y, rfl, h1, h2⟩ := h.cut
      exact ((flatR_nrm n).2 h1).append ((VRl.nrm _).2 h2)⟩
def BC.nrm : BC → BC
  | .lit l => .lit (CV.nrml l)
  | .rows n z row h => .rows n z (fun i => CV.nrml (row i)) (fun i => CV.nrml_ok (h i))
  | .arg n z row h => .arg n z (fun i => CV.nrml (row i)) (fun i => CV.nrml_ok (h i))
def Blk.nrm (k : Blk) : Blk := ⟨k.body.nrm, k.esz, k.live, none⟩
def BC.ren (f : Nat → Nat) : BC → BC
  | .lit l => .lit (CV.renl f l)
  | .rows n z row h => .rows n z (fun j => CV.renl f (row j)) (fun j => CV.renl_ok (h j))
  | .arg n z row h => .arg n z (fun j => CV.renl f (row j)) (fun j => CV.renl_ok (h j))
def Blk.ren (f : Nat → Nat) (k : Blk) : Blk := ⟨k.body.ren f, k.esz, k.live, none⟩
def BC.Rn (n : Nat) : BC → Prop
  | .lit l => CV.rnbl n l = true
  | .rows _ _ row _ => ∀ j, CV.rnbl n (row j) = true
  | .arg _ _ row _ => ∀ j, CV.rnbl n (row j) = true
theorem MB.ren {ρ : Env} {f : Nat → Nat} {n : Nat} {k : Blk} (h : k.body.Rn n) (hx : k.ext = none) : MB ρ f n (k.ren f) k := by
  obtain ⟨b, e, v, x⟩ := k
  have hx : x = none := hx
  subst hx
  cases b with
  | lit l => exact .lit (.ren h)
  | rows m z row hrow => exact .rows rfl fun j _ => .ren (h j)
  | arg m z row hrow =>
    obtain ⟨_, _, _, _, h5⟩ := MB.rows (ρ := ρ) (ren := f) (n2 := n) (z := z) (z' := z) (row := fun j => CV.renl f (row j)) (row' := row) (h := fun j => CV.renl_ok (hrow j)) (h' := hrow) (e := e) (x := none) (v := v) (n := m) (m := m) rfl fun j _ => .ren (h j)
    exact ⟨rfl, rfl, rfl, fun h => h, h5⟩
theorem Blk.nrm_cells {ρ : Env} {σ : Mp} {k : Blk} {vs : List Value} : VRl ρ σ k.cells vs ↔ VRl ρ σ k.nrm.cells vs := by
  obtain ⟨b, e, v, x⟩ := k
  cases b with
  | lit l => exact VRl.nrm l
  | rows m z row h => exact flatR_nrm m
  | arg m z row h => exact flatR_nrm m
theorem BC.nrm_ro (b : BC) : b.nrm.ro = b.ro := by cases b <;> rfl
theorem MB.nrm {ρ : Env} {f : Nat → Nat} {n : Nat} {a b k : Blk} (h : MB ρ f n b k) (e : a.nrm = b.nrm) : MB ρ f n a k := by
  obtain ⟨h1, h2, h3, h4, h5⟩ := h
  have e1 : a.esz = b.esz := (congrArg Blk.esz e : a.nrm.esz = b.nrm.esz)
  have e2 : a.live = b.live := (congrArg Blk.live e : a.nrm.live = b.nrm.live)
  have e3 : a.ro = b.ro := by
    have := congrArg (fun x => x.body.ro) e
    simp only [Blk.nrm, BC.nrm_ro] at this
    exact this
  exact ⟨h1.trans e2.symm, h2.trans e1.symm, h3, fun h => e3 ▸ h4 h, fun σ σ2 us hs hv => h5 σ σ2 us hs (Blk.nrm_cells.2 (e ▸ Blk.nrm_cells.1 hv))⟩
mutual
/-- A slice of cells taken for one of rows, where that is wanted. -/
def CV.like : CV → CV → CV
  | .slx _ z _ _ _, .slc (some (b, 0)) n c => .slx b z 0 n c
  | .agg l, .agg m => .agg (CV.likes l m)
  | .tup l, .tup m => .tup (CV.likes l m)
  | _, c => c
def CV.likes : List CV → List CV → List CV
  | p :: l, c :: m => CV.like p c :: CV.likes l m
  | _, m => m
end
def BC.like : BC → BC → BC
  | .rows _ z _ _, .lit l => if h : l.length = z ∧ l.all CV.flat = true then .rows 1 z (fun _ => l) (fun _ => h) else .lit l
  | .lit l, .lit m => .lit (CV.likes l m)
  | _, b => b
def Blk.like (p k : Blk) : Blk := ⟨BC.like p.body k.body, k.esz, k.live, k.ext⟩
section
variable {ρ : Env} {σ : Mp}
mutual
theorem VR.like : ∀ (p c : CV) {v : Value}, VR ρ σ c v → VR ρ σ (CV.like p c) v
  | .agg l, c, v, h => by
    cases c with
    | agg m =>
      obtain ⟨cs, rfl, h1⟩ := h.agg_inv
      exact .agg (VRl.like l m h1)
    | _ => exact h
  | .tup l, c, v, h => by
    cases c with
    | tup m =>
      obtain ⟨cs, rfl, h1⟩ := h.tup_inv
      exact .tup (VRl.like l m h1)
    | _ => exact h
  | .slx x z y n' c', c, v, h => by
    cases c with
    | slc a n k =>
      cases a with
      | none => exact h
      | some bo =>
        obtain ⟨b, o⟩ := bo
        cases o with
        | zero => exact .slx (by rw [Nat.zero_mul]; exact h)
        | succ o => exact h
    | _ => exact h
  | .bool _, c, v, h | .int _ _, c, v, h | .raw _, c, v, h | .ptr _, c, v, h | .slc .., c, v, h | .sla .., c, v, h | .sln _, c, v, h | .slr .., c, v, h | .ptx .., c, v, h | .junk, c, v, h | .any, c, v, h | .emp, c, v, h | .fn .., c, v, h | .yld _, c, v, h | .map _, c, v, h => by cases c <;> exact h
theorem VRl.like : ∀ (l m : List CV) {vs : List Value}, VRl ρ σ m vs → VRl ρ σ (CV.likes l m) vs
  | [], m, vs, h => by cases m <;> exact h
  | p :: l, [], vs, h => h
  | p :: l, c :: m, vs, h => by
    cases h with
    | cons h t => exact .cons (VR.like p c h) (VRl.like l m t)
end
theorem Blk.like_cells {p k : Blk} {us : List Value} (h : VRl ρ σ k.cells us) : VRl ρ σ (Blk.like p k).cells us := by
  obtain ⟨pb, pe, pv, px⟩ := p
  obtain ⟨kb, ke, kv, kx⟩ := k
  show VRl ρ σ (BC.like pb kb).list us
  have h : VRl ρ σ kb.list us := h
  cases pb with
  | lit l => cases kb with
    | lit m => exact VRl.like l m h
    | _ => exact h
  | rows n z row hr => cases kb with
    | lit m =>
      show VRl ρ σ (if h : m.length = z ∧ m.all CV.flat = true then BC.rows 1 z (fun _ => m) (fun _ => h) else .lit m).list us
      split
      · show VRl ρ σ ([] ++ m) us
        exact h
      · exact h
    | _ => exact h
  | arg n z row hr => cases kb <;> exact h
end
theorem BC.like_ro (p b : BC) : (BC.like p b).ro = b.ro := by
  unfold BC.like
  split
  · split <;> rfl
  · rfl
  · rfl
theorem MC.like {ρ : Env} {ren : Nat → Nat} {n2 : Nat} {a c p : CV} (h : MC ρ ren n2 (CV.like p a) c) : MC ρ ren n2 a c := fun σ σ2 v hs hv => h σ σ2 v hs (hv.like p a)
theorem MB.like {ρ : Env} {f : Nat → Nat} {n : Nat} {a k p : Blk} (h : MB ρ f n (Blk.like p a) k) : MB ρ f n a k := by
  obtain ⟨h1, h2, h3, h4, h5⟩ := h
  have e2 : (Blk.like p a).ro = a.ro := BC.like_ro _ _
  exact ⟨h1, h2, h3, fun h => by rw [← e2]; exact h4 h, fun σ σ2 us hs hv => h5 σ σ2 us hs (Blk.like_cells hv)⟩
/-- Names behind the arguments' blocks, by a list. -/
def renF (base : Nat) (r : List Nat) (b : Nat) : Nat := bif Nat.blt b base then b else match r[b - base]? with | some x => x | none => b
def nodupB : List Nat → Bool
  | [] => true
  | a :: l => !l.any (Nat.beq a) && nodupB l
def renOk (base n : Nat) (r : List Nat) : Bool := r.all (fun x => Nat.ble base x && Nat.blt x n) && nodupB r
theorem nodupB_inj : ∀ {l : List Nat}, nodupB l = true → ∀ {i j : Nat} {x : Nat}, l[i]? = some x → l[j]? = some x → i = j
  | [], _, i, j, x, h, _ => by simp at h
  | a :: l, h, i, j, x, h1, h2 => by
    simp only [nodupB, Bool.and_eq_true, Bool.not_eq_true', List.any_eq_false] at h
    cases i with
    | zero =>
      cases j with
      | zero => rfl
      | succ j =>
        simp at h1 h2
        subst h1
        exact absurd (Nat.beq_refl a) (h.1 a (List.mem_of_getElem? h2))
    | succ i =>
      cases j with
      | zero =>
        simp at h1 h2
        subst h2
        exact absurd (Nat.beq_refl a) (h.1 a (List.mem_of_getElem? h1))
      | succ j =>
        simp at h1 h2
        exact congrArg Nat.succ (nodupB_inj h.2 h1 h2)
/-- A point, but for the arguments' blocks: temporaries, blocks, the next number, records of ranges. -/
structure PD where
  T : List (Nat × CV)
  h : List (Nat × Blk)
  n : Nat
  x : List (Nat × Blk)
noncomputable def putH (h0 : Tr Blk) : List (Nat × Blk) → Tr Blk
  | [] => h0
  | (t, c) :: l => (putH h0 l).set t c
noncomputable def PD.pt (h0 : Tr Blk) (d : PD) : Pt := ⟨mkT d.T, putH h0 (d.h ++ d.x), d.n⟩
/-- A record of a range, whose temporaries name old blocks alone. -/
def RecOk (base : Nat) (k : Blk) : Prop := k.live = false ∧ ∃ r : LR, k.ext = some (.loop r) ∧ ∀ t, (rd r.T t).lts base = true
structure PD.Ok (base : Nat) (W : List Nat) (d : PD) : Prop where
  T : ∀ x ∈ d.T, x.2.rnb d.n = true
  h : ∀ x ∈ d.h, (base ≤ x.1 ∨ x.1 ∈ W) ∧ x.2.body.Rn d.n ∧ x.2.ext = none
  x : ∀ x ∈ d.x, x.1 ∈ W ∧ RecOk base x.2
  W : W.all (fun b => (d.h ++ d.x).any (fun x => Nat.beq x.1 b)) = true
theorem MC.fix {ρ : Env} {ren : Nat → Nat} {n2 base : Nat} {c : CV} (h : c.lts base = true) (hb : base ≤ n2) (hf : ∀ b, b < base → ren b = b) : MC ρ ren n2 c c := fun σ σ2 v hs hv => hv.lts (fun b hb' => by rw [hs b (Nat.lt_of_lt_of_le hb' hb), hf b hb']) h
theorem get_putH (h0 : Tr Blk) (t : Nat) : ∀ (l : List (Nat × Blk)), (putH h0 l).get t = match l.find? (fun x => x.1 == t) with | some x => some x.2 | none => h0.get t
  | [] => rfl
  | (u, c) :: l => by
    have ih := get_putH h0 t l
    simp only [putH, Tr.get_set, List.find?_cons]
    by_cases h : t = u
    · subst h; simp
    · have h' : (u == t) = false := by simp; exact fun e => h e.symm
      rw [if_neg h, h']
      exact ih
theorem renF_props {base n : Nat} {r : List Nat} (h : renOk base n r = true) : (∀ b, b < base → renF base r b = b) ∧ (∀ b, base ≤ b → b < base + r.length → base ≤ renF base r b ∧ renF base r b < n) ∧
    (∀ b b', b < base + r.length → b' < base + r.length → renF base r b = renF base r b' → b = b') := by
  simp only [renOk, Bool.and_eq_true, List.all_eq_true] at h
  have low : ∀ b, b < base → renF base r b = b := fun b hb => by
    have e : Nat.blt b base = true := by simpa using hb
    simp only [renF, e, cond_true]
  have high : ∀ b, base ≤ b → b < base + r.length → ∃ x, r[b - base]? = some x ∧ renF base r b = x := fun b h1 h2 => by
    have e : Nat.blt b base = false := by
      cases hbq : Nat.blt b base with
      | false => rfl
      | true => exact absurd (blt_lt hbq) (by omega)
    have hlt : b - base < r.length := by omega
    refine ⟨r[b - base], List.getElem?_eq_getElem hlt, ?_⟩
    simp only [renF, e, cond_false, List.getElem?_eq_getElem hlt]
  have rng : ∀ b, base ≤ b → b < base + r.length → base ≤ renF base r b ∧ renF base r b < n := fun b h1 h2 => by
    obtain ⟨x, hx, he⟩ := high b h1 h2
    have := h.1 x (List.mem_of_getElem? hx)
    rw [he]
    exact ⟨Nat.le_of_ble_eq_true this.1, blt_lt this.2⟩
  refine ⟨low, rng, fun b b' h1 h2 h3 => ?_⟩
  by_cases hb : b < base <;> by_cases hb' : b' < base
  · rwa [low b hb, low b' hb'] at h3
  · have := rng b' (by omega) h2
    rw [low b hb] at h3; omega
  · have := rng b (by omega) h1
    rw [low b' hb'] at h3; omega
  · obtain ⟨x, hx, he⟩ := high b (by omega) h1
    obtain ⟨x', hx', he'⟩ := high b' (by omega) h2
    rw [he, he'] at h3
    subst h3
    have := nodupB_inj h.2 hx hx'
    omega
theorem map_eq_mem {α β : Type} {g h : α → β} : ∀ {l : List α}, l.map g = l.map h → ∀ x ∈ l, g x = h x
  | _ :: _, e, x, hx => by
    simp only [List.map_cons, List.cons.injEq] at e
    rcases List.mem_cons.1 hx with rfl | hx
    · exact e.1
    · exact map_eq_mem e.2 x hx
theorem Mat.ren {ρ : Env} {X : Fx} {base : Nat} {W : List Nat} {h0 : Tr Blk} {T : Tr CV} {h : Tr Blk} {n : Nat} {d : PD} {r : List Nat} (hbs : X.base = base) (hW : X.W = W) (hwb : ∀ b ∈ W, b < base) (hd : d.Ok base W) (hr : renOk base n r = true) (hn : d.n = base + r.length)
    (hT : d.T.map (fun x => (CV.like x.2 (rd T x.1)).nrm) = d.T.map (fun x => (x.2.ren (renF base r)).nrm)) (hB : d.h.map (fun x => (h.get (renF base r x.1)).map (fun k => (Blk.like x.2 k).nrm)) = d.h.map (fun x => some (x.2.ren (renF base r)).nrm)) (hx : d.x.map (fun x => h.get x.1) = d.x.map (fun x => some x.2))
    (hold : ∀ b, b < base → b ∉ W → h.get b = h0.get b) (hh0 : ∀ b, base ≤ b → h0.get b = Option.none) :
    Mat ρ X (renF base r) ⟨T, h, n⟩ (d.pt h0) := by
  subst hbs hW
  obtain ⟨p1, p2, p3⟩ := renF_props hr
  rw [← hn] at p2 p3
  refine ⟨?_, p1, p2, p3, fun t => ?_, fun b hb hbW => ?_, fun b k hb hk => ?_⟩
  · show X.base ≤ d.n; omega
  · show MC ρ (renF X.base r) d.n (rd T t) (rd (mkT d.T) t)
    rw [rd_mkT]
    split
    · rename_i x hx
      have h1 := List.find?_some hx
      have h2 := List.mem_of_find?_eq_some hx
      simp only [beq_iff_eq] at h1
      rw [← h1]
      exact ((MC.ren (hd.T x h2)).nrm (map_eq_mem hT x h2)).like
    · exact .any
  · show (putH h0 (d.h ++ d.x)).get b = h.get b
    rw [get_putH]
    split
    · rename_i x hx
      have h1 := List.find?_some hx
      have h2 := List.mem_of_find?_eq_some hx
      simp only [beq_iff_eq] at h1
      subst h1
      rcases List.mem_append.1 h2 with h2 | h2
      · rcases (hd.h x h2).1 with h3 | h3
        · omega
        · exact absurd h3 hbW
      · exact absurd (hd.x x h2).1 hbW
    · exact (hold b hb hbW).symm
  · have hk : (putH h0 (d.h ++ d.x)).get b = some k := hk
    rw [get_putH] at hk
    split at hk
    · rename_i x hx'
      cases hk
      have h1 := List.find?_some hx'
      have h2 := List.mem_of_find?_eq_some hx'
      simp only [beq_iff_eq] at h1
      subst h1
      rcases List.mem_append.1 h2 with h2 | h2
      · obtain ⟨k0, q1, q2⟩ := Option.map_eq_some_iff.1 (map_eq_mem hB x h2)
        exact ⟨k0, q1, .inl ((MB.ren (hd.h x h2).2.1 (hd.h x h2).2.2).nrm q2).like⟩
      · obtain ⟨hw, hl, rr, he, ht⟩ := hd.x x h2
        refine ⟨x.2, ?_, .inr ⟨hl, rr, rr, he, he, rfl, rfl, rfl, rfl, rfl, rfl, fun t => .fix (ht t) (by show X.base ≤ d.n; omega) p1⟩⟩
        rw [p1 _ (hwb _ hw)]
        exact map_eq_mem hx x h2
    · rename_i hx'
      rcases hb with hb | hb
      · have := hd.W
        rw [List.all_eq_true] at this
        have := this b hb
        rw [List.any_eq_true] at this
        obtain ⟨x, q1, q2⟩ := this
        rw [List.find?_eq_none] at hx'
        exact absurd (by simpa using Nat.eq_of_beq_eq_true q2) (hx' x q1)
      · rw [hh0 b hb.1] at hk; cases hk
/-! ## Trees of tests -/
inductive DD (L : Type) where
  | leaf (l : L)
  | ask (c : Bool) (t f : DD L)
  | must (c : Bool) (t : DD L)
  | num (x : Int) (n : Nat) (t f : DD L)
  | dead
def DD.eval {L : Type} : DD L → Option L
  | .leaf l => some l
  | .ask c t f => bif c then t.eval else f.eval
  | .must c t => bif c then t.eval else none
  | .num x n t f => bif decide (x = n) then t.eval else f.eval
  | .dead => none
/-- Its leaves: the answers that lead there, the facts on the way, the latest first. -/
def DD.lv {L : Type} : DD L → List (List Nat × List PC × L)
  | .leaf l => [([], [], l)]
  | .ask c t f => t.lv.map (fun x => (1 :: x.1, x.2.1 ++ [.b (.x c) true], x.2.2)) ++ f.lv.map (fun x => (0 :: x.1, x.2.1 ++ [.b (.x c) false], x.2.2))
  | .must c t => t.lv.map (fun x => (x.1, x.2.1 ++ [.b (.x c) true], x.2.2))
  | .num x n t f => t.lv.map (fun y => (n :: y.1, y.2.1 ++ [.b (.x (decide (x = n))) true], y.2.2)) ++ f.lv
  | .dead => []
theorem DD.eval_lv {L : Type} {ρ : Env} {l : L} : ∀ {d : DD L}, d.eval = some l → ∃ o p, (o, p, l) ∈ d.lv ∧ ∀ q ∈ p, q.holds ρ
  | .leaf l', h => by
    simp only [DD.eval] at h
    cases h
    exact ⟨[], [], by simp [DD.lv], by simp⟩
  | .ask c t f, h => by
    simp only [DD.eval] at h
    cases c with
    | true =>
      obtain ⟨o, p, h1, h2⟩ := DD.eval_lv (ρ := ρ) (d := t) h
      exact ⟨1 :: o, p ++ [.b (.x true) true], by simp only [DD.lv, List.mem_append, List.mem_map]; exact .inl ⟨_, h1, rfl⟩, fun q hq => by
        rcases List.mem_append.1 hq with hq | hq
        · exact h2 q hq
        · obtain rfl := List.mem_singleton.1 hq; rfl⟩
    | false =>
      obtain ⟨o, p, h1, h2⟩ := DD.eval_lv (ρ := ρ) (d := f) h
      exact ⟨0 :: o, p ++ [.b (.x false) false], by simp only [DD.lv, List.mem_append, List.mem_map]; exact .inr ⟨_, h1, rfl⟩, fun q hq => by
        rcases List.mem_append.1 hq with hq | hq
        · exact h2 q hq
        · obtain rfl := List.mem_singleton.1 hq; rfl⟩
  | .must c t, h => by
    simp only [DD.eval] at h
    cases c with
    | true =>
      obtain ⟨o, p, h1, h2⟩ := DD.eval_lv (ρ := ρ) (d := t) h
      exact ⟨o, p ++ [.b (.x true) true], by simp only [DD.lv, List.mem_map]; exact ⟨_, h1, rfl⟩, fun q hq => by
        rcases List.mem_append.1 hq with hq | hq
        · exact h2 q hq
        · obtain rfl := List.mem_singleton.1 hq; rfl⟩
    | false => cases h
  | .num x n t f, h => by
    simp only [DD.eval] at h
    cases hx : decide (x = n) with
    | true =>
      rw [hx] at h
      obtain ⟨o, p, h1, h2⟩ := DD.eval_lv (ρ := ρ) (d := t) h
      exact ⟨n :: o, p ++ [.b (.x (decide (x = n))) true], by simp only [DD.lv, List.mem_append, List.mem_map]; exact .inl ⟨_, h1, rfl⟩, fun q hq => by
        rcases List.mem_append.1 hq with hq | hq
        · exact h2 q hq
        · obtain rfl := List.mem_singleton.1 hq; exact hx⟩
    | false =>
      rw [hx] at h
      obtain ⟨o, p, h1, h2⟩ := DD.eval_lv (ρ := ρ) (d := f) h
      exact ⟨o, p, by simp only [DD.lv, List.mem_append]; exact .inr h1, h2⟩
  | .dead, h => by cases h
/-- A leaf: the next head, or the function's end; the blocks' numbers there. -/
inductive Lf (N R : Type) where
  | next (a : N) (r : List Nat)
  | done (v : R) (r : List Nat)
/-- A function as an automaton: N its heads, R what it yields. -/
structure AF (N R : Type) where
  code : Code
  base : Nat
  nt : Nat
  m : Nat
  un : List Nat
  W : List Nat
  h0 : List (Nat × Blk)
  args : List CV
  res : List ResultVar
  path : N → List Nat
  pd : N → PD
  D0 : DD (Lf N R)
  D : N → DD (Lf N R)
  rc : R → CV
  rh : R → List (Nat × Blk)
  rn : R → Nat
  rx : R → List (Nat × Blk)
  /-- Heads that are ranges over functions: what follows, where the iterator ends within so many rounds. -/
  rgo : N → Option (Nat → Option (DD (Lf N R)))
section
variable {N R : Type} (A : AF N R)
noncomputable def AF.H0 : Tr Blk := mkH A.h0
def AF.go : Nat → N → Option R
  | 0, _ => none
  | n + 1, a =>
    match A.rgo a with
    | some q => match q n with
      | some D => match D.eval with
        | some (.next b _) => AF.go n b
        | some (.done v _) => some v
        | none => none
      | none => none
    | none => match (A.D a).eval with
      | some (.next b _) => AF.go n b
      | some (.done v _) => some v
      | none => none
/-- What the function yields, if it ends within so many rounds. -/
def AF.run (n : Nat) : Option R := match A.D0.eval with
  | some (.next b _) => A.go n b
  | some (.done v _) => some v
  | none => none
/-- What is looked at where a run ends, and what it should be. -/
noncomputable def AF.see (C0 : Ctx) (l : Lf N R) (o : Option KO) : Option (List Nat × List CV × List (Option Blk) × List PC × List (Option Blk) × Bool) :=
  match l, o with
  | .next a r, some ⟨.at π, T, s, W⟩ => some (π, (A.pd a).T.map (fun x => (CV.like x.2 (rd T x.1)).nrm), (A.pd a).h.map (fun x => (s.heap.get (renF A.base r x.1)).map (fun k => (Blk.like x.2 k).nrm)), s.pc, (A.pd a).x.map (fun x => s.heap.get x.1), W.all (fun b => A.W.any (Nat.beq b)) && (renOk A.base s.next r && Nat.beq (A.pd a).n (A.base + r.length)))
  | .done v r, some ⟨.fin e, T, s, W⟩ => match resE C0 T ⟨s.heap, s.next, [], []⟩ A.res with
    | some (vs, _) => some ([], [(CV.like (A.rc v) (tupC vs)).nrm], (A.rh v).map (fun x => (s.heap.get (renF A.base r x.1)).map (fun k => (Blk.like x.2 k).nrm)), s.pc, (A.rx v).map (fun x => s.heap.get x.1), W.all (fun b => A.W.any (Nat.beq b)) && (e.stays && (renOk A.base s.next r && Nat.beq (A.rn v) (A.base + r.length))))
    | none => none
  | _, _ => none
noncomputable def AF.want (l : Lf N R) (p : List PC) : Option (List Nat × List CV × List (Option Blk) × List PC × List (Option Blk) × Bool) :=
  match l with
  | .next a r => some (A.path a, (A.pd a).T.map (fun x => (x.2.ren (renF A.base r)).nrm), (A.pd a).h.map (fun x => some (x.2.ren (renF A.base r)).nrm), p, (A.pd a).x.map (fun x => some x.2), true)
  | .done v r => some ([], [((A.rc v).ren (renF A.base r)).nrm], (A.rh v).map (fun x => some (x.2.ren (renF A.base r)).nrm), p, (A.rx v).map (fun x => some x.2), true)
def AF.edgeOk (C0 : Ctx) (D : DD (Lf N R)) (run : List Nat → Option KO) : Prop :=
  D.lv.map (fun x => A.see C0 x.2.2 (run x.1)) = D.lv.map (fun x => A.want x.2.2 x.2.1)
noncomputable def AF.runN (C : Ctx) (a : N) (o : List Nat) : Option KO :=
  edgeK C A.m A.base A.nt A.un A.code (A.path a) ((A.pd a).pt A.H0).T (((A.pd a).pt A.H0).st o)
noncomputable def AF.run0 (C : Ctx) (o : List Nat) : Option KO :=
  startK C A.m A.base A.nt A.un A.code (args0 0 A.args .nil) ⟨A.H0, A.base, o, []⟩
variable {A}
variable {P : Program} {ρ : Env}
/-- What holds at the end. -/
def AF.Φ (A : AF N R) (P : Program) (ρ : Env) (v : R) (e : Ex) (p : Pt) : Prop :=
  e.stays = true ∧ ∃ (r : List Nat) (vs : List CV) (R' : List Nat), (∀ X : Fx, X.base = A.base → X.W = A.W → Mat ρ X (renF A.base r) p (PD.pt A.H0 ⟨[], A.rh v, A.rn v, A.rx v⟩)) ∧ resE (ctxOf P memo0) p.T (p.st []) A.res = some (vs, R') ∧ (CV.like (A.rc v) (tupC vs)).nrm = ((A.rc v).ren (renF A.base r)).nrm
structure AF.Ok (A : AF N R) (P : Program) (C : Ctx) : Prop where
  regs : regsOk A.code = true
  h0 : A.h0.all (fun x => Nat.blt x.1 A.base) = true
  start : A.edgeOk (ctxOf P memo0) A.D0 (A.run0 C)
  node : ∀ a, A.rgo a = none → A.edgeOk (ctxOf P memo0) (A.D a) (A.runN C a)
  pd : ∀ a, (A.pd a).Ok A.base A.W
  le : ∀ a, A.base ≤ (A.pd a).n
  rd : ∀ v, (⟨[], A.rh v, A.rn v, A.rx v⟩ : PD).Ok A.base A.W ∧ (A.rc v).rnb (A.rn v) = true
  wb : A.W.all (fun b => Nat.blt b A.base) = true
theorem AF.Ok.h0_none {C : Ctx} (hA : A.Ok P C) (b : Nat) (hb : A.base ≤ b) : A.H0.get b = none := by
  unfold AF.H0
  rw [get_mkH]
  have h := hA.h0
  rw [List.all_eq_true] at h
  have : A.h0.find? (fun x => x.1 == b) = none := by
    rw [List.find?_eq_none]
    intro x hx hxb
    have h1 := blt_lt (h x hx)
    simp only [beq_iff_eq] at hxb
    omega
  rw [this]; rfl
theorem AF.Ok.wlt {C : Ctx} (hA : A.Ok P C) : ∀ b ∈ A.W, b < A.base := fun b hb => blt_lt (List.all_eq_true.1 hA.wb b hb)
theorem wsub {W V : List Nat} (h : W.all (fun b => V.any (Nat.beq b)) = true) : ∀ b ∈ W, b ∈ V := fun b hb => by
  have := List.all_eq_true.1 h b hb
  obtain ⟨x, h1, h2⟩ := List.any_eq_true.1 this
  rw [Nat.eq_of_beq_eq_true h2]; exact h1
/-- What is to be shown of a head that is a range over a function: a run behind it. -/
def AF.RangeOk (A : AF N R) (P : Program) (ρ : Env) (X : Fx) (a : N) (D : DD (Lf N R)) : Prop :=
  ∃ (run : List Nat → Option KO) (s0 : St), A.edgeOk (ctxOf P memo0) D run ∧ s0.pc = [] ∧ (∀ b, b < A.base → b ∉ A.W → s0.heap.get b = A.H0.get b) ∧
    ∀ o (k : KO), run o = some k → KS P ρ A.base A.nt s0 k.s k.W (fun X Φ => Obl P ρ X A.code Φ k.r ⟨k.T, k.s.heap, k.s.next⟩) (fun X' Φ => X' = X → AtL P ρ X A.code (A.path a) Φ ((A.pd a).pt A.H0))
theorem AF.go_ok {C : Ctx} (hC : CtxOk3 P C) (hM : MemoOk P C ρ) (hA : A.Ok P C) {X : Fx} (hX : FxOk ρ X) (hb : X.base = A.base) (hnt : X.nt = A.nt) (hW : X.W = A.W) (hR : ∀ a q n D, A.rgo a = some q → q n = some D → A.RangeOk P ρ X a D) :
    ∀ (n : Nat) (D : DD (Lf N R)) (v : R) (run : List Nat → Option KO) (G : (Ex → Pt → Prop) → Prop) (s0 : St), A.edgeOk (ctxOf P memo0) D run → s0.pc = [] → (∀ b, b < A.base → b ∉ A.W → s0.heap.get b = A.H0.get b) →
      (∀ o (k : KO), run o = some k → KS P ρ A.base A.nt s0 k.s k.W (fun X Φ => Obl P ρ X A.code Φ k.r ⟨k.T, k.s.heap, k.s.next⟩) (fun X' Φ => X' = X → G Φ)) →
      (match D.eval with | some (.next b _) => A.go n b | some (.done v _) => some v | none => none) = some v → G (A.Φ P ρ v) := by
  intro n
  induction n with
  | zero =>
    intro D v run G s0 hE hpc hold hrun hv
    cases hd : D.eval with
    | none => rw [hd] at hv; cases hv
    | some l =>
      rw [hd] at hv
      cases l with
      | next b r => simp only [AF.go] at hv; cases hv
      | done v' r =>
        cases hv
        obtain ⟨o, p, hm, hp⟩ := DD.eval_lv (ρ := ρ) hd
        have h1 := map_eq_mem hE _ hm
        simp only [AF.see, AF.want] at h1
        split at h1 <;> try (cases h1; done)
        · rename_i heq _; cases heq
        · rename_i v2 r2 e T s W heq hk
          cases heq
          split at h1
          · rename_i vs R' hres
            simp only [Option.some.injEq, Prod.mk.injEq, true_and, List.cons.injEq, and_true, Bool.and_eq_true] at h1
            obtain ⟨h2, h3, h4, hxx, h5, h6, h7, h8⟩ := h1
            have h5 := wsub h5
            have k := hrun o _ hk
            refine k.run X _ hX hb hnt (by show ∀ q ∈ s.pc, _; rw [h4]; exact hp) (by show ∀ b ∈ W, _; rw [hW]; exact h5) ?_ rfl
            refine ⟨h6, r, vs, R', ?_, hres, h2⟩
            intro X' hb' hW'
            exact Mat.ren hb' hW' hA.wlt (hA.rd v).1 h7 (Nat.eq_of_beq_eq_true h8) rfl h3 hxx (fun b hb hbW => by
              have := k.old b hb (by show b ∉ W; exact fun h => hbW (h5 b h))
              exact this.trans (hold b hb hbW)) hA.h0_none
          · cases h1
  | succ n ih =>
    intro D v run G s0 hE hpc hold hrun hv
    cases hd : D.eval with
    | none => rw [hd] at hv; cases hv
    | some l =>
      rw [hd] at hv
      cases l with
      | next b r =>
        obtain ⟨o, p, hm, hp⟩ := DD.eval_lv (ρ := ρ) hd
        have h1 := map_eq_mem hE _ hm
        simp only [AF.see, AF.want] at h1
        split at h1 <;> try (cases h1; done)
        · rename_i a2 r2 π T s W heq hk
          cases heq
          simp only [Option.some.injEq, Prod.mk.injEq, true_and, Bool.and_eq_true] at h1
          obtain ⟨h2, h3, h4, h5, hxx, h6, h7, h8⟩ := h1
          have h6 := wsub h6
          have k := hrun o _ hk
          refine k.run X _ hX hb hnt (by show ∀ q ∈ s.pc, _; rw [h5]; exact hp) (by show ∀ b ∈ W, _; rw [hW]; exact h6) ?_ rfl
          show AtL P ρ X A.code π (A.Φ P ρ v) ⟨T, s.heap, s.next⟩
          rw [h2]
          refine AtL.mat hX (Mat.ren (base := A.base) (h0 := A.H0) (d := A.pd b) (r := r) hb hW hA.wlt (hA.pd b) h7 (Nat.eq_of_beq_eq_true h8) h3 h4 hxx (fun b hb hbW => by
              have := k.old b hb (by show b ∉ W; exact fun h => hbW (h6 b h))
              exact this.trans (hold b hb hbW)) hA.h0_none) ?_
          simp only [AF.go] at hv
          cases hq : A.rgo b with
          | some q =>
            rw [hq] at hv
            simp only at hv
            cases hqn : q n with
            | none => rw [hqn] at hv; cases hv
            | some D2 =>
              rw [hqn] at hv
              obtain ⟨run2, s2, e1, e2, e3, e4⟩ := hR b q n D2 hq hqn
              exact ih D2 v run2 (fun Φ => AtL P ρ X A.code (A.path b) Φ ((A.pd b).pt A.H0)) s2 e1 e2 e3 e4 hv
          | none =>
          rw [hq] at hv
          simp only at hv
          refine ih (A.D b) v (A.runN (C := C) b) (fun Φ => AtL P ρ X A.code (A.path b) Φ ((A.pd b).pt A.H0)) (((A.pd b).pt A.H0).st []) (hA.node b hq) rfl (fun b' hb' hbW' => ?_) (fun o k hk => ?_) hv
          · show (putH A.H0 ((A.pd b).h ++ (A.pd b).x)).get b' = _
            rw [get_putH]
            split
            · rename_i x hx
              have h1 := List.find?_some hx
              have h2 := List.mem_of_find?_eq_some hx
              simp only [beq_iff_eq] at h1
              subst h1
              rcases List.mem_append.1 h2 with h2 | h2
              · rcases ((hA.pd b).h x h2).1 with h3 | h3
                · omega
                · exact absurd h3 hbW'
              · exact absurd ((hA.pd b).x x h2).1 hbW'
            · rfl
          · have kk := edgeK_ok (base := A.base) hC hM hA.regs (by show A.base ≤ (A.pd b).n; exact hA.le b) hk
            exact ⟨kk.next, kk.pc, kk.old, fun X' Φ a b c d e f hx => by subst hx; exact kk.run X' Φ a b c d e f⟩
        · rename_i heq _; cases heq
      | done v' r =>
        have hv' : (match D.eval with | some (.next b _) => A.go n b | some (.done v _) => some v | none => none) = some v := by rw [hd]; exact hv
        exact ih D v run G s0 hE hpc hold hrun hv'
/-- No head is a range over a function. -/
theorem AF.noRange (h : A.rgo = fun _ => none) : ∀ (X : Fx) a q n D, FxOk ρ X → X.base = A.base → X.nt = A.nt → X.W = A.W → A.rgo a = some q → q n = some D → A.RangeOk P ρ X a D := by
  intro X a q n D _ _ _ _ hq
  rw [h] at hq
  cases hq
/-- A function's contract, from its automaton. -/
theorem AF.ctr {memo : Memo} (hP : progOk P = true) (hM : MemoOk P (ctxOf P memo) ρ) (hA : A.Ok P (ctxOf P memo)) {f : Nat} {fn : Func} (hfn : P.funcs[f]? = some fn) (hb : fn.body = some A.code) (hnt : fn.ntmps = A.nt) (hl : A.args.length ≤ A.nt) (hres : fn.results.toList = A.res)
    (hR : ∀ X a q n D, FxOk ρ X → X.base = A.base → X.nt = A.nt → X.W = A.W → A.rgo a = some q → q n = some D → A.RangeOk P ρ X a D) {n : Nat} {v : R} (hv : A.run n = some v) : Ctr P ρ f A.args A.H0 A.base A.W (A.rc v) (putH A.H0 (A.rh v ++ A.rx v)) (A.rn v) := by
  have hC := ctxOf_ok hP memo
  refine Ctr.of_sem (Φ := A.Φ P ρ v) hP hfn hb (by rw [hnt]; exact hl) hA.wlt (fun X hXb hXn hXW hX => ?_) (fun X hXb hXW hX e p h => ?_)
  · refine AF.go_ok hC hM hA hX hXb (hXn.trans hnt) hXW (fun a q m D => hR X a q m D hX hXb (hXn.trans hnt) hXW) n A.D0 v (A.run0 (ctxOf P memo)) (fun Φ => Sem P ρ X A.code ⟨args0 0 A.args .nil, A.H0, A.base⟩ Φ) ⟨A.H0, A.base, [], []⟩ hA.start rfl (fun _ _ _ => rfl) (fun o k hk => ?_) hv
    have kk := startK_ok (base := A.base) hC hM A.code _ _ _ hA.regs (by show A.base ≤ A.base; exact Nat.le_refl _) hk
    exact ⟨kk.next, kk.pc, kk.old, fun X' Φ a b c d e f hx => by subst hx; exact kk.run X' Φ a b c d e f⟩
  · obtain ⟨he, r, vs, R', hm, hr, hc⟩ := h
    refine ⟨he, renF A.base r, _, vs, R', hm X hXb hXW, rfl, fun _ _ => rfl, by rw [hres]; exact hr, ?_⟩
    exact ((MC.ren (hA.rd v).2).nrm hc).like
end
end Go.Proofs.Ytjdldcmcjaaibaa.Cx

/- CALLS THAT ARE KNOWN FROM AUTOMATA: a function of integers and bools yields what its automaton yields, wherever it is called. -/
namespace Go.Proofs.Ytjdldcmcjaaibaa.Cx
set_option linter.unusedSimpArgs false
set_option linter.unusedVariables false
open Go Go.RowKit
section
variable {N R : Type} {A : AF N R}
/-- Ranges over functions: more rounds change nothing. -/
def AF.Mono (A : AF N R) : Prop := ∀ a q n m D, A.rgo a = some q → n ≤ m → q n = some D → q m = some D
theorem AF.mono_none (h : ∀ a, A.rgo a = none) : A.Mono := fun a q n m D hq _ _ => by rw [h a] at hq; cases hq
theorem AF.go_mono (hA : A.Mono) : ∀ {n m : Nat} {a : N} {v : R}, n ≤ m → A.go n a = some v → A.go m a = some v
  | 0, m, a, v, _, h => by simp [AF.go] at h
  | n + 1, 0, a, v, hm, h => by omega
  | n + 1, m + 1, a, v, hm, h => by
    simp only [AF.go] at h ⊢
    cases hq : A.rgo a with
    | none =>
      rw [hq] at h
      simp only at h ⊢
      cases hd : (A.D a).eval with
      | none => rw [hd] at h; cases h
      | some l =>
        rw [hd] at h
        cases l with
        | next b r => exact AF.go_mono hA (by omega) h
        | done v r => exact h
    | some q =>
      rw [hq] at h
      simp only at h ⊢
      cases hn : q n with
      | none => rw [hn] at h; cases h
      | some D =>
        rw [hn] at h
        rw [hA a q n m D hq (by omega) hn]
        simp only at h ⊢
        cases hd : D.eval with
        | none => rw [hd] at h; cases h
        | some l =>
          rw [hd] at h
          cases l with
          | next b r => exact AF.go_mono hA (by omega) h
          | done v r => exact h
theorem AF.run_mono (hA : A.Mono) {n m : Nat} {v : R} (hm : n ≤ m) (h : A.run n = some v) : A.run m = some v := by
  unfold AF.run at *
  cases hd : A.D0.eval with
  | none => rw [hd] at h; cases h
  | some l =>
    rw [hd] at h
    cases l with
    | next b r => exact AF.go_mono hA hm h
    | done v r => exact h
/-- What the function yields, if it ends. -/
noncomputable def AF.val [Inhabited R] (A : AF N R) : R := open Classical in if h : ∃ v n, A.run n = some v then h.choose else default
noncomputable def AF.fin (A : AF N R) : Bool := @decide (∃ v n, A.run n = some v) (Classical.propDecidable _)
theorem AF.fin_run [Inhabited R] (h : A.fin = true) : ∃ n, A.run n = some A.val := by
  have h : ∃ v n, A.run n = some v := @of_decide_eq_true _ (Classical.propDecidable _) h
  unfold AF.val
  rw [dif_pos h]
  exact h.choose_spec
theorem AF.val_of [Inhabited R] (hA : A.Mono) {n : Nat} {v : R} (h : A.run n = some v) : A.fin = true ∧ A.val = v := by
  have h1 : A.fin = true := by
    unfold AF.fin
    exact @decide_eq_true _ (Classical.propDecidable _) ⟨v, n, h⟩
  refine ⟨h1, ?_⟩
  obtain ⟨m, hm⟩ := AF.fin_run h1
  have e1 := AF.run_mono hA (Nat.le_max_left n m) h
  have e2 := AF.run_mono hA (Nat.le_max_right n m) hm
  rw [e1] at e2
  exact (Option.some.inj e2).symm
end
/-! ## Arguments -/
inductive AP where
  | int (k : IntKind)
  | bool
  | agg (l : List AP)
structure AV where
  i : List Int
  b : List Bool
mutual
/-- The numbers of a value of this shape, behind others. -/
def AP.get : AP → CV → AV → Option AV
  | .int k, .int k' e, v => bif decide (k = k') then (match e.num with | some n => some ⟨v.i ++ [n], v.b⟩ | none => none) else none
  | .bool, .bool e, v => match e.val with | some b => some ⟨v.i, v.b ++ [b]⟩ | none => none
  | .agg l, .agg m, v => AP.gets l m v
  | _, _, _ => none
def AP.gets : List AP → List CV → AV → Option AV
  | [], [], v => some v
  | p :: l, c :: m, v => match p.get c v with | some v => AP.gets l m v | none => none
  | _, _, _ => none
end
mutual
def AP.ni : AP → Nat
  | .int _ => 1
  | .bool => 0
  | .agg l => AP.nis l
def AP.nis : List AP → Nat
  | [] => 0
  | p :: l => p.ni + AP.nis l
end
mutual
def AP.nb : AP → Nat
  | .int _ => 0
  | .bool => 1
  | .agg l => AP.nbs l
def AP.nbs : List AP → Nat
  | [] => 0
  | p :: l => p.nb + AP.nbs l
end
mutual
/-- The value of this shape with these numbers, from places on. -/
def AP.put (v : AV) : AP → Nat → Nat → CV
  | .int k, i, _ => .int k (.x (v.i.getD i 0))
  | .bool, _, j => .bool (.x (v.b.getD j false))
  | .agg l, i, j => .agg (AP.puts v l i j)
def AP.puts (v : AV) : List AP → Nat → Nat → List CV
  | [], _, _ => []
  | p :: l, i, j => p.put v i j :: AP.puts v l (i + p.ni) (j + p.nb)
end
/-- More numbers behind. -/
def AV.pre (v w : AV) : Prop := (∃ l, w.i = v.i ++ l) ∧ ∃ l, w.b = v.b ++ l
theorem AV.pre_refl (v : AV) : v.pre v := ⟨⟨[], by simp⟩, ⟨[], by simp⟩⟩
theorem AV.pre_trans {u v w : AV} (h : u.pre v) (h' : v.pre w) : u.pre w := by
  obtain ⟨⟨l, e⟩, m, f⟩ := h
  obtain ⟨⟨l', e'⟩, m', f'⟩ := h'
  exact ⟨⟨l ++ l', by rw [e', e, List.append_assoc]⟩, ⟨m ++ m', by rw [f', f, List.append_assoc]⟩⟩
theorem getD_pre {α : Type} {l m : List α} {d : α} {i : Nat} (h : i < l.length) : (l ++ m).getD i d = l.getD i d := by
  simp [List.getD_eq_getElem?_getD, List.getElem?_append_left h]
theorem getD_end {α : Type} {l m : List α} {d x : α} : (l ++ [x] ++ m).getD l.length d = x := by
  simp [List.getD_eq_getElem?_getD]
mutual
theorem AP.get_put : ∀ {p : AP} {c : CV} {v w : AV}, p.get c v = some w → v.pre w ∧ w.i.length = v.i.length + p.ni ∧ w.b.length = v.b.length + p.nb ∧ c.plain = true ∧ ∀ u : AV, w.pre u → c.nrm = p.put u v.i.length v.b.length
  | .int k, c, v, w, h => by
    cases c <;> simp only [AP.get] at h <;> try (cases h; done)
    rename_i k' e
    cases hk : decide (k = k') with
    | false => rw [hk] at h; cases h
    | true =>
      rw [hk, cond_true] at h
      obtain rfl := of_decide_eq_true hk
      cases e <;> simp only [IE.num] at h <;> try (cases h; done)
      all_goals
        cases h
        refine ⟨⟨⟨_, rfl⟩, [], by simp⟩, by simp [AP.ni], by simp [AP.nb], rfl, fun u hu => ?_⟩
        obtain ⟨⟨l, e⟩, _⟩ := hu
        simp only [CV.nrm, AP.put, e, getD_end]
  | .bool, c, v, w, h => by
    cases c <;> simp only [AP.get] at h <;> try (cases h; done)
    rename_i e
    cases e <;> simp only [BE.val] at h <;> try (cases h; done)
    all_goals
      cases h
      refine ⟨⟨⟨[], by simp⟩, _, rfl⟩, by simp [AP.ni], by simp [AP.nb], rfl, fun u hu => ?_⟩
      obtain ⟨_, l, e⟩ := hu
      simp only [CV.nrm, AP.put, e, getD_end]
  | .agg l, c, v, w, h => by
    cases c <;> simp only [AP.get] at h <;> try (cases h; done)
    obtain ⟨h1, h2, h3, h4, h5⟩ := AP.gets_puts h
    exact ⟨h1, h2, h3, h4, fun u hu => by simp only [CV.nrm, AP.put]; rw [h5 u hu]⟩
theorem AP.gets_puts : ∀ {l : List AP} {m : List CV} {v w : AV}, AP.gets l m v = some w → v.pre w ∧ w.i.length = v.i.length + AP.nis l ∧ w.b.length = v.b.length + AP.nbs l ∧ CV.plains m = true ∧ ∀ u : AV, w.pre u → CV.nrml m = AP.puts u l v.i.length v.b.length
  | [], m, v, w, h => by
    cases m <;> simp only [AP.gets] at h <;> try (cases h; done)
    cases h
    exact ⟨v.pre_refl, by simp [AP.nis], by simp [AP.nbs], rfl, fun _ _ => rfl⟩
  | p :: l, m, v, w, h => by
    cases m <;> simp only [AP.gets] at h <;> try (cases h; done)
    rename_i c m
    cases hc : p.get c v with
    | none => rw [hc] at h; cases h
    | some v1 =>
      rw [hc] at h
      obtain ⟨h1, h2, h3, h4, h5⟩ := AP.get_put hc
      obtain ⟨q1, q2, q3, q4, q5⟩ := AP.gets_puts (l := l) h
      refine ⟨AV.pre_trans h1 q1, by rw [q2, h2, AP.nis]; omega, by rw [q3, h3, AP.nbs]; omega, by simp [CV.plains, h4, q4], fun u hu => ?_⟩
      simp only [CV.nrml, AP.puts]
      rw [h5 u (AV.pre_trans q1 hu), q5 u hu, h2, h3]
end
section
variable {P : Program} {ρ : Env}
/-- Calls of a function are known from its automaton. -/
noncomputable def memoA {N R : Type} [Inhabited R] (g : Nat) (ps : List AP) (F : AV → AF N R) (inner : Memo) : Memo := fun f args s =>
  bif Nat.beq f g then
    match AP.gets ps args ⟨[], []⟩ with
    | some v => match s.must (.x (F v).fin) with
      | some s' => some ((F v).rc (F v).val, s', [], [])
      | none => none
    | none => inner f args s
  else inner f args s
theorem VR.plain' {σ τ : Mp} {c : CV} {v : Value} (h : VR ρ σ c v) (hp : c.plain = true) : VR ρ τ c v := h.plain hp
theorem VRl.plain' {σ τ : Mp} : ∀ {l : List CV} {vs : List Value}, VRl ρ σ l vs → CV.plains l = true → VRl ρ τ l vs
  | _, _, .nil, _ => .nil
  | _, _, .cons h t, hp => by
    simp only [CV.plains, Bool.and_eq_true] at hp
    exact .cons (h.plain hp.1) (VRl.plain' t hp.2)
/-- A function of integers and bools, from its automaton. -/
structure KnownA (P : Program) (ρ : Env) (g : Nat) (ps : List AP) {N R : Type} (F : AV → AF N R) : Prop where
  fn : ∃ fn, P.funcs[g]? = some fn ∧ fn.body.isSome = true
  args : ∀ v, (F v).args = AP.puts v ps 0 0
  plain : ∀ v r, ((F v).rc r).plain = true
  ctr : ∀ v n r, (F v).run n = some r → Ctr P ρ g (F v).args .nil 0 [] ((F v).rc r) .nil 0
theorem memoA_ok {N R : Type} [Inhabited R] {g : Nat} {ps : List AP} {F : AV → AF N R} {inner : Memo} (K : KnownA P ρ g ps F) (hi : MemoOk P (ctxOf P inner) ρ) : MemoOk P (ctxOf P (memoA g ps F inner)) ρ := by
  have lift : ∀ {f args s c s' R W}, CallOk P (ctxOf P inner) ρ f args s c s' R W → CallOk P (ctxOf P (memoA g ps F inner)) ρ f args s c s' R W := fun h => ⟨h.fn, h.frm, h.lt, h.run⟩
  intro f args s c s' R' W h0
  have h : memoA g ps F inner f args s = some (c, s', R', W) := h0
  clear h0
  unfold memoA at h
  cases hf : Nat.beq f g with
  | false => rw [hf, cond_false] at h; exact lift (hi _ _ _ _ _ _ _ h)
  | true =>
    rw [hf, cond_true] at h
    obtain rfl := Nat.eq_of_beq_eq_true hf
    split at h
    · rename_i v hv
      split at h
      · rename_i s1 hm
        cases h
        simp only [St.must] at hm
        cases hm
        obtain ⟨h1, h2, h3, h4, h5⟩ := AP.gets_puts hv
        refine Ctr.callOk (base := 0) (n1 := 0) (h0 := .nil) (h1 := .nil) (args := (F v).args) (c := (F v).rc (F v).val) (β := id) (fun hp => ?_) K.fn (Nat.le_refl _) rfl ⟨[_], rfl⟩ (fun b _ => rfl) (fun j hj => by omega) (fun i hi => by omega) (fun b hb => by cases hb) (fun i i' k k' hi => by omega) (fun i hi => by omega) (fun σ l hl => ?_) (fun σ σ2 v hl hv => hv.plain (K.plain _ _))
        · have hfin : (F v).fin = true := hp _ (List.mem_cons_self ..)
          obtain ⟨n, hn⟩ := AF.fin_run hfin
          exact K.ctr v n _ hn
        · rw [K.args, show AP.puts v ps 0 0 = CV.nrml args from (h5 v v.pre_refl).symm]
          exact (VRl.nrm args).1 (hl.plain' h4)
      · cases h
    · exact lift (hi _ _ _ _ _ _ _ h)
end
end Go.Proofs.Ytjdldcmcjaaibaa.Cx

/- CALLS WITH SLICES THAT ARE KNOWN FROM AUTOMATA: slices that are read alone are tables; what a call makes lies in new blocks. -/
namespace Go.Proofs.Ytjdldcmcjaaibaa.Cx
set_option linter.unusedSimpArgs false
set_option linter.unusedVariables false
open Go Go.RowKit
/-! ## Tables -/
/-- What a slice holds: how many rows, its columns. -/
structure Tab where
  n : Nat
  c : Nat → Nat → Int
  g : Nat → Nat → Bool
def Tab.none : Tab := ⟨0, fun _ _ => 0, fun _ _ => false⟩
structure AW where
  i : List Int
  b : List Bool
  t : List Tab
inductive AQ where
  | int (k : IntKind)
  | bool
  | agg (l : List AQ)
  | rows (ks : List (Option IntKind))
def CV.numD : CV → Int
  | .int _ e => match e.num with | some n => n | none => 0
  | _ => 0
def CV.bitD : CV → Bool
  | .bool e => match e.val with | some b => b | none => false
  | _ => false
/-- A row of a table. -/
def rowCs (c : Nat → Nat → Int) (g : Nat → Nat → Bool) (i : Nat) : List (Option IntKind) → Nat → List CV
  | [], _ => []
  | some k :: ks, j => .int k (.x (c j i)) :: rowCs c g i ks (j + 1)
  | none :: ks, j => .bool (.x (g j i)) :: rowCs c g i ks (j + 1)
theorem rowCs_ok (c : Nat → Nat → Int) (g : Nat → Nat → Bool) (i : Nat) : ∀ (ks : List (Option IntKind)) (j : Nat), (rowCs c g i ks j).length = ks.length ∧ (rowCs c g i ks j).all CV.flat = true
  | [], _ => ⟨rfl, rfl⟩
  | some k :: ks, j => ⟨congrArg Nat.succ (rowCs_ok c g i ks (j + 1)).1, (rowCs_ok c g i ks (j + 1)).2⟩
  | none :: ks, j => ⟨congrArg Nat.succ (rowCs_ok c g i ks (j + 1)).1, (rowCs_ok c g i ks (j + 1)).2⟩
theorem rowCs_plain (c : Nat → Nat → Int) (g : Nat → Nat → Bool) (i : Nat) : ∀ (ks : List (Option IntKind)) (j : Nat), CV.plains (rowCs c g i ks j) = true
  | [], _ => rfl
  | some k :: ks, j => by simpa [rowCs, CV.plains, CV.plain] using rowCs_plain c g i ks (j + 1)
  | none :: ks, j => by simpa [rowCs, CV.plains, CV.plain] using rowCs_plain c g i ks (j + 1)
def tabB (ks : List (Option IntKind)) (t : Tab) : Blk := ⟨.arg t.n ks.length (fun i => rowCs t.c t.g i ks 0) (fun i => rowCs_ok t.c t.g i ks 0), ks.length, true, none⟩
def tabOf (n : Nat) (row : Nat → List CV) : Tab := ⟨n, fun j i => ((row i).getD j .junk).numD, fun j i => ((row i).getD j .junk).bitD⟩
/-- Rows of integers and bools, of these kinds. -/
noncomputable def ShapeOk (ks : List (Option IntKind)) (t : Tab) (row : Nat → List CV) : Bool := @decide (∀ i, i < t.n → CV.nrml (row i) = rowCs t.c t.g i ks 0) (Classical.propDecidable _)
theorem shape_ok {ks : List (Option IntKind)} {t : Tab} {row : Nat → List CV} (h : ∀ i, i < t.n → CV.nrml (row i) = rowCs t.c t.g i ks 0) : ShapeOk ks t row = true := @decide_eq_true _ (Classical.propDecidable _) h
theorem shape_of {ks : List (Option IntKind)} {t : Tab} {row : Nat → List CV} (h : ShapeOk ks t row = true) : ∀ i, i < t.n → CV.nrml (row i) = rowCs t.c t.g i ks 0 := @of_decide_eq_true _ (Classical.propDecidable _) h
/-- Cells of these kinds, row by row; their columns as lists. -/
def chkRow : List (Option IntKind) → List CV → Bool
  | [], _ => true
  | some k :: ks, .int k' e :: l => decide (k = k') && (e.num.isSome && chkRow ks l)
  | none :: ks, .bool e :: l => e.val.isSome && chkRow ks l
  | _, _ => false
def chkL (ks : List (Option IntKind)) : Nat → List CV → Bool
  | 0, _ => true
  | n + 1, l => chkRow ks l && chkL ks n (l.drop ks.length)
def colI (z j : Nat) : Nat → List CV → List Int
  | 0, _ => []
  | n + 1, l => (l.getD j .junk).numD :: colI z j n (l.drop z)
def colB (z j : Nat) : Nat → List CV → List Bool
  | 0, _ => []
  | n + 1, l => (l.getD j .junk).bitD :: colB z j n (l.drop z)
def tabL (z n : Nat) (l : List CV) : Tab := ⟨n, fun j i => (colI z j n l).getD i 0, fun j i => (colB z j n l).getD i false⟩
theorem colI_get (z j : Nat) : ∀ (n : Nat) (l : List CV) (i : Nat), i < n → (colI z j n l).getD i 0 = ((l.drop (i * z)).getD j .junk).numD
  | 0, _, _, h => by omega
  | n + 1, l, 0, _ => by simp [colI]
  | n + 1, l, i + 1, h => by
    rw [colI, List.getD_cons_succ, colI_get z j n _ i (by omega), List.drop_drop, show z + i * z = (i + 1) * z by rw [Nat.succ_mul, Nat.add_comm]]
theorem colB_get (z j : Nat) : ∀ (n : Nat) (l : List CV) (i : Nat), i < n → (colB z j n l).getD i false = ((l.drop (i * z)).getD j .junk).bitD
  | 0, _, _, h => by omega
  | n + 1, l, 0, _ => by simp [colB]
  | n + 1, l, i + 1, h => by
    rw [colB, List.getD_cons_succ, colB_get z j n _ i (by omega), List.drop_drop, show z + i * z = (i + 1) * z by rw [Nat.succ_mul, Nat.add_comm]]
theorem chkL_get (ks : List (Option IntKind)) : ∀ (n : Nat) (l : List CV) (i : Nat), chkL ks n l = true → i < n → chkRow ks (l.drop (i * ks.length)) = true
  | 0, _, _, _, h => by omega
  | n + 1, l, 0, h, _ => by
    simp only [chkL, Bool.and_eq_true] at h
    simpa using h.1
  | n + 1, l, i + 1, h, hi => by
    simp only [chkL, Bool.and_eq_true] at h
    have := chkL_get ks n _ i h.2 (by omega)
    rwa [List.drop_drop, show ks.length + i * ks.length = (i + 1) * ks.length by rw [Nat.succ_mul, Nat.add_comm]] at this
theorem chkRow_ok (c : Nat → Nat → Int) (g : Nat → Nat → Bool) (i : Nat) : ∀ (ks : List (Option IntKind)) (l : List CV) (j0 : Nat), chkRow ks l = true → (∀ j, j < ks.length → c (j0 + j) i = (l.getD j .junk).numD ∧ g (j0 + j) i = (l.getD j .junk).bitD) → CV.nrml (l.take ks.length) = rowCs c g i ks j0
  | [], l, j0, _, _ => by simp [CV.nrml, rowCs]
  | some k :: ks, l, j0, h, hc => by
    cases l with
    | nil => simp [chkRow] at h
    | cons x l =>
      cases x <;> simp only [chkRow, Bool.false_eq_true] at h
      rename_i k' e
      simp only [Bool.and_eq_true, decide_eq_true_eq] at h
      obtain ⟨rfl, he, h⟩ := h
      have h0 := (hc 0 (by simp)).1
      simp only [Nat.add_zero, List.getD_cons_zero] at h0
      have ih := chkRow_ok c g i ks l (j0 + 1) h fun j hj => by
        have := hc (j + 1) (by simpa using hj)
        simp only [List.getD_cons_succ] at this
        rwa [show j0 + (j + 1) = j0 + 1 + j by omega] at this
      rw [List.length_cons, List.take_succ_cons, CV.nrml, rowCs, ih, h0]
      cases e <;> simp [IE.num] at he <;> rfl
  | none :: ks, l, j0, h, hc => by
    cases l with
    | nil => simp [chkRow] at h
    | cons x l =>
      cases x <;> simp only [chkRow, Bool.false_eq_true] at h
      rename_i e
      simp only [Bool.and_eq_true] at h
      obtain ⟨he, h⟩ := h
      have h0 := (hc 0 (by simp)).2
      simp only [Nat.add_zero, List.getD_cons_zero] at h0
      have ih := chkRow_ok c g i ks l (j0 + 1) h fun j hj => by
        have := hc (j + 1) (by simpa using hj)
        simp only [List.getD_cons_succ] at this
        rwa [show j0 + (j + 1) = j0 + 1 + j by omega] at this
      rw [List.length_cons, List.take_succ_cons, CV.nrml, rowCs, ih, h0]
      cases e <;> simp [BE.val] at he <;> rfl
theorem tabL_rows {ks : List (Option IntKind)} {n : Nat} {l : List CV} (h : chkL ks n l = true) : ∀ i, i < n → CV.nrml ((l.drop (i * ks.length)).take ks.length) = rowCs (tabL ks.length n l).c (tabL ks.length n l).g i ks 0 := fun i hi =>
  chkRow_ok _ _ i ks _ 0 (chkL_get ks n l i h hi) fun j _ => ⟨by rw [Nat.zero_add]; exact colI_get _ _ n l i hi, by rw [Nat.zero_add]; exact colB_get _ _ n l i hi⟩
/-- A slice's table, the facts that it rests on, the blocks that are read. -/
noncomputable def rowsOf (s : St) (ks : List (Option IntKind)) : CV → Option (Tab × List Bool × List Nat)
  | .slc none _ _ => some (.none, [], [])
  | .emp => some (.none, [], [])
  | .sla b z o n => match s.heap.get b with
    | some ⟨.rows m z' row _, e, true, _⟩ => bif Nat.beq z z' && Nat.beq z ks.length && Nat.beq e z && Nat.blt b s.next then some (tabOf n (fun i => row (o + i)), [decide (o + n ≤ m), ShapeOk ks (tabOf n (fun i => row (o + i))) (fun i => row (o + i))], [b]) else none
    | some ⟨.arg m z' row _, e, true, _⟩ => bif Nat.beq z z' && Nat.beq z ks.length && Nat.beq e z && Nat.blt b s.next then some (tabOf n (fun i => row (o + i)), [decide (o + n ≤ m), ShapeOk ks (tabOf n (fun i => row (o + i))) (fun i => row (o + i))], [b]) else none
    | _ => none
  | .slx b z o n c => match s.heap.get b with
    | some ⟨.rows m z' row _, e, true, _⟩ => bif Nat.beq z z' && Nat.beq z ks.length && Nat.beq e z && Nat.blt b s.next then some (tabOf n (fun i => row (o + i)), [decide (o + n ≤ m), ShapeOk ks (tabOf n (fun i => row (o + i))) (fun i => row (o + i)), decide (n ≤ c)], [b]) else none
    | _ => none
  | .slc (some (b, o)) n c => match s.heap.get b with
    | some ⟨.lit l, e, true, _⟩ => bif Nat.ble (o + n * ks.length) l.length && Nat.ble n c && Nat.blt b s.next && chkL ks n (l.drop o) then some (tabL ks.length n (l.drop o), [], [b]) else none
    | _ => none
  | _ => none
section
variable {P : Program} {ρ : Env}
theorem flatR_any {ks : List (Option IntKind)} {c : Nat → Nat → Int} {g : Nat → Nat → Bool} {row : Nat → List CV} {σ τ : Mp} : ∀ (n : Nat) {us : List Value}, (∀ i, i < n → CV.nrml (row i) = rowCs c g i ks 0) → VRl ρ σ (flatR row n) us → VRl ρ τ (flatR (fun i => rowCs c g i ks 0) n) us
  | 0, us, _, h => by cases h; exact .nil
  | n + 1, us, hs, h => by
    rw [flatR] at h
    obtain ⟨x, y, rfl, h1, h2⟩ := h.cut
    rw [flatR]
    refine (flatR_any n (fun i hi => hs i (by omega)) h1).append ?_
    rw [← hs n (by omega)]
    have h3 := (VRl.nrm (row n)).1 h2
    rw [hs n (by omega)] at h3 ⊢
    exact h3.plain' (rowCs_plain _ _ _ _ _)
theorem lit_flat {l : List CV} {z o : Nat} : ∀ (n : Nat), o + n * z ≤ l.length → flatR (fun i => (l.drop (o + i * z)).take z) n = (l.drop o).take (n * z)
  | 0, _ => by simp [flatR]
  | n + 1, h => by
    have hm : (n + 1) * z = n * z + z := Nat.succ_mul n z
    rw [flatR, lit_flat n (by omega), hm, List.take_add, List.drop_drop]
/-- Where a slice's rows lie. -/
def subLoc (σ : Mp) (b d z : Nat) : Option Loc := (σ b).map fun l => ⟨l.blk, l.base + d, l.size, z⟩
theorem rowsOf_ok2 {s : St} {ks : List (Option IntKind)} {c : CV} {t : Tab} {sh : List Bool} {R : List Nat} (h : rowsOf s ks c = some (t, sh, R)) (hsh : ∀ b ∈ sh, b = true) {σ : Mp} {cur : Cur} {w : World} (hH : HR ρ σ cur w) (hcur : ∀ b ∈ R, cur b = s.heap.get b) {v : Value} (hv : VR ρ σ c v) :
    (∀ b ∈ R, b < s.next) ∧ ∃ lo : Option Loc, ArgAt ρ w (tabB ks t) lo ∧ (∀ (q : Nat) (τ : Mp), τ q = lo → VR ρ τ (.sla q ks.length 0 t.n) v) ∧ ∀ b z o n, c = .sla b z o n → ∀ l', lo = some l' → ∃ l, σ b = some l ∧ l'.blk = l.blk ∧ l'.base = l.base + o * z := by
  have hnone : ∀ t, ArgAt ρ w (tabB ks t) none := fun t => ⟨rfl, rfl, rfl, fun l hl => by cases hl⟩
  -- what lies in a block of rows
  have key : ∀ {b m z o n e : Nat} {row : Nat → List CV} {body : BC} {x : Option BX}, s.heap.get b = some ⟨body, e, true, x⟩ → body.list = flatR row m → (∀ j, (row j).length = z) → z = ks.length → e = z → o + n ≤ m → ShapeOk ks (tabOf n (fun i => row (o + i))) (fun i => row (o + i)) = true → cur b = s.heap.get b → ∀ {l : Loc}, σ b = some l →
      ArgAt ρ w (tabB ks (tabOf n (fun i => row (o + i)))) (some ⟨l.blk, l.base + o * z, l.size, z⟩) := by
    intro b m z o n e row body x hk hbody hrow hz he hon hS hc l hl
    refine ⟨rfl, rfl, rfl, fun l' hl' => ?_⟩
    cases hl'
    obtain ⟨cs, ty, p, q1, _, q2, q3, q4, q5⟩ := hH.cell b _ l (hc.trans hk) rfl hl
    have e1 : Blk.cells ⟨body, e, true, x⟩ = flatR row m := hbody
    have e2 : Blk.cells (tabB ks (tabOf n (fun i => row (o + i)))) = flatR (fun i => rowCs (tabOf n (fun i => row (o + i))).c (tabOf n (fun i => row (o + i))).g i ks 0) n := rfl
    have l1 := flatR_length hrow m
    have l2 : (flatR (fun i => rowCs (tabOf n (fun i => row (o + i))).c (tabOf n (fun i => row (o + i))).g i ks 0) n).length = n * ks.length := flatR_length (fun j => (rowCs_ok _ _ _ _ _).1) n
    rw [e1, l1] at q4 q5
    have hmz : o * z + n * z ≤ m * z := by rw [← Nat.add_mul]; exact Nat.mul_le_mul_right _ hon
    refine ⟨cs, ty, p, q1, q2, hz.symm, ?_, fun τ => ?_⟩
    · rw [e2, l2, ← hz]; show l.base + o * z + n * z ≤ l.size; omega
    · rw [e2, l2, ← hz]
      have h5 := (q5.drop (o * z)).take (n * z)
      rw [flatR_part hrow o n m hon, List.drop_take, List.take_take, List.drop_drop] at h5
      have h6 := flatR_any (τ := τ) n (shape_of hS) h5
      have e3 : min (n * z) (m * z - o * z) = n * z := by omega
      rw [e3] at h6
      exact h6
  cases c with
  | slc a n c =>
    cases a with
    | none =>
      simp only [rowsOf] at h
      cases h
      refine ⟨fun b hb => (by cases hb), none, hnone _, fun q τ hτ => ?_, fun _ _ _ _ h => by cases h⟩
      cases hv
      exact .sla0 _ _
    | some bo =>
      obtain ⟨b, o⟩ := bo
      simp only [rowsOf] at h
      split at h
      · rename_i l e x hk
        cases hb : (Nat.ble (o + n * ks.length) l.length && Nat.ble n c && Nat.blt b s.next && chkL ks n (l.drop o)) with
        | false => rw [hb] at h; cases h
        | true =>
          rw [hb, cond_true] at h
          cases h
          simp only [Bool.and_eq_true] at hb
          obtain ⟨⟨⟨b3, b4⟩, b5⟩, b6⟩ := hb
          have b3 := Nat.le_of_ble_eq_true b3
          have b4 := Nat.le_of_ble_eq_true b4
          have hS := tabL_rows b6
          cases hv with
          | @slc _ _ _ _ c' l' hl hc hs =>
            refine ⟨fun x hx => by obtain rfl := List.mem_singleton.1 hx; exact blt_lt b5, some ⟨l'.blk, l'.base + o, l'.size, ks.length⟩, ⟨rfl, rfl, rfl, fun l2 hl2 => ?_⟩, fun q τ hτ => ?_, fun _ _ _ _ h => by cases h⟩
            · cases hl2
              obtain ⟨cs, ty, p, q1, _, q2, q3, q4, q5⟩ := hH.cell b _ l' ((hcur b (List.mem_singleton_self _)).trans hk) rfl hl
              have e1 : Blk.cells ⟨.lit l, e, true, x⟩ = l := rfl
              rw [e1] at q4 q5
              have l2 : (flatR (fun i => rowCs (tabL ks.length n (l.drop o)).c (tabL ks.length n (l.drop o)).g i ks 0) n).length = n * ks.length := flatR_length (fun j => (rowCs_ok _ _ _ _ _).1) n
              refine ⟨cs, ty, p, q1, q2, rfl, ?_, fun τ => ?_⟩
              · show l'.base + o + (flatR _ n).length ≤ l'.size
                rw [l2]; omega
              · show VRl ρ τ (flatR _ n) ((cs.toList.drop (l'.base + o)).take (flatR _ n).length)
                rw [l2]
                have h5 := (q5.drop o).take (n * ks.length)
                rw [← lit_flat n b3, List.drop_take, List.take_take, List.drop_drop] at h5
                have h6 := flatR_any (τ := τ) n (fun i hi => by rw [← List.drop_drop]; exact hS i hi) h5
                have e3 : min (n * ks.length) (l.length - o) = n * ks.length := by omega
                rw [e3] at h6
                exact h6
            · have := VR.sla (ρ := ρ) (σ := τ) (b := q) (z := ks.length) (o := 0) (n := n) (c' := c') hτ (Nat.le_trans b4 hc)
              rw [Nat.zero_mul, Nat.add_zero] at this; exact this
      · cases h
  | emp =>
    simp only [rowsOf] at h
    cases h
    refine ⟨fun b hb => (by cases hb), none, hnone _, fun q τ hτ => ?_, fun _ _ _ _ h => by cases h⟩
    cases hv
    exact .sla0 _ _
  | sla b z o n =>
    simp only [rowsOf] at h
    split at h
    · rename_i m z' row hrow e x hk
      cases hb : (Nat.beq z z' && Nat.beq z ks.length && Nat.beq e z && Nat.blt b s.next) with
      | false => rw [hb] at h; cases h
      | true =>
        rw [hb, cond_true] at h
        cases h
        simp only [Bool.and_eq_true] at hb
        obtain ⟨⟨⟨b1, b2⟩, b3⟩, b4⟩ := hb
        have b1 := Nat.eq_of_beq_eq_true b1
        have b2 := Nat.eq_of_beq_eq_true b2
        have b3 := Nat.eq_of_beq_eq_true b3
        have hon := of_decide_eq_true (hsh _ (List.mem_cons_self ..))
        have hS := hsh _ (List.mem_cons_of_mem _ (List.mem_cons_self ..))
        refine ⟨fun x hx => by obtain rfl := List.mem_singleton.1 hx; exact blt_lt b4, ?_⟩
        cases hv with
        | @sla _ _ _ _ c' l hl hc =>
          refine ⟨_, key hk rfl (fun j => (hrow j).1.trans b1.symm) b2 b3 hon hS (hcur b (List.mem_singleton_self _)) hl, fun q τ hτ => ?_, fun b' z' o' n' h l' hl' => by cases h; cases hl'; exact ⟨l, hl, rfl, rfl⟩⟩
          rw [← b2]
          have := VR.sla (ρ := ρ) (σ := τ) (b := q) (z := z) (o := 0) (n := n) (c' := c') hτ hc
          rw [Nat.zero_mul, Nat.add_zero] at this; exact this
        | sla0 a c' => exact ⟨none, hnone _, fun q τ hτ => .sla0 _ _, fun _ _ _ _ _ l' h => by cases h⟩
    · rename_i m z' row hrow e x hk
      cases hb : (Nat.beq z z' && Nat.beq z ks.length && Nat.beq e z && Nat.blt b s.next) with
      | false => rw [hb] at h; cases h
      | true =>
        rw [hb, cond_true] at h
        cases h
        simp only [Bool.and_eq_true] at hb
        obtain ⟨⟨⟨b1, b2⟩, b3⟩, b4⟩ := hb
        have b1 := Nat.eq_of_beq_eq_true b1
        have b2 := Nat.eq_of_beq_eq_true b2
        have b3 := Nat.eq_of_beq_eq_true b3
        have hon := of_decide_eq_true (hsh _ (List.mem_cons_self ..))
        have hS := hsh _ (List.mem_cons_of_mem _ (List.mem_cons_self ..))
        refine ⟨fun x hx => by obtain rfl := List.mem_singleton.1 hx; exact blt_lt b4, ?_⟩
        cases hv with
        | @sla _ _ _ _ c' l hl hc =>
          refine ⟨_, key hk rfl (fun j => (hrow j).1.trans b1.symm) b2 b3 hon hS (hcur b (List.mem_singleton_self _)) hl, fun q τ hτ => ?_, fun b' z' o' n' h l' hl' => by cases h; cases hl'; exact ⟨l, hl, rfl, rfl⟩⟩
          rw [← b2]
          have := VR.sla (ρ := ρ) (σ := τ) (b := q) (z := z) (o := 0) (n := n) (c' := c') hτ hc
          rw [Nat.zero_mul, Nat.add_zero] at this; exact this
        | sla0 a c' => exact ⟨none, hnone _, fun q τ hτ => .sla0 _ _, fun _ _ _ _ _ l' h => by cases h⟩
    · cases h
  | slx b z o n c =>
    simp only [rowsOf] at h
    split at h
    · rename_i m z' row hrow e x hk
      cases hb : (Nat.beq z z' && Nat.beq z ks.length && Nat.beq e z && Nat.blt b s.next) with
      | false => rw [hb] at h; cases h
      | true =>
        rw [hb, cond_true] at h
        cases h
        simp only [Bool.and_eq_true] at hb
        obtain ⟨⟨⟨b1, b2⟩, b3⟩, b4⟩ := hb
        have b1 := Nat.eq_of_beq_eq_true b1
        have b2 := Nat.eq_of_beq_eq_true b2
        have b3 := Nat.eq_of_beq_eq_true b3
        have hon := of_decide_eq_true (hsh _ (List.mem_cons_self ..))
        have hS := hsh _ (List.mem_cons_of_mem _ (List.mem_cons_self ..))
        have hnc := of_decide_eq_true (hsh _ (List.mem_cons_of_mem _ (List.mem_cons_of_mem _ (List.mem_cons_self ..))))
        refine ⟨fun x hx => by obtain rfl := List.mem_singleton.1 hx; exact blt_lt b4, ?_⟩
        have hv := hv.slx_sla hnc
        cases hv with
        | @sla _ _ _ _ c' l hl hc =>
          refine ⟨_, key hk rfl (fun j => (hrow j).1.trans b1.symm) b2 b3 hon hS (hcur b (List.mem_singleton_self _)) hl, fun q τ hτ => ?_, fun _ _ _ _ h => by cases h⟩
          rw [← b2]
          have := VR.sla (ρ := ρ) (σ := τ) (b := q) (z := z) (o := 0) (n := n) (c' := c') hτ hc
          rw [Nat.zero_mul, Nat.add_zero] at this; exact this
        | sla0 a c' => exact ⟨none, hnone _, fun q τ hτ => .sla0 _ _, fun _ _ _ _ h => by cases h⟩
    · cases h
  | _ => simp [rowsOf] at h
theorem rowsOf_ok {s : St} {ks : List (Option IntKind)} {c : CV} {t : Tab} {sh : List Bool} {R : List Nat} (h : rowsOf s ks c = some (t, sh, R)) (hsh : ∀ b ∈ sh, b = true) {σ : Mp} {cur : Cur} {w : World} (hH : HR ρ σ cur w) (hcur : ∀ b ∈ R, cur b = s.heap.get b) {v : Value} (hv : VR ρ σ c v) :
    (∀ b ∈ R, b < s.next) ∧ ∃ lo : Option Loc, ArgAt ρ w (tabB ks t) lo ∧ ∀ (q : Nat) (τ : Mp), τ q = lo → VR ρ τ (.sla q ks.length 0 t.n) v := by
  obtain ⟨a, lo, q1, q2, _⟩ := rowsOf_ok2 h hsh hH hcur hv
  exact ⟨a, lo, q1, q2⟩
end
/-! ## Arguments -/
structure AG where
  v : AW
  sh : List Bool
  R : List Nat
mutual
noncomputable def AQ.get (s : St) : AQ → CV → AG → Option AG
  | .int k, .int k' e, g => bif decide (k = k') then (match e.num with | some n => some ⟨⟨g.v.i ++ [n], g.v.b, g.v.t⟩, g.sh, g.R⟩ | none => none) else none
  | .bool, .bool e, g => match e.val with | some b => some ⟨⟨g.v.i, g.v.b ++ [b], g.v.t⟩, g.sh, g.R⟩ | none => none
  | .agg l, .agg m, g => AQ.gets s l m g
  | .rows ks, c, g => match rowsOf s ks c with | some (t, sh, R) => some ⟨⟨g.v.i, g.v.b, g.v.t ++ [t]⟩, g.sh ++ sh, g.R ++ R⟩ | none => none
  | _, _, _ => none
noncomputable def AQ.gets (s : St) : List AQ → List CV → AG → Option AG
  | [], [], g => some g
  | p :: l, c :: m, g => match AQ.get s p c g with | some g => AQ.gets s l m g | none => none
  | _, _, _ => none
end
mutual
def AQ.ni : AQ → Nat
  | .int _ => 1
  | .bool => 0
  | .agg l => AQ.nis l
  | .rows _ => 0
def AQ.nis : List AQ → Nat
  | [] => 0
  | p :: l => p.ni + AQ.nis l
end
mutual
def AQ.nb : AQ → Nat
  | .int _ => 0
  | .bool => 1
  | .agg l => AQ.nbs l
  | .rows _ => 0
def AQ.nbs : List AQ → Nat
  | [] => 0
  | p :: l => p.nb + AQ.nbs l
end
mutual
/-- The kinds of rows of its slices. -/
def AQ.kss : AQ → List (List (Option IntKind))
  | .int _ => []
  | .bool => []
  | .agg l => AQ.ksss l
  | .rows ks => [ks]
def AQ.ksss : List AQ → List (List (Option IntKind))
  | [] => []
  | p :: l => p.kss ++ AQ.ksss l
end
mutual
def AQ.put (v : AW) : AQ → Nat → Nat → Nat → CV
  | .int k, i, _, _ => .int k (.x (v.i.getD i 0))
  | .bool, _, j, _ => .bool (.x (v.b.getD j false))
  | .agg l, i, j, q => .agg (AQ.puts v l i j q)
  | .rows ks, _, _, q => .sla q ks.length 0 (v.t.getD q .none).n
def AQ.puts (v : AW) : List AQ → Nat → Nat → Nat → List CV
  | [], _, _, _ => []
  | p :: l, i, j, q => p.put v i j q :: AQ.puts v l (i + p.ni) (j + p.nb) (q + p.kss.length)
end
/-- The blocks in which the slices lie. -/
def AQ.hp (v : AW) : List (List (Option IntKind)) → Nat → List (Nat × Blk)
  | [], _ => []
  | ks :: l, q => (q, tabB ks (v.t.getD q .none)) :: AQ.hp v l (q + 1)
def AW.pre (v w : AW) : Prop := (∃ l, w.i = v.i ++ l) ∧ (∃ l, w.b = v.b ++ l) ∧ ∃ l, w.t = v.t ++ l
theorem AW.pre_refl (v : AW) : v.pre v := ⟨⟨[], by simp⟩, ⟨[], by simp⟩, ⟨[], by simp⟩⟩
theorem AW.pre_trans {u v w : AW} (h : u.pre v) (h' : v.pre w) : u.pre w := by
  obtain ⟨⟨l, e⟩, ⟨m, f⟩, n, g⟩ := h
  obtain ⟨⟨l', e'⟩, ⟨m', f'⟩, n', g'⟩ := h'
  exact ⟨⟨l ++ l', by rw [e', e, List.append_assoc]⟩, ⟨m ++ m', by rw [f', f, List.append_assoc]⟩, ⟨n ++ n', by rw [g', g, List.append_assoc]⟩⟩
theorem rowsOf_lt {s : St} {ks : List (Option IntKind)} {c : CV} {t : Tab} {sh : List Bool} {R : List Nat} (h : rowsOf s ks c = some (t, sh, R)) : ∀ b ∈ R, b < s.next := by
  unfold rowsOf at h
  split at h
  · cases h; intro b hb; cases hb
  · cases h; intro b hb; cases hb
  · split at h
    · rename_i b z o n _ m z' row hr e x hk
      cases hb : (Nat.beq z z' && Nat.beq z ks.length && Nat.beq e z && Nat.blt b s.next) with
      | false => rw [hb] at h; cases h
      | true =>
        rw [hb, cond_true] at h
        cases h
        simp only [Bool.and_eq_true] at hb
        intro x hx
        obtain rfl := List.mem_singleton.1 hx
        exact blt_lt hb.2
    · rename_i b z o n _ m z' row hr e x hk
      cases hb : (Nat.beq z z' && Nat.beq z ks.length && Nat.beq e z && Nat.blt b s.next) with
      | false => rw [hb] at h; cases h
      | true =>
        rw [hb, cond_true] at h
        cases h
        simp only [Bool.and_eq_true] at hb
        intro x hx
        obtain rfl := List.mem_singleton.1 hx
        exact blt_lt hb.2
    · cases h
  · split at h
    · rename_i b z o n c _ m z' row hr e x hk
      cases hb : (Nat.beq z z' && Nat.beq z ks.length && Nat.beq e z && Nat.blt b s.next) with
      | false => rw [hb] at h; cases h
      | true =>
        rw [hb, cond_true] at h
        cases h
        simp only [Bool.and_eq_true] at hb
        intro x hx
        obtain rfl := List.mem_singleton.1 hx
        exact blt_lt hb.2
    · cases h
  · split at h
    · rename_i b o n c _ l e x hk
      cases hb : (Nat.ble (o + n * ks.length) l.length && Nat.ble n c && Nat.blt b s.next && chkL ks n (l.drop o)) with
      | false => rw [hb] at h; cases h
      | true =>
        rw [hb, cond_true] at h
        cases h
        simp only [Bool.and_eq_true] at hb
        intro x hx
        obtain rfl := List.mem_singleton.1 hx
        exact blt_lt hb.1.2
    · cases h
  · cases h
/-- What is there of an argument. -/
structure AGet (ρ : Env) (s : St) (nis nbs : Nat) (kss : List (List (Option IntKind))) (g g' : AG) {V : Type} (rel0 : Mp → V → Prop) (rel1 : AW → Mp → V → Prop) : Prop where
  pre : g.v.pre g'.v
  li : g'.v.i.length = g.v.i.length + nis
  lb : g'.v.b.length = g.v.b.length + nbs
  lt : g'.v.t.length = g.v.t.length + kss.length
  sh : ∃ l, g'.sh = g.sh ++ l
  R : ∃ l, g'.R = g.R ++ l
  le : (∀ b ∈ g.R, b < s.next) → ∀ b ∈ g'.R, b < s.next
  ok : ∀ (σ : Mp) (cur : Cur) (w : World) (v : V), rel0 σ v → (∀ b ∈ g'.sh, b = true) → HR ρ σ cur w → (∀ b ∈ g'.R, cur b = s.heap.get b) →
    ∃ los : List (Option Loc), los.length = kss.length ∧ (∀ (u : AW) j ks lo, g'.v.pre u → kss[j]? = some ks → los[j]? = some lo → ArgAt ρ w (tabB ks (u.t.getD (g.v.t.length + j) .none)) lo) ∧
      ∀ (u : AW) (τ : Mp), g'.v.pre u → (∀ j lo, los[j]? = some lo → τ (g.v.t.length + j) = lo) → rel1 u τ v
theorem getD_pre_end {α : Type} {l : List α} {d x : α} {m u : List α} (h : u = l ++ [x] ++ m) : u.getD l.length d = x := by rw [h]; exact getD_end
section
variable {P : Program} {ρ : Env} {s : St}
mutual
theorem AQ.get_ok : ∀ {p : AQ} {c : CV} {g g' : AG}, AQ.get s p c g = some g' → AGet ρ s p.ni p.nb p.kss g g' (fun σ v => VR ρ σ c v) (fun u τ v => VR ρ τ (AQ.put u p g.v.i.length g.v.b.length g.v.t.length) v)
  | .int k, c, g, g', h => by
    cases c <;> simp only [AQ.get] at h <;> try (cases h; done)
    rename_i k' e
    cases hk : decide (k = k') with
    | false => rw [hk] at h; cases h
    | true =>
      rw [hk, cond_true] at h
      obtain rfl := of_decide_eq_true hk
      cases e <;> simp only [IE.num] at h <;> try (cases h; done)
      all_goals
        cases h
        refine ⟨⟨⟨_, rfl⟩, ⟨[], by simp⟩, ⟨[], by simp⟩⟩, by simp [AQ.ni], by simp [AQ.nb], by simp [AQ.kss], ⟨[], by simp⟩, ⟨[], by simp⟩, fun h => h, fun σ cur w v hv _ _ _ => ⟨[], rfl, fun u j ks lo _ hj => by simp [AQ.kss] at hj, fun u τ hu _ => ?_⟩⟩
        obtain ⟨⟨l, e⟩, _⟩ := hu
        simp only [AQ.put, getD_pre_end e]
        cases hv
        first | exact .int k (.x _)
  | .bool, c, g, g', h => by
    cases c <;> simp only [AQ.get] at h <;> try (cases h; done)
    rename_i e
    cases e <;> simp only [BE.val] at h <;> try (cases h; done)
    all_goals
      cases h
      refine ⟨⟨⟨[], by simp⟩, ⟨_, rfl⟩, ⟨[], by simp⟩⟩, by simp [AQ.ni], by simp [AQ.nb], by simp [AQ.kss], ⟨[], by simp⟩, ⟨[], by simp⟩, fun h => h, fun σ cur w v hv _ _ _ => ⟨[], rfl, fun u j ks lo _ hj => by simp [AQ.kss] at hj, fun u τ hu _ => ?_⟩⟩
      obtain ⟨_, ⟨l, e⟩, _⟩ := hu
      simp only [AQ.put, getD_pre_end e]
      cases hv
      first | exact .bool (.x _)
  | .agg l, c, g, g', h => by
    cases c <;> simp only [AQ.get] at h <;> try (cases h; done)
    have k := AQ.gets_ok h
    refine ⟨k.pre, k.li, k.lb, k.lt, k.sh, k.R, k.le, fun σ cur w v hv h1 h2 h3 => ?_⟩
    obtain ⟨cs, rfl, hl⟩ := VR.agg_inv hv
    obtain ⟨los, q1, q2, q3⟩ := k.ok σ cur w _ hl h1 h2 h3
    exact ⟨los, q1, q2, fun u τ hu hτ => .agg (q3 u τ hu hτ)⟩
  | .rows ks, c, g, g', h => by
    simp only [AQ.get] at h
    split at h
    · rename_i t sh R hr
      cases h
      refine ⟨⟨⟨[], by simp⟩, ⟨[], by simp⟩, ⟨_, rfl⟩⟩, by simp [AQ.ni], by simp [AQ.nb], by simp [AQ.kss], ⟨_, rfl⟩, ⟨_, rfl⟩, fun h b hb => ?_, fun σ cur w v hv h1 h2 h3 => ?_⟩
      · rcases List.mem_append.1 hb with hb | hb
        · exact h b hb
        · exact rowsOf_lt hr b hb
      · obtain ⟨_, lo, q1, q2⟩ := rowsOf_ok hr (fun b hb => h1 b (List.mem_append_right _ hb)) h2 (fun b hb => h3 b (List.mem_append_right _ hb)) hv
        refine ⟨[lo], rfl, fun u j ks' lo' hu hj hlo => ?_, fun u τ hu hτ => ?_⟩
        · cases j with
          | zero =>
            simp only [AQ.kss, List.getElem?_cons_zero, Option.some.injEq] at hj hlo
            subst hj hlo
            obtain ⟨_, _, m, e⟩ := hu
            rw [Nat.add_zero, getD_pre_end e]
            exact q1
          | succ j => simp [AQ.kss] at hj
        · obtain ⟨_, _, m, e⟩ := hu
          simp only [AQ.put, getD_pre_end e]
          exact q2 _ τ (hτ 0 lo rfl)
    · cases h
theorem AQ.gets_ok : ∀ {l : List AQ} {m : List CV} {g g' : AG}, AQ.gets s l m g = some g' → AGet ρ s (AQ.nis l) (AQ.nbs l) (AQ.ksss l) g g' (fun σ v => VRl ρ σ m v) (fun u τ v => VRl ρ τ (AQ.puts u l g.v.i.length g.v.b.length g.v.t.length) v)
  | [], m, g, g', h => by
    cases m <;> simp only [AQ.gets] at h <;> try (cases h; done)
    cases h
    exact ⟨g.v.pre_refl, by simp [AQ.nis], by simp [AQ.nbs], by simp [AQ.ksss], ⟨[], by simp⟩, ⟨[], by simp⟩, fun h => h, fun σ cur w v hv _ _ _ => ⟨[], rfl, fun u j ks lo _ hj => by simp [AQ.ksss] at hj, fun u τ _ _ => by cases hv; exact .nil⟩⟩
  | p :: l, m, g, g', h => by
    cases m <;> simp only [AQ.gets] at h <;> try (cases h; done)
    rename_i c m
    cases hc : AQ.get s p c g with
    | none => rw [hc] at h; cases h
    | some g1 =>
      rw [hc] at h
      have k1 := AQ.get_ok hc
      have k2 := AQ.gets_ok (l := l) h
      obtain ⟨s1, e1⟩ := k1.sh
      obtain ⟨s2, e2⟩ := k2.sh
      obtain ⟨r1, f1⟩ := k1.R
      obtain ⟨r2, f2⟩ := k2.R
      refine ⟨AW.pre_trans k1.pre k2.pre, by rw [k2.li, k1.li, AQ.nis]; omega, by rw [k2.lb, k1.lb, AQ.nbs]; omega, by rw [k2.lt, k1.lt, AQ.ksss, List.length_append]; omega, ⟨s1 ++ s2, by rw [e2, e1, List.append_assoc]⟩, ⟨r1 ++ r2, by rw [f2, f1, List.append_assoc]⟩, fun h => k2.le (k1.le h), fun σ cur w v hv h1 h2 h3 => ?_⟩
      cases hv with
      | cons hv1 hvl =>
        obtain ⟨lo1, a1, a2, a3⟩ := k1.ok σ cur w _ hv1 (fun b hb => h1 b (by rw [e2]; exact List.mem_append_left _ hb)) h2 (fun b hb => h3 b (by rw [f2]; exact List.mem_append_left _ hb))
        obtain ⟨lo2, b1, b2, b3⟩ := k2.ok σ cur w _ hvl h1 h2 h3
        refine ⟨lo1 ++ lo2, by rw [List.length_append, a1, b1, AQ.ksss, List.length_append], fun u j ks lo hu hj hlo => ?_, fun u τ hu hτ => ?_⟩
        · rw [AQ.ksss] at hj
          by_cases hlt : j < p.kss.length
          · rw [List.getElem?_append_left hlt] at hj
            rw [List.getElem?_append_left (by omega)] at hlo
            exact a2 u j ks lo (AW.pre_trans k2.pre hu) hj hlo
          · rw [List.getElem?_append_right (by omega)] at hj hlo
            rw [a1] at hlo
            have := b2 u (j - p.kss.length) ks lo hu hj hlo
            rw [k1.lt] at this
            rwa [show g.v.t.length + j = g.v.t.length + p.kss.length + (j - p.kss.length) by omega]
        · simp only [AQ.puts]
          refine .cons (a3 u τ (AW.pre_trans k2.pre hu) fun j lo hj => hτ j lo (by
            rw [List.getElem?_append_left]; exact hj
            exact (List.getElem?_eq_some_iff.1 hj).1)) ?_
          have := b3 u τ hu fun j lo hj => by
            have := hτ (p.kss.length + j) lo (by rw [List.getElem?_append_right (by omega), a1, show p.kss.length + j - p.kss.length = j by omega]; exact hj)
            rw [k1.lt]
            rwa [show g.v.t.length + p.kss.length + j = g.v.t.length + (p.kss.length + j) by omega]
          rw [k1.li, k1.lb, k1.lt] at this
          exact this
end
end
/-! ## What a call makes, in the caller's memory -/
def liftName (base next b : Nat) : Nat := next + (b - base)
mutual
/-- All blocks that a value names are new ones. -/
def CV.rng (base n : Nat) : CV → Bool
  | .ptr (some (b, _)) | .slc (some (b, _)) _ _ | .slx b _ _ _ _ | .sla b _ _ _ | .ptx b _ _ _ | .map b => Nat.ble base b && Nat.blt b n
  | .agg l | .tup l => CV.rngl base n l
  | .slr _ _ _ _ | .yld _ => false
  | .fn _ l m => CV.rngl base n l && CV.rngl base n m
  | _ => true
def CV.rngl (base n : Nat) : List CV → Bool
  | [] => true
  | c :: l => c.rng base n && CV.rngl base n l
end
def BC.Rg (base n : Nat) : BC → Prop
  | .lit l => CV.rngl base n l = true
  | .rows _ _ row _ => ∀ j, CV.rngl base n (row j) = true
  | .arg _ _ row _ => ∀ j, CV.rngl base n (row j) = true
section
variable {P : Program} {ρ : Env} {base n next : Nat} {σ τ : Mp}
def LiftN (base n next : Nat) (σ τ : Mp) : Prop := ∀ j, base + j < n → ∀ l, σ (base + j) = some l → τ (next + j) = some l
theorem LiftN.at' (h : LiftN base n next σ τ) {b : Nat} {l : Loc} (hb : (Nat.ble base b && Nat.blt b n) = true) (hl : σ b = some l) : τ (liftName base next b) = some l := by
  simp only [Bool.and_eq_true] at hb
  have h1 := Nat.le_of_ble_eq_true hb.1
  have h2 := blt_lt hb.2
  have := h (b - base) (by omega) l (by rw [show base + (b - base) = b by omega]; exact hl)
  exact this
mutual
theorem VR.lift (hl : LiftN base n next σ τ) : ∀ {c : CV} {v : Value}, VR ρ σ c v → c.rng base n = true → VR ρ τ (c.ren (liftName base next)) v
  | _, _, .bool b, _ => .bool b
  | _, _, .int k e, _ => .int k e
  | _, _, .raw v, _ => .raw v
  | _, _, .ptr0, _ => .ptr0
  | _, _, .ptr h, hr => .ptr (hl.at' hr h)
  | _, _, .slc0, _ => .slc0
  | _, _, .slc h h2 h3, hr => .slc (hl.at' hr h) h2 h3
  | .slx b z o k c, _, .slx h, hr => .slx (VR.lift hl (c := .slc (some (b, o * z)) k c) h hr)
  | _, _, .sla h hc, hr => .sla (hl.at' hr h) hc
  | _, _, .sla0 a c, _ => .sla0 a c
  | _, _, .sln a c h, _ => .sln a c h
  | _, _, .slr .., hr => by simp [CV.rng] at hr
  | .ptx b z j f, _, .ptx h, hr => .ptx (VR.lift hl (c := .ptr (some (b, j * z + f))) h hr)
  | _, _, .junk h, _ => .junk h
  | _, _, .any v, _ => .any v
  | _, _, .emp a c, _ => .emp a c
  | _, _, .fn f ha hb, hr => by
    simp only [CV.rng, Bool.and_eq_true] at hr
    exact .fn f (VRl.lift hl ha hr.1) (VRl.lift hl hb hr.2)
  | _, _, .agg h, hr => .agg (VRl.lift hl h hr)
  | _, _, .tup h, hr => .tup (VRl.lift hl h hr)
  | _, _, .yld h, hr => by simp [CV.rng] at hr
  | _, _, .map h, hr => .map (hl.at' hr h)
theorem VRl.lift (hl : LiftN base n next σ τ) : ∀ {l : List CV} {vs : List Value}, VRl ρ σ l vs → CV.rngl base n l = true → VRl ρ τ (CV.renl (liftName base next) l) vs
  | _, _, .nil, _ => .nil
  | _, _, .cons h t, hr => by
    simp only [CV.rngl, Bool.and_eq_true] at hr
    exact .cons (VR.lift hl h hr.1) (VRl.lift hl t hr.2)
end
theorem Blk.lift (hl : LiftN base n next σ τ) {k : Blk} (hr : k.body.Rg base n) {us : List Value} (h : VRl ρ σ k.cells us) : VRl ρ τ (k.ren (liftName base next)).cells us := by
  obtain ⟨b, e, v, x⟩ := k
  have rows : ∀ (row : Nat → List CV), (∀ j, CV.rngl base n (row j) = true) → ∀ m us, VRl ρ σ (flatR row m) us → VRl ρ τ (flatR (fun j => CV.renl (liftName base next) (row j)) m) us := by
    intro row hrow m
    induction m with
    | zero => intro us h; cases h; exact .nil
    | succ m ih =>
      intro us h
      rw [flatR] at h
      obtain ⟨x, y, rfl, h1, h2⟩ := h.cut
      rw [flatR]
      exact (ih _ h1).append (VRl.lift hl h2 (hrow m))
  cases b with
  | lit l => exact VRl.lift hl h hr
  | rows m z row hrow => exact rows row hr m us h
  | arg m z row hrow => exact rows row hr m us h
noncomputable def putNew (base next : Nat) (h : Tr Blk) : List (Nat × Blk) → Tr Blk
  | [] => h
  | (b, k) :: l => (putNew base next h l).set (liftName base next b) (k.ren (liftName base next))
theorem get_putNew (h : Tr Blk) (t : Nat) : ∀ (l : List (Nat × Blk)), (putNew base next h l).get t = match l.find? (fun x => liftName base next x.1 == t) with | some x => some (x.2.ren (liftName base next)) | none => h.get t
  | [] => rfl
  | (u, c) :: l => by
    have ih := get_putNew h t l
    simp only [putNew, Tr.get_set, List.find?_cons]
    by_cases h : t = liftName base next u
    · subst h; simp
    · have h' : (liftName base next u == t) = false := by simp; exact fun e => h e.symm
      rw [if_neg h, h']
      exact ih
/-- A contract where nothing old is written, in any memory; its arguments' blocks are read alone. -/
theorem Ctr.callQ {Q : Mp → Mp → Prop} {f : Nat} {args args2 : List CV} {h0 h1 : Tr Blk} {c c2 : CV} {n1 : Nat} {s s' : St} {R : List Nat} {memo : Memo} (K : (∀ p ∈ s'.pc, p.holds ρ) → Ctr P ρ f args h0 base [] c h1 n1) (hfn : ∃ fn, P.funcs[f]? = some fn ∧ fn.body.isSome = true)
    (hle : base ≤ n1) (hn : s'.next = s.next + (n1 - base)) (hpc : ∃ l, s'.pc = l ++ s.pc) (hold : ∀ b, ¬ (s.next ≤ b ∧ b < s'.next) → s'.heap.get b = s.heap.get b)
    (hnew : ∀ j, base + j < n1 → ∀ k, s'.heap.get (s.next + j) = some k → ∃ k0, h1.get (base + j) = some k0 ∧ k.live = k0.live ∧ k.esz = k0.esz ∧ k.ext = none ∧ (k.ro = false → k0.ro = false) ∧ ∀ σ σ2 us, LiftN base n1 s.next σ σ2 → VRl ρ σ k0.cells us → VRl ρ σ2 k.cells us)
    (hR : ∀ b ∈ R, b < s.next)
    (hin : ∀ (σ : Mp) (cur : Cur) (w : World) (l : List Value), (∀ p ∈ s'.pc, p.holds ρ) → VRl ρ σ args2 l → HR ρ σ cur w → (∀ b ∈ R, cur b = s.heap.get b) → ∃ σc : Mp, VRl ρ σc args l ∧ HR ρ σc (curOf h0 base) w ∧ (∀ b, base ≤ b → σc b = none) ∧ Q σc σ)
    (hc : ∀ σ σ2 σc σ0 v, LiftN base n1 s.next σ σ2 → (∀ b, b < base → σ b = σc b) → (∀ b, b < s.next → σ2 b = σ0 b) → Q σc σ0 → VR ρ σ c v → VR ρ σ2 c2 v) :
    CallOk P (ctxOf P memo) ρ f args2 s c2 s' R [] := by
  refine ⟨hfn, ⟨by omega, fun b _ hb => hold b hb, hpc⟩, ⟨hR, fun b hb => by cases hb⟩, ?_⟩
  intro n σ cur w args' hp hargs' hH hA hN
  have K := K hp
  obtain ⟨σc, i1, i2, i3, iq⟩ := hin σ cur w _ hp hargs' hH (fun b hb => hA b (.inl hb))
  refine CallsIn.mono (K.run n σc w args' i1 i2 i3) ?_
  rintro e w' ⟨v, rfl, σ', x1, x2, x3, x4, x5⟩
  have x1 : Ext σc σ' base n1 := x1
  have x3 : HR ρ σ' (upd (curOf h0 base) base n1 h1 []) w' := x3
  have x5 : Fresh σc σ' base n1 base [] w := x5
  have same : ∀ k, k < w.heap.size → w'.heap[k]? = w.heap[k]? := fun k hk => x4.block k hk (fun b hb l hl => by
    rcases hb with hb | hb
    · cases hb
    · rw [i3 b hb] at hl; cases hl)
  have fresh : ∀ j l, base + j < n1 → σ' (base + j) = some l → w.heap.size ≤ l.blk := fun j l hj hl => by
    rcases x5 (base + j) l (by omega) hj hl with h | ⟨b0, hb0, l0, h1, h2⟩
    · exact h
    · rcases hb0 with hb0 | hb0
      · cases hb0
      · rw [i3 b0 hb0] at h1; cases h1
  obtain ⟨σ2, hσ2⟩ : ∃ σ2 : Mp, σ2 = fun b => if s.next ≤ b ∧ b < s'.next then σ' (base + (b - s.next)) else σ b := ⟨_, rfl⟩
  have e1 : ∀ j, base + j < n1 → σ2 (s.next + j) = σ' (base + j) := fun j hj => by
    rw [hσ2]
    show (if s.next ≤ s.next + j ∧ s.next + j < s'.next then σ' (base + (s.next + j - s.next)) else σ _) = _
    rw [if_pos ⟨by omega, by omega⟩, Nat.add_sub_cancel_left]
  have e2 : ∀ b, ¬ (s.next ≤ b ∧ b < s'.next) → σ2 b = σ b := fun b hb => by rw [hσ2]; exact if_neg hb
  have hle2 : σ.le σ2 := fun b l hl => by
    by_cases hb : s.next ≤ b ∧ b < s'.next
    · rw [hN b hb.1 hb.2] at hl; cases hl
    · rw [e2 b hb]; exact hl
  have lift : LiftN base n1 s.next σ' σ2 := fun j hj l hl => by rw [e1 j hj]; exact hl
  have old : ∀ b k, upd cur s.next s'.next s'.heap [] b = some k → ∀ l, σ2 b = some l → (∃ j, b = s.next + j ∧ base + j < n1 ∧ s'.heap.get b = some k ∧ σ' (base + j) = some l) ∨ (¬ (s.next ≤ b ∧ b < s'.next) ∧ cur b = some k ∧ σ b = some l) := by
    intro b k hk l hl
    unfold upd at hk
    by_cases hb : s.next ≤ b ∧ b < s'.next
    · left
      rw [if_pos (.inr hb)] at hk
      obtain ⟨j, rfl⟩ : ∃ j, b = s.next + j := ⟨b - s.next, by omega⟩
      exact ⟨j, rfl, by omega, hk, by rw [← e1 j (by omega)]; exact hl⟩
    · right
      rw [if_neg (by simpa using hb)] at hk
      exact ⟨hb, hk, by rw [← e2 b hb]; exact hl⟩
  have up1 : ∀ j k0, base + j < n1 → h1.get (base + j) = some k0 → upd (curOf h0 base) base n1 h1 [] (base + j) = some k0 := fun j k0 hj hk => by
    show (if base + j ∈ [] ∨ (base ≤ base + j ∧ base + j < n1) then h1.get (base + j) else _) = _
    rw [if_pos (.inr ⟨by omega, hj⟩)]; exact hk
  refine ⟨v, rfl, σ2, fun b hb => e2 b (by omega), hc _ _ _ _ _ lift (fun b hb => x1 b (.inl hb)) (fun b hb => e2 b (by omega)) iq x2, ?_, .of_same x4.os x4.tape x4.output x4.size same, fun b l b1 b2 b3 => ?_⟩
  · refine ⟨fun b k l a1 a2 a3 => ?_, fun b b' k k' l l' a1 a2 a3 a4 a5 a6 a7 a8 => ?_, fun b k x l a1 a2 a3 => ?_, fun b b' k k' x x' l l' a1 a2 a3 a4 a5 a6 a7 => ?_, fun y hy => ?_⟩
    · rcases old b k a1 l a3 with ⟨j, rfl, hj, hk, hl⟩ | ⟨hb, hk, hl⟩
      · obtain ⟨k0, g1, g2, g3, g4, gr, g5⟩ := hnew j hj k hk
        obtain ⟨cs, t, ppr1, r1, qqr1, r2, r3, r4, r5⟩ := x3.cell (base + j) k0 l (up1 j k0 hj g1) (g2 ▸ a2) hl
        have r6 := g5 _ _ _ lift r5
        have hlen : k.cells.length = k0.cells.length := r6.length.symm.trans r5.length
        exact ⟨cs, t, ppr1, r1, fun h => qqr1 (gr h), r2, g3.trans r3, by rw [hlen]; exact r4, by rw [hlen]; exact r6⟩
      · obtain ⟨cs, t, ppr1, r1, qqr1, r2, r3, r4, r5⟩ := hH.cell b k l hk a2 hl
        exact ⟨cs, t, ppr1, by rw [same _ (Array.getElem?_eq_some_iff.1 r1).1]; exact r1, qqr1, r2, r3, r4, r5.mono hle2⟩
    · rcases old b k a1 l a3 with ⟨j, rfl, hj, hk, hl⟩ | ⟨hb, hk, hl⟩ <;> rcases old b' k' a4 l' a6 with ⟨j', rfl, hj', hk', hl'⟩ | ⟨hb', hk', hl'⟩
      · obtain ⟨k0, g1, g2, _, _, gr, _⟩ := hnew j hj k hk
        obtain ⟨k1, g1', g2', _, _, gr', _⟩ := hnew j' hj' k' hk'
        have := x3.inj _ _ k0 k1 l l' (up1 j k0 hj g1) (g2 ▸ a2) hl (up1 j' k1 hj' g1') (g2' ▸ a5) hl' a7 (a8.imp gr gr')
        omega
      · have f1 := fresh j l hj hl
        have f2 := hH.lt hk' a5 hl'
        omega
      · have f1 := fresh j' l' hj' hl'
        have f2 := hH.lt hk a2 hl
        omega
      · exact hH.inj b b' k k' l l' hk a2 hl hk' a5 hl' a7 a8
    · rcases old b k a1 l a3 with ⟨j, rfl, hj, hk, hl⟩ | ⟨hb, hk, hl⟩
      · obtain ⟨_, _, _, _, g4, _⟩ := hnew j hj k hk
        rw [g4] at a2; cases a2
      · have hs := hH.spec b k x l hk a2 hl
        exact (hs.heap (same _ hs.lt)).mono hle2
    · rcases old b k a1 l a3 with ⟨j, rfl, hj, hk, hl⟩ | ⟨hb, hk, hl⟩
      · obtain ⟨_, _, _, _, g4, _⟩ := hnew j hj k hk
        rw [g4] at a2; cases a2
      · rcases old b' k' a4 l' a6 with ⟨j', rfl, hj', hk', hl'⟩ | ⟨hb', hk', hl'⟩
        · obtain ⟨_, _, _, _, g4, _⟩ := hnew j' hj' k' hk'
          rw [g4] at a5; cases a5
        · exact hH.injX b b' k k' x x' l l' hk a2 hl hk' a5 hl' a7
    · obtain ⟨⟨t0, h0⟩, hd⟩ := hH.glob y hy
      have hlt := (Array.getElem?_eq_some_iff.1 h0).1
      refine ⟨⟨t0, (same _ hlt).trans h0⟩, fun b k l a1 a2 ar a3 => ?_⟩
      rcases old b k a1 l a3 with ⟨j, rfl, hj, hk, hl⟩ | ⟨hb, hk, hl⟩
      · have := fresh j l hj hl
        omega
      · exact hd b k l hk a2 ar hl
  · rcases Nat.lt_or_ge b (s.next + (n1 - base)) with hlt | hge
    · obtain ⟨j, rfl⟩ : ∃ j, b = s.next + j := ⟨b - s.next, by omega⟩
      rw [e1 j (by omega)] at b3
      exact .inl (fresh j l (by omega) b3)
    · omega
theorem Ctr.callS {f : Nat} {args args2 : List CV} {h0 h1 : Tr Blk} {c c2 : CV} {n1 : Nat} {s s' : St} {R : List Nat} {memo : Memo} (K : (∀ p ∈ s'.pc, p.holds ρ) → Ctr P ρ f args h0 base [] c h1 n1) (hfn : ∃ fn, P.funcs[f]? = some fn ∧ fn.body.isSome = true)
    (hle : base ≤ n1) (hn : s'.next = s.next + (n1 - base)) (hpc : ∃ l, s'.pc = l ++ s.pc) (hold : ∀ b, ¬ (s.next ≤ b ∧ b < s'.next) → s'.heap.get b = s.heap.get b)
    (hnew : ∀ j, base + j < n1 → ∀ k, s'.heap.get (s.next + j) = some k → ∃ k0, h1.get (base + j) = some k0 ∧ k.live = k0.live ∧ k.esz = k0.esz ∧ k.ext = none ∧ (k.ro = false → k0.ro = false) ∧ ∀ σ σ2 us, LiftN base n1 s.next σ σ2 → VRl ρ σ k0.cells us → VRl ρ σ2 k.cells us)
    (hR : ∀ b ∈ R, b < s.next)
    (hin : ∀ (σ : Mp) (cur : Cur) (w : World) (l : List Value), (∀ p ∈ s'.pc, p.holds ρ) → VRl ρ σ args2 l → HR ρ σ cur w → (∀ b ∈ R, cur b = s.heap.get b) → ∃ σc : Mp, VRl ρ σc args l ∧ HR ρ σc (curOf h0 base) w ∧ ∀ b, base ≤ b → σc b = none)
    (hc : ∀ σ σ2 v, LiftN base n1 s.next σ σ2 → VR ρ σ c v → VR ρ σ2 c2 v) :
    CallOk P (ctxOf P memo) ρ f args2 s c2 s' R [] :=
  Ctr.callQ (Q := fun _ _ => True) K hfn hle hn hpc hold hnew hR (fun σ cur w l h1 h2 h3 h4 => by
    obtain ⟨σc, a, b, c⟩ := hin σ cur w l h1 h2 h3 h4
    exact ⟨σc, a, b, c, trivial⟩) (fun σ σ2 _ _ v h _ _ _ hv => hc σ σ2 v h hv)
end
/-! ## The memo -/
/-- Calls of a function with slices are known from its automaton: rw, hw, nw: what it yields, the blocks that it makes, their number. -/
noncomputable def memoS {N R : Type} [Inhabited R] (g : Nat) (ps : List AQ) (F : AW → AF N R) (rw' : R → CV) (hw : R → List (Nat × Blk)) (nw : Nat) (inner : Memo) : Memo := fun f args s =>
  bif Nat.beq f g then
    match AQ.gets s ps args ⟨⟨[], [], []⟩, [], []⟩ with
    | some a => match s.musts (a.sh ++ [(F a.v).fin]) with
      | some s1 => some ((rw' (F a.v).val).ren (liftName (AQ.ksss ps).length s.next), { s1 with heap := putNew (AQ.ksss ps).length s.next s.heap (hw (F a.v).val), next := s.next + (nw - (AQ.ksss ps).length) }, a.R, [])
      | none => none
    | none => inner f args s
  else inner f args s
structure KnownS (P : Program) (ρ : Env) (g : Nat) (ps : List AQ) {N R : Type} (F : AW → AF N R) (rw' : R → CV) (hw : R → List (Nat × Blk)) (nw : Nat) : Prop where
  fn : ∃ fn, P.funcs[g]? = some fn ∧ fn.body.isSome = true
  le : (AQ.ksss ps).length ≤ nw
  full : ∀ r, (hw r).map Prod.fst = List.range' (AQ.ksss ps).length (nw - (AQ.ksss ps).length)
  rg : ∀ r, (rw' r).rng (AQ.ksss ps).length nw = true
  hg : ∀ r, ∀ x ∈ hw r, x.2.body.Rg (AQ.ksss ps).length nw ∧ x.2.ext = none
  ctr : ∀ v n r, (F v).run n = some r → Ctr P ρ g (AQ.puts v ps 0 0 0) (mkH (AQ.hp v (AQ.ksss ps) 0)) (AQ.ksss ps).length [] (rw' r) (putH (mkH (AQ.hp v (AQ.ksss ps) 0)) (hw r)) nw
theorem find_congr {α : Type} {p q : α → Bool} : ∀ {l : List α}, (∀ x ∈ l, p x = q x) → l.find? p = l.find? q
  | [], _ => rfl
  | a :: l, h => by
    simp only [List.find?_cons, h a (List.mem_cons_self ..), find_congr (l := l) fun x hx => h x (List.mem_cons_of_mem _ hx)]
theorem hp_get {v : AW} (i : Nat) : ∀ (l : List (List (Option IntKind))) (q : Nat) (k : Blk), (mkH (AQ.hp v l q)).get i = some k → ∃ j ks, i = q + j ∧ l[j]? = some ks ∧ k = tabB ks (v.t.getD i .none)
  | [], q, k, h => by simp [AQ.hp, mkH, Tr.get_nil] at h
  | ks :: l, q, k, h => by
    simp only [AQ.hp, mkH, Tr.get_set] at h
    by_cases hi : i = q
    · rw [if_pos hi] at h
      cases h
      exact ⟨0, ks, by omega, rfl, by rw [hi]⟩
    · rw [if_neg hi] at h
      obtain ⟨j, ks', h1, h2, h3⟩ := hp_get i l (q + 1) k h
      exact ⟨j + 1, ks', by omega, by simpa using h2, h3⟩
theorem memoS_ok {P : Program} {ρ : Env} {N R : Type} [Inhabited R] {g : Nat} {ps : List AQ} {F : AW → AF N R} {rw' : R → CV} {hw : R → List (Nat × Blk)} {nw : Nat} {inner : Memo} (K : KnownS P ρ g ps F rw' hw nw) (hi : MemoOk P (ctxOf P inner) ρ) : MemoOk P (ctxOf P (memoS g ps F rw' hw nw inner)) ρ := by
  have lift : ∀ {f args s c s' R' W}, CallOk P (ctxOf P inner) ρ f args s c s' R' W → CallOk P (ctxOf P (memoS g ps F rw' hw nw inner)) ρ f args s c s' R' W := fun h => ⟨h.fn, h.frm, h.lt, h.run⟩
  intro f args s c s' R' W h0
  have h : memoS g ps F rw' hw nw inner f args s = some (c, s', R', W) := h0
  clear h0
  unfold memoS at h
  cases hf : Nat.beq f g with
  | false => rw [hf, cond_false] at h; exact lift (hi _ _ _ _ _ _ _ h)
  | true =>
    rw [hf, cond_true] at h
    obtain rfl := Nat.eq_of_beq_eq_true hf
    split at h
    · rename_i a ha
      split at h
      · rename_i s1 hm
        cases h
        obtain ⟨m1, m2, ⟨lm, m3⟩, m4⟩ := musts_parts (ρ := ρ) hm
        have k := AQ.gets_ok (ρ := ρ) ha
        have facts : (∀ p ∈ s1.pc, p.holds ρ) → ∀ b ∈ a.sh ++ [(F a.v).fin], b = true := m4
        have hR := k.le (fun b hb => by cases hb)
        have find : ∀ (r : R) (j : Nat), (AQ.ksss ps).length + j < nw → ∃ x, (hw r).find? (fun x => x.1 == (AQ.ksss ps).length + j) = some x := fun r j hj => by
          have hmem : (AQ.ksss ps).length + j ∈ (hw r).map Prod.fst := by rw [K.full]; rw [List.mem_range']; exact ⟨j, by omega, by omega⟩
          obtain ⟨x, hx, he⟩ := List.mem_map.1 hmem
          cases hf : (hw r).find? (fun x => x.1 == (AQ.ksss ps).length + j) with
          | some y => exact ⟨y, rfl⟩
          | none =>
            rw [List.find?_eq_none] at hf
            exact absurd (by simp [he]) (hf x hx)
        have rngw : ∀ (r : R), ∀ x ∈ hw r, (AQ.ksss ps).length ≤ x.1 ∧ x.1 < nw := fun r x hx => by
          have : x.1 ∈ (hw r).map Prod.fst := List.mem_map.2 ⟨x, hx, rfl⟩
          rw [K.full, List.mem_range'] at this
          obtain ⟨i, h1, h2⟩ := this
          omega
        refine Ctr.callS (base := (AQ.ksss ps).length) (n1 := nw) (args := AQ.puts a.v ps 0 0 0) (h0 := mkH (AQ.hp a.v (AQ.ksss ps) 0)) (h1 := putH (mkH (AQ.hp a.v (AQ.ksss ps) 0)) (hw (F a.v).val)) (K := fun hp => ?_) K.fn K.le rfl ⟨lm, m3⟩ (fun b hb => ?_) (fun j hj kb hk => ?_) hR (fun σ cur w l hp hl hH hcur => ?_) (fun σ σ2 v hl hv => hv.lift hl (K.rg _))
        · have hfin : (F a.v).fin = true := facts hp _ (List.mem_append_right _ (List.mem_singleton_self _))
          obtain ⟨n, hn⟩ := AF.fin_run hfin
          exact K.ctr a.v n _ hn
        · show (putNew _ _ _ _).get b = _
          rw [get_putNew]
          split
          · rename_i x hx
            have h1 := List.find?_some hx
            have h2 := List.mem_of_find?_eq_some hx
            simp only [beq_iff_eq] at h1
            obtain ⟨q1, q2⟩ := rngw _ x h2
            refine absurd ?_ hb
            show s.next ≤ b ∧ b < s.next + (nw - (AQ.ksss ps).length)
            unfold liftName at h1
            omega
          · rfl
        · have hk : (putNew (AQ.ksss ps).length s.next s.heap (hw (F a.v).val)).get (s.next + j) = some kb := hk
          rw [get_putNew] at hk
          have e : ∀ x ∈ hw (F a.v).val, (liftName (AQ.ksss ps).length s.next x.1 == s.next + j) = (x.1 == (AQ.ksss ps).length + j) := fun x hx => by
            obtain ⟨q1, q2⟩ := rngw _ x hx
            unfold liftName
            rw [Bool.eq_iff_iff]
            simp only [beq_iff_eq]
            omega
          obtain ⟨x, hx⟩ := find (F a.v).val j hj
          have hx2 : (hw (F a.v).val).find? (fun x => liftName (AQ.ksss ps).length s.next x.1 == s.next + j) = some x := by
            rw [← hx]
            exact find_congr e
          rw [hx2] at hk
          cases hk
          have hmem := List.mem_of_find?_eq_some hx
          obtain ⟨g1, g2⟩ := K.hg _ x hmem
          refine ⟨x.2, ?_, rfl, rfl, rfl, fun h => ?_, fun σ σ2 us hl h => Blk.lift hl g1 h⟩
          · rw [get_putH, hx]
          · have : (x.2.ren (liftName (AQ.ksss ps).length s.next)).ro = x.2.ro := by
              generalize x.2 = kk
              obtain ⟨bb, e, v, xx⟩ := kk
              cases bb <;> rfl
            rw [← this]; exact h
        · have fa := facts hp
          obtain ⟨los, q1, q2, q3⟩ := k.ok σ cur w l hl (fun b hb => fa b (List.mem_append_left _ hb)) hH hcur
          refine ⟨fun b => if b < (AQ.ksss ps).length then (los[b]?).getD none else none, ?_, HR.ofArgs (HR.laid (by assumption)) (fun i kb hi hk => ?_), fun b hb => if_neg (by omega)⟩
          · refine q3 a.v _ a.v.pre_refl (fun j lo hj => ?_)
            have : j < los.length := (List.getElem?_eq_some_iff.1 hj).1
            have hz : (0 : Nat) + j = j := Nat.zero_add j
            show (if ([] : List Tab).length + j < _ then _ else none) = lo
            simp only [List.length_nil, hz]
            rw [if_pos (by omega), hj]; rfl
          · obtain ⟨j, ks, rfl, h2, rfl⟩ := hp_get i _ _ _ hk
            rw [Nat.zero_add] at *
            have hjl : j < los.length := by omega
            have := q2 a.v j ks los[j] a.v.pre_refl h2 (List.getElem?_eq_getElem hjl)
            rw [if_pos hi, List.getElem?_eq_getElem hjl]
            have hz : (([] : List Tab).length + j) = j := by simp
            simp only [List.length_nil, Nat.zero_add] at this
            exact this
      · cases h
    · exact lift (hi _ _ _ _ _ _ _ h)
/-- A contract that says less: the value by a wider shape, more numbers. -/
theorem Ctr.weaken {P : Program} {ρ : Env} {f : Nat} {args : List CV} {h0 h h' : Tr Blk} {base n n' : Nat} {c c' : CV} (K : Ctr P ρ f args h0 base [] c h n) (hb : base ≤ n) (hn : n ≤ n') (hc : ∀ σ v, VR ρ σ c v → VR ρ σ c' v) (hh : ∀ b, base ≤ b → b < n → h'.get b = h.get b) : Ctr P ρ f args h0 base [] c' h' n' := by
  refine ⟨K.fn, fun m σ w args' ha hH hN => CallsIn.mono (K.run m σ w args' ha hH hN) ?_⟩
  rintro e w' ⟨v, rfl, σ', x1, x2, x3, x4, x5⟩
  have x1 : Ext σ σ' base n := x1
  have x3 : HR ρ σ' (upd (curOf h0 base) base n h []) w' := x3
  have x5 : Fresh σ σ' base n base [] w := x5
  have lt : ∀ b l, σ' b = some l → b < n := fun b l hl => by
    by_cases h : b < n
    · exact h
    · rw [x1 b (.inr (by omega)), hN b (by omega)] at hl; cases hl
  have cur : ∀ b l, σ' b = some l → upd (curOf h0 base) base n' h' [] b = upd (curOf h0 base) base n h [] b := fun b l hl => by
    have := lt b l hl
    unfold upd
    by_cases hbb : base ≤ b
    · rw [if_pos (.inr ⟨hbb, by omega⟩), if_pos (.inr ⟨hbb, this⟩), hh b hbb this]
    · rw [if_neg (by simp; omega), if_neg (by simp; omega)]
  refine ⟨v, rfl, σ', fun b hb => x1 b (by have hb : b < base ∨ n' ≤ b := hb; omega), hc _ _ x2, ?_, x4, fun b l b1 b2 b3 => x5 b l b1 (lt b l b3) b3⟩
  refine ⟨fun b k l a1 a2 a3 => x3.cell b k l ((cur b l a3).symm.trans a1) a2 a3, fun b b' k k' l l' a1 a2 a3 a4 a5 a6 => x3.inj b b' k k' l l' ((cur b l a3).symm.trans a1) a2 a3 ((cur b' l' a6).symm.trans a4) a5 a6, fun b k x l a1 a2 a3 => x3.spec b k x l ((cur b l a3).symm.trans a1) a2 a3, fun b b' k k' x x' l l' a1 a2 a3 a4 a5 a6 => x3.injX b b' k k' x x' l l' ((cur b l a3).symm.trans a1) a2 a3 ((cur b' l' a6).symm.trans a4) a5 a6, fun y hy => ⟨(x3.glob y hy).1, fun b k l a1 a2 ar a3 => (x3.glob y hy).2 b k l ((cur b l a3).symm.trans a1) a2 ar a3⟩⟩
/-- A contract that says less: blocks with the same cells. -/
theorem Ctr.forget {P : Program} {ρ : Env} {f : Nat} {args : List CV} {h0 h h' : Tr Blk} {base n n' : Nat} {c c' : CV} (K : Ctr P ρ f args h0 base [] c h n) (hb : base ≤ n) (hn : n ≤ n') (hc : ∀ σ v, VR ρ σ c v → VR ρ σ c' v) (hh : ∀ b, base ≤ b → b < n → ∀ k, h'.get b = some k → ∃ k2, h.get b = some k2 ∧ k2.live = k.live ∧ k2.ro = k.ro ∧ k2.esz = k.esz ∧ k2.cells = k.cells ∧ k2.ext = k.ext) : Ctr P ρ f args h0 base [] c' h' n' := by
  refine ⟨K.fn, fun m σ w args' ha hH hN => CallsIn.mono (K.run m σ w args' ha hH hN) ?_⟩
  rintro e w' ⟨v, rfl, σ', x1, x2, x3, x4, x5⟩
  have x1 : Ext σ σ' base n := x1
  have x3 : HR ρ σ' (upd (curOf h0 base) base n h []) w' := x3
  have x5 : Fresh σ σ' base n base [] w := x5
  have lt : ∀ b l, σ' b = some l → b < n := fun b l hl => by
    by_cases h : b < n
    · exact h
    · rw [x1 b (.inr (by omega)), hN b (by omega)] at hl; cases hl
  have cur : ∀ b l k, σ' b = some l → upd (curOf h0 base) base n' h' [] b = some k → ∃ k2, upd (curOf h0 base) base n h [] b = some k2 ∧ k2.live = k.live ∧ k2.ro = k.ro ∧ k2.esz = k.esz ∧ k2.cells = k.cells ∧ k2.ext = k.ext := fun b l k hl hk => by
    have := lt b l hl
    unfold upd at hk ⊢
    by_cases hbb : base ≤ b
    · rw [if_pos (.inr ⟨hbb, by omega⟩)] at hk
      rw [if_pos (.inr ⟨hbb, this⟩)]
      exact hh b hbb this k hk
    · rw [if_neg (by simp; omega)] at hk
      rw [if_neg (by simp; omega)]
      exact ⟨k, hk, rfl, rfl, rfl, rfl, rfl⟩
  refine ⟨v, rfl, σ', fun b hb => x1 b (by have hb : b < base ∨ n' ≤ b := hb; omega), hc _ _ x2, ?_, x4, fun b l b1 b2 b3 => x5 b l b1 (lt b l b3) b3⟩
  refine ⟨fun b k l a1 a2 a3 => ?_, fun b b' k k' l l' a1 a2 a3 a4 a5 a6 => ?_, fun b k x l a1 a2 a3 => ?_, fun b b' k k' x x' l l' a1 a2 a3 a4 a5 a6 => ?_, fun y hy => ⟨(x3.glob y hy).1, fun b k l a1 a2 ar a3 => ?_⟩⟩
  · obtain ⟨k2, q, e1, e2, e3, e4, _⟩ := cur b l k a3 a1
    have h := x3.cell b k2 l q (e1.trans a2) a3
    rw [e2, e3, e4] at h
    exact h
  · obtain ⟨k2, q, e1, e2, _⟩ := cur b l k a3 a1
    obtain ⟨k3, q', e1', e2', _⟩ := cur b' l' k' a6 a4
    have h := x3.inj b b' k2 k3 l l' q (e1.trans a2) a3 q' (e1'.trans a5) a6
    rw [e2, e2'] at h
    exact h
  · obtain ⟨k2, q, _, _, _, _, e5⟩ := cur b l k a3 a1
    exact x3.spec b k2 x l q (e5.trans a2) a3
  · obtain ⟨k2, q, _, _, _, _, e5⟩ := cur b l k a3 a1
    obtain ⟨k3, q', _, _, _, _, e5'⟩ := cur b' l' k' a6 a4
    exact x3.injX b b' k2 k3 x x' l l' q (e5.trans a2) a3 q' (e5'.trans a5) a6
  · obtain ⟨k2, q, e1, e2, _⟩ := cur b l k a3 a1
    exact (x3.glob y hy).2 b k2 l q (e1.trans a2) (e2.trans ar) a3
section
variable {ρ : Env} {σ : Mp}
theorem VR.empty_sla {b b' o z c : Nat} {v : Value} (h : VR ρ σ (.slc (some (b, o)) 0 c) v) : VR ρ σ (.sla b' z 0 0) v := by cases h; exact .sla0 _ _
theorem VR.as_sla {b z n : Nat} {v : Value} (h : VR ρ σ (.slx b z 0 n n) v) : VR ρ σ (.sla b z 0 n) v := h.slx_sla (Nat.le_refl _)
theorem VR.nil_sla {b z : Nat} {v : Value} (h : VR ρ σ (.slc none 0 0) v) : VR ρ σ (.sla b z 0 0) v := by cases h; exact .sla0 _ _
theorem VR.emp_sla {b z : Nat} {v : Value} (h : VR ρ σ .emp v) : VR ρ σ (.sla b z 0 0) v := by cases h; exact .sla0 _ _
theorem VR.agg_imp {l m : List CV} (hl : ∀ vs, VRl ρ σ l vs → VRl ρ σ m vs) {v : Value} (h : VR ρ σ (.agg l) v) : VR ρ σ (.agg m) v := by
  obtain ⟨cs, rfl, h1⟩ := h.agg_inv
  exact .agg (hl _ h1)
theorem VR.tup_imp {l m : List CV} (hl : ∀ vs, VRl ρ σ l vs → VRl ρ σ m vs) {v : Value} (h : VR ρ σ (.tup l) v) : VR ρ σ (.tup m) v := by
  obtain ⟨cs, rfl, h1⟩ := h.tup_inv
  exact .tup (hl _ h1)
theorem VRl.nil_imp : ∀ vs, VRl ρ σ [] vs → VRl ρ σ [] vs := fun _ h => h
theorem VRl.cons_imp {a b : CV} {l m : List CV} (ha : ∀ v, VR ρ σ a v → VR ρ σ b v) (hl : ∀ vs, VRl ρ σ l vs → VRl ρ σ m vs) : ∀ vs, VRl ρ σ (a :: l) vs → VRl ρ σ (b :: m) vs := fun vs h => by
  cases h with
  | cons h t => exact .cons (ha _ h) (hl _ t)
end
end Go.Proofs.Ytjdldcmcjaaibaa.Cx

/- Lemmas for terms that are laid at the root (tools/cxroot.py). -/
namespace Go.Proofs.Ytjdldcmcjaaibaa.Cx
set_option linter.unusedVariables false
open Go Go.RowKit
section
variable {ρ : Env}
theorem Ztq {X Y : IE} {x y q : Int} (ha : Is ρ X x) (hb : Is ρ Y y) (hq : x.tdiv y = q) (h1 : In64 q) : Is ρ (IE.bin .quo .i64 X Y) q := by
  refine ⟨?_⟩
  show IntKind.i64.wrap ((X.Z ρ).tdiv (Y.Z ρ)) = q
  rw [ha.out, hb.out, hq]; exact wrap_id h1.1 h1.2
theorem Ztr {k : IntKind} {X Y : IE} {x y q : Int} (ha : Is ρ X x) (hb : Is ρ Y y) (hq : x.tmod y = q) : Is ρ (IE.bin .rem k X Y) q := by
  refine ⟨?_⟩
  show (X.Z ρ).tmod (Y.Z ρ) = q
  rw [ha.out, hb.out, hq]
end
theorem Zru {ρ : Env} {A : IE} {x z D : Int} (ha : Is ρ A x) (hd : 1 ≤ D) (hx : -4611686018427387904 ≤ x ∧ x ≤ 4611686018427387904) (h1 : x ≤ D * z) (h2 : D * z ≤ x + (D - 1)) : Is ρ (.bin .add .i64 (.bin .quo .i64 A (.c D)) (.bin .mn .i64 (.c 1) (.bin .mx .i64 (.c 0) (.bin .rem .i64 A (.c D))))) z := by
  obtain ⟨ha⟩ := ha
  constructor
  show IntKind.i64.wrap (IntKind.i64.wrap ((A.Z ρ).tdiv D) + min 1 (max 0 ((A.Z ρ).tmod D))) = z
  rw [ha]
  have e := Int.mul_tdiv_add_tmod x D
  have l1 : (x.tdiv D).natAbs ≤ x.natAbs := by rw [Int.natAbs_tdiv]; exact Nat.div_le_self _ _
  have l2 : x.tmod D < D := Int.tmod_lt_of_pos x (by omega)
  have l3 : -D < x.tmod D := by
    rcases Int.le_total 0 x with h | h
    · have := Int.tmod_nonneg D h; omega
    · have := Int.tmod_lt_of_pos (-x) (b := D) (by omega)
      rw [Int.neg_tmod] at this; omega
  generalize x.tdiv D = q at *
  generalize x.tmod D = r at *
  rw [wrap_id (x := q) (by omega) (by omega)]
  have k : q + min 1 (max 0 r) = z := by
    have m1 : D * (z - q) = D * z - D * q := Int.mul_sub ..
    obtain ⟨t, ht⟩ : ∃ t, z - q = t := ⟨_, rfl⟩
    rw [ht] at m1
    rcases Int.lt_or_le 0 r with hr | hr
    · have : t = 1 := by
        rcases Int.lt_trichotomy t 1 with h | h | h
        · have := Int.mul_le_mul_of_nonneg_left (show t ≤ 0 by omega) (show 0 ≤ D by omega)
          omega
        · exact h
        · have := Int.mul_le_mul_of_nonneg_left (show 2 ≤ t by omega) (show 0 ≤ D by omega)
          omega
      omega
    · have : t = 0 := by
        rcases Int.lt_trichotomy t 0 with h | h | h
        · have := Int.mul_le_mul_of_nonneg_left (show t ≤ -1 by omega) (show 0 ≤ D by omega)
          omega
        · exact h
        · have := Int.mul_le_mul_of_nonneg_left (show 1 ≤ t by omega) (show 0 ≤ D by omega)
          omega
      omega
  rw [k]
  exact wrap_id (by omega) (by omega)
theorem Zru2 {ρ : Env} {A B : IE} {x z D : Int} (ha : Is ρ A x) (hb : Is ρ B D) (hd : 1 ≤ D) (hx : -4611686018427387904 ≤ x ∧ x ≤ 4611686018427387904) (h1 : x ≤ D * z) (h2 : D * z ≤ x + (D - 1)) : Is ρ (.bin .add .i64 (.bin .quo .i64 A B) (.bin .mn .i64 (.c 1) (.bin .mx .i64 (.c 0) (.bin .rem .i64 A B)))) z := by
  obtain ⟨ha⟩ := ha
  obtain ⟨hb⟩ := hb
  constructor
  show IntKind.i64.wrap (IntKind.i64.wrap ((A.Z ρ).tdiv (B.Z ρ)) + min 1 (max 0 ((A.Z ρ).tmod (B.Z ρ)))) = z
  rw [ha, hb]
  have e := Int.mul_tdiv_add_tmod x D
  have l1 : (x.tdiv D).natAbs ≤ x.natAbs := by rw [Int.natAbs_tdiv]; exact Nat.div_le_self _ _
  have l2 : x.tmod D < D := Int.tmod_lt_of_pos x (by omega)
  have l3 : -D < x.tmod D := by
    rcases Int.le_total 0 x with h | h
    · have := Int.tmod_nonneg D h; omega
    · have := Int.tmod_lt_of_pos (-x) (b := D) (by omega)
      rw [Int.neg_tmod] at this; omega
  generalize x.tdiv D = q at *
  generalize x.tmod D = r at *
  rw [wrap_id (x := q) (by omega) (by omega)]
  have k : q + min 1 (max 0 r) = z := by
    have m1 : D * (z - q) = D * z - D * q := Int.mul_sub ..
    obtain ⟨t, ht⟩ : ∃ t, z - q = t := ⟨_, rfl⟩
    rw [ht] at m1
    rcases Int.lt_or_le 0 r with hr | hr
    · have : t = 1 := by
        rcases Int.lt_trichotomy t 1 with h | h | h
        · have := Int.mul_le_mul_of_nonneg_left (show t ≤ 0 by omega) (show 0 ≤ D by omega)
          omega
        · exact h
        · have := Int.mul_le_mul_of_nonneg_left (show 2 ≤ t by omega) (show 0 ≤ D by omega)
          omega
      omega
    · have : t = 0 := by
        rcases Int.lt_trichotomy t 0 with h | h | h
        · have := Int.mul_le_mul_of_nonneg_left (show t ≤ -1 by omega) (show 0 ≤ D by omega)
          omega
        · exact h
        · have := Int.mul_le_mul_of_nonneg_left (show 1 ≤ t by omega) (show 0 ≤ D by omega)
          omega
      omega
  rw [k]
  exact wrap_id (by omega) (by omega)
theorem Zqx {ρ : Env} {A B : IE} {x n z : Int} (ha : Is ρ A x) (hb : Is ρ B n) (hn : n ≠ 0) (h1 : In64 z) (h : n * z = x) : Is ρ (.bin .quo .i64 A B) z := by
  refine ⟨?_⟩
  show IntKind.i64.wrap ((A.Z ρ).tdiv (B.Z ρ)) = z
  rw [ha.out, hb.out, ← h, Int.mul_tdiv_cancel_left _ hn]; exact wrap_id h1.1 h1.2
theorem ru_ex (x D : Int) (hd : 1 ≤ D) : ∃ z : Int, x ≤ D * z ∧ D * z ≤ x + (D - 1) := by
  have a := Int.emod_nonneg (-x) (b := D) (by omega)
  have b := Int.emod_lt_of_pos (-x) (b := D) (by omega)
  have e := Int.mul_ediv_add_emod (-x) D
  refine ⟨-((-x) / D), ?_, ?_⟩ <;> rw [Int.mul_neg] <;> omega
theorem ru_rng {x z D d : Int} (h0 : 1 ≤ d) (hd : d ≤ D) (h1 : x ≤ D * z) (h2 : D * z ≤ x + (D - 1)) : (1 ≤ z → d * (z - 1) ≤ x - 1) ∧ (z ≤ -1 → d * (-z) ≤ -x) ∧ (z = 0 → x ≤ 0 ∧ 0 ≤ x + (D - 1)) := by
  refine ⟨fun h => ?_, fun h => ?_, fun h => ?_⟩
  · have := Int.mul_le_mul_of_nonneg_right hd (show 0 ≤ z - 1 by omega)
    have e : D * (z - 1) = D * z - D := by rw [Int.mul_sub, Int.mul_one]
    omega
  · have := Int.mul_le_mul_of_nonneg_right hd (show 0 ≤ -z by omega)
    have e : D * (-z) = -(D * z) := Int.mul_neg _ _
    omega
  · subst h; rw [Int.mul_zero] at h1 h2; exact ⟨h1, h2⟩
/-- Of two quotients rounded up by one divisor the one of the smaller number is no greater. -/
theorem ru_mono {x1 x2 D z1 z2 : Int} (hd : 1 ≤ D) (h1 : Hd (x1 ≤ D * z1 ∧ D * z1 ≤ x1 + (D - 1))) (h2 : Hd (x2 ≤ D * z2 ∧ D * z2 ≤ x2 + (D - 1))) (h : x1 ≤ x2) : z1 ≤ z2 := by
  obtain ⟨_, a⟩ := h1.out
  obtain ⟨b, _⟩ := h2.out
  refine Int.not_lt.1 fun hn => ?_
  have := Int.mul_le_mul_of_nonneg_left (show z2 + 1 ≤ z1 by omega) (show 0 ≤ D by omega)
  rw [Int.mul_add, Int.mul_one] at this
  omega
theorem td_ex2 (x D : Int) (hd : 1 ≤ D) : ∃ q r : Int, Hd (x.tdiv D = q) ∧ Hd (x.tmod D = r) ∧ x = D * q + r ∧ (0 ≤ x ∧ 0 ≤ r ∨ x ≤ 0 ∧ r ≤ 0) ∧ (-(D - 1) ≤ r ∧ r ≤ D - 1) := by
  have e := Int.mul_tdiv_add_tmod x D
  refine ⟨_, _, ⟨rfl⟩, ⟨rfl⟩, e.symm, ?_, ?_⟩
  · rcases Int.le_total 0 x with h | h
    · exact .inl ⟨h, Int.tmod_nonneg D h⟩
    · refine .inr ⟨h, ?_⟩
      have := Int.tmod_nonneg D (show 0 ≤ -x by omega)
      rw [Int.neg_tmod] at this; omega
  · have l2 : x.tmod D < D := Int.tmod_lt_of_pos x (by omega)
    have := Int.tmod_lt_of_pos (-x) (b := D) (by omega)
    rw [Int.neg_tmod] at this; omega
theorem mcc {x y la ha lb hb : Int} (h1 : la ≤ x) (h2 : x ≤ ha) (h3 : lb ≤ y) (h4 : y ≤ hb) : la * y + lb * x - la * lb ≤ x * y ∧ ha * y + hb * x - ha * hb ≤ x * y ∧ x * y ≤ ha * y + lb * x - ha * lb ∧ x * y ≤ la * y + hb * x - la * hb := by
  have p1 := Int.mul_nonneg (show 0 ≤ x - la by omega) (show 0 ≤ y - lb by omega)
  have p2 := Int.mul_nonneg (show 0 ≤ ha - x by omega) (show 0 ≤ hb - y by omega)
  have p3 := Int.mul_nonneg (show 0 ≤ ha - x by omega) (show 0 ≤ y - lb by omega)
  have p4 := Int.mul_nonneg (show 0 ≤ x - la by omega) (show 0 ≤ hb - y by omega)
  simp only [Int.sub_mul, Int.mul_sub] at p1 p2 p3 p4
  have c1 := Int.mul_comm x lb
  have c2 := Int.mul_comm x hb
  omega
section
variable {ρ : Env} {A B : IE} {x y z : Int}
theorem Ya (ha : Is ρ A x) (hb : Is ρ B y) (h : In64 z ∧ x + y = z) : Is ρ (.bin .add .i64 A B) z := Zadd ha hb h.1 h.2
theorem Ys (ha : Is ρ A x) (hb : Is ρ B y) (h : In64 z ∧ x - y = z) : Is ρ (.bin .sub .i64 A B) z := Zsub ha hb h.1 h.2
theorem Ym (ha : Is ρ A x) (hb : Is ρ B y) (h : In64 z ∧ x * y = z) : Is ρ (.bin .mul .i64 A B) z := Zmul ha hb h.1 h.2
end
section
variable {ρ : Env} {A B : IE} {x y : Int}
theorem Pleq (ha : Is ρ A x) (hb : Is ρ B y) (h : x ≤ y) : (BE.cmp .leq A B).P ρ := by
  show A.Z ρ ≤ B.Z ρ
  rw [ha.out, hb.out]; exact h
theorem Nleq (ha : Is ρ A x) (hb : Is ρ B y) (h : ¬ x ≤ y) : ¬ (BE.cmp .leq A B).P ρ := by
  show ¬ A.Z ρ ≤ B.Z ρ
  rw [ha.out, hb.out]; exact h
theorem Peql (ha : Is ρ A x) (hb : Is ρ B y) (h : x = y) : (BE.cmp .eql A B).P ρ := by
  show A.Z ρ = B.Z ρ
  rw [ha.out, hb.out]; exact h
theorem Neql (ha : Is ρ A x) (hb : Is ρ B y) (h : ¬ x = y) : ¬ (BE.cmp .eql A B).P ρ := by
  show ¬ A.Z ρ = B.Z ρ
  rw [ha.out, hb.out]; exact h
theorem ask_t {c : BE} {t f : DT} (h : c.P ρ) (ht : t.goal ρ) : (DT.ask c t f).goal ρ := ⟨fun _ => ht, fun g => absurd h g⟩
theorem ask_p {c : BE} {t f : DT} (ht : c.P ρ → t.goal ρ) (hf : ¬ c.P ρ → f.goal ρ) : (DT.ask c t f).goal ρ := ⟨ht, hf⟩
theorem ask_q {c : BE} {t f : DT} (hf : ¬ c.P ρ → f.goal ρ) (ht : c.P ρ → t.goal ρ) : (DT.ask c t f).goal ρ := ⟨ht, hf⟩
theorem ask_f {c : BE} {t f : DT} (h : ¬ c.P ρ) (hf : f.goal ρ) : (DT.ask c t f).goal ρ := ⟨fun g => absurd g h, fun _ => hf⟩
theorem aT {c : BE} {t f : DT} (h : c.P ρ) (ht : t.goal ρ) : (DT.ask c t f).goal ρ := ask_t h ht
theorem aF {c : BE} {t f : DT} (h : ¬ c.P ρ) (hf : f.goal ρ) : (DT.ask c t f).goal ρ := ask_f h hf
theorem conc_t {e : IE} {n : Nat} {t f : DT} (h : (BE.cmp .eql e (.c n)).P ρ) (ht : t.goal ρ) : (DT.conc e n t f).goal ρ := ⟨fun _ => ht, fun g => absurd h g⟩
theorem conc_p {e : IE} {n : Nat} {t f : DT} (ht : (BE.cmp .eql e (.c n)).P ρ → t.goal ρ) (hf : ¬ (BE.cmp .eql e (.c n)).P ρ → f.goal ρ) : (DT.conc e n t f).goal ρ := ⟨ht, hf⟩
theorem conc_q {e : IE} {n : Nat} {t f : DT} (hf : ¬ (BE.cmp .eql e (.c n)).P ρ → f.goal ρ) (ht : (BE.cmp .eql e (.c n)).P ρ → t.goal ρ) : (DT.conc e n t f).goal ρ := ⟨ht, hf⟩
theorem conc_f {e : IE} {n : Nat} {t f : DT} (h : ¬ (BE.cmp .eql e (.c n)).P ρ) (hf : f.goal ρ) : (DT.conc e n t f).goal ρ := ⟨fun g => absurd g h, fun _ => hf⟩
end
end Go.Proofs.Ytjdldcmcjaaibaa.Cx

/- Quotients, rounded toward 0, by a symbol: what they are, how they grow, when they reach a number. -/
namespace Go.Proofs.Ytjdldcmcjaaibaa.Cx
set_option linter.unusedVariables false
set_option linter.unusedSimpArgs false
open Go Go.RowKit
/-- What a quotient that is rounded toward 0 is: q of x by d. -/
def QD (x d q : Int) : Prop := (0 ≤ x → 0 ≤ q ∧ q * d ≤ x ∧ x ≤ q * d + (d - 1)) ∧ (x ≤ 0 → q ≤ 0 ∧ x ≤ q * d ∧ q * d ≤ x + (d - 1))
theorem qD_ex (x d : Int) (hd : 1 ≤ d) : ∃ q : Int, Hd (x.tdiv d = q) ∧ QD x d q := by
  have e := Int.mul_tdiv_add_tmod x d
  refine ⟨_, ⟨rfl⟩, fun h => ?_, fun h => ?_⟩
  · have a := rem_bd h (Int.le_refl x) hd
    have b := quo_bd h (Int.le_refl x) (by omega : 0 ≤ d)
    rw [tdiv_pos h, tmod_pos h] at *
    rw [Int.mul_comm] at e
    refine ⟨by omega, by omega, by omega⟩
  · have a := rem_bd (x := -x) (h := -x) (by omega) (Int.le_refl _) hd
    have b := quo_bd (x := -x) (h := -x) (by omega) (Int.le_refl _) (by omega : 0 ≤ d)
    rw [tdiv_neg h, tmod_neg h] at *
    rw [Int.mul_comm] at e
    refine ⟨by omega, by omega, by omega⟩
theorem qD_rng {x d q lo hi dl : Int} (h : QD x d q) (h1 : 1 ≤ dl) (h2 : dl ≤ d) (h3 : lo ≤ x) (h4 : x ≤ hi) (h5 : lo ≤ 0) (h6 : 0 ≤ hi) : lo ≤ q * dl ∧ q * dl ≤ hi := by
  rcases Int.le_total 0 x with k | k
  · obtain ⟨a, b, c⟩ := h.1 k
    have e := Int.mul_le_mul_of_nonneg_left h2 a
    have f := Int.mul_nonneg a (by omega : 0 ≤ dl)
    exact ⟨by omega, by omega⟩
  · obtain ⟨a, b, c⟩ := h.2 k
    have e := Int.mul_le_mul_of_nonneg_left h2 (by omega : 0 ≤ -q)
    have f := Int.mul_nonneg (by omega : 0 ≤ -q) (by omega : 0 ≤ dl)
    rw [Int.neg_mul] at f
    rw [Int.neg_mul, Int.neg_mul] at e
    exact ⟨by omega, by omega⟩
theorem qD_is {x d q m : Int} (h : QD x d q) (hm : q * d = m) : (0 ≤ x → 0 ≤ q ∧ m ≤ x ∧ x ≤ m + (d - 1)) ∧ (x ≤ 0 → q ≤ 0 ∧ x ≤ m ∧ m ≤ x + (d - 1)) := hm ▸ h
theorem qD_is' {x d q m : Int} (h : QD x d q) (hm : d * q = m) : (0 ≤ x → 0 ≤ q ∧ m ≤ x ∧ x ≤ m + (d - 1)) ∧ (x ≤ 0 → q ≤ 0 ∧ x ≤ m ∧ m ≤ x + (d - 1)) := qD_is h ((Int.mul_comm q d).trans hm)
theorem qD_mono {x d q y e r : Int} (h : QD x d q) (k : QD y e r) (hd : 1 ≤ d) (he : 1 ≤ e) : x ≤ y → e ≤ d → 0 ≤ y → q ≤ r := fun h1 h2 h3 => by
  obtain ⟨a, b, c⟩ := k.1 h3
  rcases Int.le_total 0 x with g | g
  · obtain ⟨a', b', c'⟩ := h.1 g
    refine Int.not_lt.1 fun g2 => ?_
    have u := Int.mul_le_mul_of_nonneg_left h2 a'
    have v := Int.mul_le_mul_of_nonneg_right (show r + 1 ≤ q by omega) (by omega : 0 ≤ e)
    rw [Int.add_mul, Int.one_mul] at v
    omega
  · have := (h.2 g).1; omega
theorem qD_gal {x d q t T : Int} (h : QD x d q) (hd : 1 ≤ d) (hT : t * d = T) : 1 ≤ t ∨ 0 ≤ x → t ≤ q ∧ T ≤ x ∨ q + 1 ≤ t ∧ x + 1 ≤ T := fun hh => by
  rcases Int.le_total 0 x with g | g
  · obtain ⟨a, b, c⟩ := h.1 g
    rcases Int.lt_or_le q t with k | k
    · have v := Int.mul_le_mul_of_nonneg_right (show q + 1 ≤ t by omega) (by omega : 0 ≤ d)
      rw [Int.add_mul, Int.one_mul] at v
      right; omega
    · have v := Int.mul_le_mul_of_nonneg_right k (by omega : 0 ≤ d)
      left; omega
  · have hq := (h.2 g).1
    rcases hh with k | k
    · have v := Int.mul_le_mul_of_nonneg_right k (by omega : 0 ≤ d)
      right; omega
    · obtain rfl : x = 0 := by omega
      obtain ⟨a, b, c⟩ := h.1 (Int.le_refl _)
      rcases Int.lt_or_le q t with k | k
      · have v := Int.mul_le_mul_of_nonneg_right (show q + 1 ≤ t by omega) (by omega : 0 ≤ d)
        rw [Int.add_mul, Int.one_mul] at v
        right; omega
      · have v := Int.mul_le_mul_of_nonneg_right k (by omega : 0 ≤ d)
        left; omega
end Go.Proofs.Ytjdldcmcjaaibaa.Cx

/- A number from 0 on over a number, in lowest terms: its parts, and what they are where it is whole. -/
namespace Go.Proofs.Ytjdldcmcjaaibaa.Cx
set_option linter.unusedVariables false
open Go Go.RowKit
theorem assoc_eq {a b d m p n q : Int} (h1 : a * b = m) (h2 : m * d = p) (h3 : a * d = n) (h4 : n * b = q) : p = q := by
  rw [← h2, ← h4, ← h1, ← h3, Int.mul_assoc, Int.mul_assoc, Int.mul_comm b d]
theorem gcdc_ex (A n r : Int) (hn : 1 ≤ n) (hA : 0 ≤ A) (hr : A % n = r) : ∃ g N D : Int, Hd ((Int.gcd A n : Int) = g) ∧ Hd (N * g = A) ∧ Hd (D * g = n) ∧ (1 ≤ g ∧ g ≤ n) ∧ (0 ≤ N ∧ N ≤ A) ∧ (1 ≤ D ∧ D ≤ n) ∧ ((r = 0 → g = n ∧ D = 1 ∧ n * N = A) ∧ (D = 1 → r = 0)) := by
  have hg : (1 : Int) ≤ Int.gcd A n := by
    have := Int.gcd_pos_of_ne_zero_right A (by omega : n ≠ 0)
    omega
  obtain ⟨N, hN⟩ := Int.gcd_dvd_left (a := A) (b := n)
  obtain ⟨D, hD⟩ := Int.gcd_dvd_right (a := A) (b := n)
  have hk : r = 0 → (Int.gcd A n : Int) = n := fun h => by
    have h1 : n ∣ A := Int.dvd_of_emod_eq_zero (hr.trans h)
    have h2 := Int.dvd_coe_gcd h1 (Int.dvd_refl n)
    have h3 := Int.le_of_dvd (by omega) h2
    have h4 := Int.le_of_dvd (by omega) (⟨D, hD⟩ : (Int.gcd A n : Int) ∣ n)
    omega
  rw [Int.mul_comm] at hN hD
  refine ⟨_, N, D, ⟨rfl⟩, ⟨hN.symm⟩, ⟨hD.symm⟩, ?_⟩
  generalize (Int.gcd A n : Int) = g at *
  have d1 : 1 ≤ D := by
    rcases Int.lt_or_le 0 D with q | q
    · omega
    · have := Int.mul_le_mul_of_nonneg_right q (by omega : 0 ≤ g)
      omega
  have d2 : D * 1 ≤ D * g := Int.mul_le_mul_of_nonneg_left hg (by omega)
  have d3 : 1 * g ≤ D * g := Int.mul_le_mul_of_nonneg_right d1 (by omega)
  have n1 : 0 ≤ N := by
    rcases Int.lt_or_le N 0 with q | q
    · have := Int.mul_le_mul_of_nonneg_right (by omega : N ≤ -1) (by omega : 0 ≤ g)
      omega
    · exact q
  have n2 : N * 1 ≤ N * g := Int.mul_le_mul_of_nonneg_left hg n1
  refine ⟨⟨hg, by omega⟩, ⟨n1, by omega⟩, ⟨d1, by omega⟩, fun h => ?_, fun h => ?_⟩
  · have e := hk h
    subst e
    refine ⟨rfl, ?_, by rw [Int.mul_comm]; exact hN.symm⟩
    have := Int.mul_eq_mul_right_iff (a := D) (b := 1) (c := g) (by omega)
    exact this.1 (by omega)
  · subst h
    obtain rfl : g = n := by omega
    rw [← hr, hN]; exact Int.mul_emod_left ..
end Go.Proofs.Ytjdldcmcjaaibaa.Cx

/- Quotients by a symbol that may be 0 (0 then, as the model has it; no test is behind it). -/
namespace Go.Proofs.Ytjdldcmcjaaibaa.Cx
set_option linter.unusedVariables false
open Go Go.RowKit
theorem qZ_ex (x d lo hi : Int) (hd : 0 ≤ d) (h1 : lo ≤ x) (h2 : x ≤ hi) (h3 : lo ≤ 0) (h4 : 0 ≤ hi) : ∃ q : Int, Hd (x.tdiv d = q) ∧ (1 ≤ d → QD x d q) ∧ (lo ≤ q ∧ q ≤ hi) := by
  rcases Int.lt_or_le 0 d with h | h
  · obtain ⟨q, e, k⟩ := qD_ex x d h
    have r := qD_rng (lo := lo) (hi := hi) (dl := 1) k (by omega) (by omega) h1 h2 h3 h4
    exact ⟨q, e, fun _ => k, by omega⟩
  · obtain rfl : d = 0 := by omega
    exact ⟨_, ⟨rfl⟩, fun k => by omega, by rw [Int.tdiv_zero]; omega⟩
theorem qZ_is {x d q m : Int} (h : 1 ≤ d → QD x d q) (hm : q * d = m) : 1 ≤ d → ((0 ≤ x → 0 ≤ q ∧ m ≤ x ∧ x ≤ m + (d - 1)) ∧ (x ≤ 0 → q ≤ 0 ∧ x ≤ m ∧ m ≤ x + (d - 1))) := fun k => qD_is (h k) hm
theorem qZ_is' {x d q m : Int} (h : 1 ≤ d → QD x d q) (hm : d * q = m) : 1 ≤ d → ((0 ≤ x → 0 ≤ q ∧ m ≤ x ∧ x ≤ m + (d - 1)) ∧ (x ≤ 0 → q ≤ 0 ∧ x ≤ m ∧ m ≤ x + (d - 1))) := fun k => qD_is' (h k) hm
theorem qZ_mono {x d q y e r : Int} (h : 1 ≤ d → QD x d q) (k : 1 ≤ e → QD y e r) : 1 ≤ d → 1 ≤ e → x ≤ y → e ≤ d → 0 ≤ y → q ≤ r := fun a b => qD_mono (h a) (k b) a b
theorem qZ_gal {x d q t T : Int} (h : 1 ≤ d → QD x d q) (hT : t * d = T) : 1 ≤ d → 1 ≤ t ∨ 0 ≤ x → t ≤ q ∧ T ≤ x ∨ q + 1 ≤ t ∧ x + 1 ≤ T := fun k => qD_gal (h k) k hT
theorem ZtrD {ρ : Env} {k : IntKind} {X Y : IE} {x y q m z : Int} (ha : Is ρ X x) (hb : Is ρ Y y) (hq : x.tdiv y = q) (hm : q * y = m) (hz : x - m = z) : Is ρ (IE.bin .rem k X Y) z := by
  refine Ztr ha hb ?_
  have e := Int.mul_tdiv_add_tmod x y
  rw [hq, Int.mul_comm, hm] at e
  omega
end Go.Proofs.Ytjdldcmcjaaibaa.Cx

/- AUTOMATA AND INVARIANTS: a tree of tests on Lean's numbers as one of terms; a loop by its invariant and a measure. -/
namespace Go.Proofs.Ytjdldcmcjaaibaa.Cx
set_option linter.unusedVariables false
set_option linter.unusedSimpArgs false
open Go Go.RowKit
inductive VT (L : Type) where
  | leaf (l : L)
  | ask (o : Cm) (a b : IE) (t f : VT L)
  | askb (c : Bool) (t f : VT L)
  | must (o : Cm) (a b : IE) (t : VT L)
  | mustb (c : Bool) (t : VT L)
section
variable {L : Type}
def VT.dd (ρ : Env) : VT L → DD L
  | .leaf l => .leaf l
  | .ask o a b t f => .ask (o.run (a.den ρ) (b.den ρ)) (t.dd ρ) (f.dd ρ)
  | .askb c t f => .ask c (t.dd ρ) (f.dd ρ)
  | .must o a b t => .must (o.run (a.den ρ) (b.den ρ)) (t.dd ρ)
  | .mustb c t => .must c (t.dd ρ)
def askV (o : Cm) (a b : IE) (t f : DT) : DT := match o with
  | .leq => .ask (.cmp .leq a b) t f
  | .gtr => .ask (.cmp .leq a b) f t
  | .geq => .ask (.cmp .leq b a) t f
  | .lss => .ask (.cmp .leq b a) f t
  | .eql => .ask (.cmp .eql a b) t f
  | .neq => .ask (.cmp .eql a b) f t
def VT.dt (Q : L → Bool) : VT L → DT
  | .leaf l => .leaf (.x (Q l))
  | .ask o a b t f => askV o a b (t.dt Q) (f.dt Q)
  | .askb c t f => .ask (.x c) (t.dt Q) (f.dt Q)
  | .must o a b t => askV o a b (t.dt Q) .dead
  | .mustb c t => .ask (.x c) (t.dt Q) .dead
theorem askV_goal {ρ : Env} {o : Cm} {a b : IE} {t f : DT} (h : (askV o a b t f).goal ρ) : (o.run (a.den ρ) (b.den ρ) = true → t.goal ρ) ∧ (o.run (a.den ρ) (b.den ρ) = false → f.goal ρ) := by
  rw [IE.Z_den, IE.Z_den]
  cases o <;> simp only [askV, DT.goal, BE.P, Cm.run, beq_iff_eq, bne_iff_ne, decide_eq_true_eq, decide_eq_false_iff_not, beq_eq_false_iff_ne, bne_eq_false_iff_eq, ne_eq] at h ⊢
  · exact h
  · exact ⟨h.2, h.1⟩
  · exact ⟨fun g => h.2 (by omega), fun g => h.1 (by omega)⟩
  · exact h
  · exact ⟨fun g => h.2 (by omega), fun g => h.1 (by omega)⟩
  · exact ⟨fun g => h.1 (by omega), fun g => h.2 (by omega)⟩
theorem VT.eval_of {ρ : Env} {Q : L → Bool} : ∀ t : VT L, (t.dt Q).goal ρ → ∃ l, (t.dd ρ).eval = some l ∧ Q l = true
  | .leaf l, h => ⟨l, rfl, h⟩
  | .ask o a b t f, h => by
    have k := askV_goal h
    simp only [VT.dd, DD.eval]
    cases e : o.run (a.den ρ) (b.den ρ) with
    | true => exact VT.eval_of t (k.1 e)
    | false => exact VT.eval_of f (k.2 e)
  | .askb c t f, h => by
    simp only [VT.dd, DD.eval]
    cases c with
    | true => exact VT.eval_of t (h.1 rfl)
    | false => exact VT.eval_of f (h.2 (by simp [BE.P]))
  | .must o a b t, h => by
    have k := askV_goal h
    simp only [VT.dd, DD.eval]
    cases e : o.run (a.den ρ) (b.den ρ) with
    | true => exact VT.eval_of t (k.1 e)
    | false => exact (k.2 e).elim
  | .mustb c t, h => by
    simp only [VT.dd, DD.eval]
    cases c with
    | true => exact VT.eval_of t (h.1 rfl)
    | false => exact (h.2 (by simp [BE.P])).elim
end
section
variable {N R : Type} {A : AF N R}
/-- What is said of a leaf: of the next head, or of the end. -/
noncomputable def endQ (I : N → Prop) (E : R → Prop) (l : Lf N R) : Bool := @decide (match l with | .next b _ => I b | .done v _ => E v) (Classical.propDecidable _)
theorem endQ_iff {I : N → Prop} {E : R → Prop} {l : Lf N R} : endQ I E l = true ↔ (match l with | .next b _ => I b | .done v _ => E v) := @decide_eq_true_iff _ (Classical.propDecidable _)
theorem endQ_next {I : N → Prop} {E : R → Prop} {b : N} {r : List Nat} (h : I b) : endQ I E (.next b r) = true := endQ_iff.2 h
theorem endQ_done {I : N → Prop} {E : R → Prop} {v : R} {r : List Nat} (h : E v) : endQ I E (.done v r) = true := endQ_iff.2 h
theorem AF.go_of {Inv : N → Prop} {μ : N → Nat} {E : R → Prop} (hr : ∀ a, A.rgo a = none) (h : ∀ a, Inv a → ∃ l, (A.D a).eval = some l ∧ endQ (fun b => Inv b ∧ μ b < μ a) E l = true) : ∀ n a, μ a < n → Inv a → ∃ v, A.go n a = some v ∧ E v
  | 0, a, hn, _ => by omega
  | n + 1, a, hn, hi => by
    obtain ⟨l, e, q⟩ := h a hi
    have q := endQ_iff.1 q
    simp only [AF.go, hr a, e]
    cases l with
    | next b r => exact AF.go_of hr h n b (by have := q.2; omega) q.1
    | done v r => exact ⟨v, rfl, q⟩
theorem AF.run_of {Inv : N → Prop} {μ : N → Nat} {E : R → Prop} (hr : ∀ a, A.rgo a = none) (h : ∀ a, Inv a → ∃ l, (A.D a).eval = some l ∧ endQ (fun b => Inv b ∧ μ b < μ a) E l = true) (h0 : ∃ l, A.D0.eval = some l ∧ endQ Inv E l = true) : ∃ n v, A.run n = some v ∧ E v := by
  obtain ⟨l, e, q⟩ := h0
  have q := endQ_iff.1 q
  cases l with
  | next b r =>
    obtain ⟨v, hv, k⟩ := AF.go_of hr h (μ b + 1) b (by omega) q
    exact ⟨_, v, by simp only [AF.run, e]; exact hv, k⟩
  | done v r => exact ⟨0, v, by simp only [AF.run, e], q⟩
theorem AF.val_holds [Inhabited R] {E : R → Prop} (hr : ∀ a, A.rgo a = none) (h : ∃ n v, A.run n = some v ∧ E v) : A.fin = true ∧ E A.val := by
  obtain ⟨n, v, e, k⟩ := h
  obtain ⟨h1, h2⟩ := AF.val_of (AF.mono_none hr) e
  exact ⟨h1, h2 ▸ k⟩
end
end Go.Proofs.Ytjdldcmcjaaibaa.Cx

/- AUTOMATA BY HAND: what a tree of tests says of heads and results; operations on integers within bounds. -/
namespace Go.Proofs.Ytjdldcmcjaaibaa.Cx
set_option linter.unusedVariables false
set_option linter.unusedSimpArgs false
open Go Go.RowKit
section
variable {N R : Type} {A : AF N R}
/-- Each way through a tree ends at a head of which I holds, or with a result of which E holds. -/
def DD.sat (I : N → Prop) (E : R → Prop) : DD (Lf N R) → Prop
  | .leaf (.next b _) => I b
  | .leaf (.done v _) => E v
  | .ask c t f => (c = true → DD.sat I E t) ∧ (c = false → DD.sat I E f)
  | .must c t => c = true ∧ DD.sat I E t
  | .num x n t f => (decide (x = n) = true → DD.sat I E t) ∧ (decide (x = n) = false → DD.sat I E f)
  | .dead => False
theorem DD.sat_eval {I : N → Prop} {E : R → Prop} : ∀ (d : DD (Lf N R)), d.sat I E → ∃ l, d.eval = some l ∧ endQ I E l = true
  | .leaf (.next b r), h => ⟨_, rfl, endQ_next h⟩
  | .leaf (.done v r), h => ⟨_, rfl, endQ_done h⟩
  | .ask c t f, h => by
    simp only [DD.eval]
    cases c with
    | true => exact DD.sat_eval t (h.1 rfl)
    | false => exact DD.sat_eval f (h.2 rfl)
  | .must c t, h => by
    simp only [DD.eval]
    obtain ⟨h1, h2⟩ := h
    subst h1
    exact DD.sat_eval t h2
  | .num x n t f, h => by
    simp only [DD.eval]
    cases hd : decide (x = n) with
    | true => exact DD.sat_eval t (h.1 hd)
    | false => exact DD.sat_eval f (h.2 hd)
  | .dead, h => h.elim
theorem AF.run_sat {Inv : N → Prop} (μ : N → Nat) {E : R → Prop} (hr : ∀ a, A.rgo a = none) (h : ∀ a, Inv a → (A.D a).sat (fun b => Inv b ∧ μ b < μ a) E) (h0 : A.D0.sat Inv E) : ∃ n v, A.run n = some v ∧ E v :=
  AF.run_of hr (fun a hI => DD.sat_eval _ (h a hI)) (DD.sat_eval _ h0)
theorem AF.val_sat [Inhabited R] {Inv : N → Prop} (μ : N → Nat) {E : R → Prop} (hr : ∀ a, A.rgo a = none) (h : ∀ a, Inv a → (A.D a).sat (fun b => Inv b ∧ μ b < μ a) E) (h0 : A.D0.sat Inv E) : A.fin = true ∧ E A.val :=
  AF.val_holds hr (AF.run_sat μ hr h h0)
end
theorem arAdd {a b : Int} (h : -9223372036854775808 ≤ a + b ∧ a + b ≤ 9223372036854775807) : Ar.run .add .i64 a b = a + b := IntWalk.i64_in _ (by omega)
theorem arSub {a b : Int} (h : -9223372036854775808 ≤ a - b ∧ a - b ≤ 9223372036854775807) : Ar.run .sub .i64 a b = a - b := IntWalk.i64_in _ (by omega)
theorem arMul {a b : Int} (h : -9223372036854775808 ≤ a * b ∧ a * b ≤ 9223372036854775807) : Ar.run .mul .i64 a b = a * b := IntWalk.i64_in _ h
theorem arQuo {a b : Int} (h : -9223372036854775808 ≤ a.tdiv b ∧ a.tdiv b ≤ 9223372036854775807) : Ar.run .quo .i64 a b = a.tdiv b := IntWalk.i64_in _ h
theorem arMn {a b : Int} : Ar.run .mn .i64 a b = min a b := by simp only [Ar.run]; split <;> omega
theorem arMx {a b : Int} : Ar.run .mx .i64 a b = max a b := by simp only [Ar.run]; split <;> omega
theorem cmLss {a b : Int} : Cm.run .lss a b = true ↔ a < b := decide_eq_true_iff
theorem cmLeq {a b : Int} : Cm.run .leq a b = true ↔ a ≤ b := decide_eq_true_iff
theorem cmGtr {a b : Int} : Cm.run .gtr a b = true ↔ a > b := decide_eq_true_iff
theorem cmGeq {a b : Int} : Cm.run .geq a b = true ↔ a ≥ b := decide_eq_true_iff
theorem cmEql {a b : Int} : Cm.run .eql a b = true ↔ a = b := beq_iff_eq
theorem cmNeq {a b : Int} : Cm.run .neq a b = true ↔ a ≠ b := bne_iff_ne
theorem cmLssF {a b : Int} : Cm.run .lss a b = false ↔ b ≤ a := by rw [Cm.run, decide_eq_false_iff_not]; omega
theorem cmLeqF {a b : Int} : Cm.run .leq a b = false ↔ b < a := by rw [Cm.run, decide_eq_false_iff_not]; omega
theorem cmGtrF {a b : Int} : Cm.run .gtr a b = false ↔ a ≤ b := by rw [Cm.run, decide_eq_false_iff_not]; omega
theorem cmGeqF {a b : Int} : Cm.run .geq a b = false ↔ a < b := by rw [Cm.run, decide_eq_false_iff_not]; omega
theorem cmEqlF {a b : Int} : Cm.run .eql a b = false ↔ a ≠ b := by rw [Cm.run, beq_eq_false_iff_ne]
theorem cmNeqF {a b : Int} : Cm.run .neq a b = false ↔ a = b := by rw [Cm.run, bne_eq_false_iff_eq]
end Go.Proofs.Ytjdldcmcjaaibaa.Cx

/- Package fit: threads as they should be, greatest and least values of the first so many. -/
namespace Go.Proofs.Ytjdldcmcjaaibaa.Cx
set_option linter.unusedVariables false
set_option linter.unusedSimpArgs false
set_option maxRecDepth 100000
set_option maxHeartbeats 4000000
open Go Go.RowKit
/-- Turns in order. -/
structure OrdP (n : Nat) (l r : Nat → Int) : Prop where
  one : ∀ i, i < n → -10000000 ≤ l i ∧ l i ≤ r i ∧ r i ≤ 10000000
  two : ∀ i, i + 1 < n → r i ≤ l (i + 1)
/-- A thread as it should be. -/
structure ThOk (n : Nat) (l r : Nat → Int) (a b : Int) : Prop where
  some : 1 ≤ n
  few : n ≤ 60
  ord : OrdP n l r
  left : 0 ≤ a ∧ a ≤ 3000
  right : 0 ≤ b ∧ b ≤ 3000
/-- The error of a thread. -/
def CkT (n : Nat) (l r : Nat → Int) (a b e : Int) : Prop := 60 < n ∧ e = 5 ∨ n ≤ 60 ∧ (ThOk n l r a b ∧ e = 0 ∨ ¬ ThOk n l r a b ∧ e = 2)
theorem CkT.same {n : Nat} {l r : Nat → Int} {a b e f : Int} (h : CkT n l r a b e) (g : CkT n l r a b f) : e = f := by
  unfold CkT at h g
  rcases h with ⟨h, rfl⟩ | ⟨h, ⟨k, rfl⟩ | ⟨k, rfl⟩⟩ <;> rcases g with ⟨g, rfl⟩ | ⟨g, ⟨m, rfl⟩ | ⟨m, rfl⟩⟩ <;> first | rfl | omega | exact absurd k m | exact absurd m k
theorem CkT.ok {n : Nat} {l r : Nat → Int} {a b e : Int} (h : CkT n l r a b e) (he : e = 0) : ThOk n l r a b := by
  rcases h with ⟨_, g⟩ | ⟨_, ⟨k, _⟩ | ⟨_, g⟩⟩
  · omega
  · exact k
  · omega
theorem CkT.vals {n : Nat} {l r : Nat → Int} {a b e : Int} (h : CkT n l r a b e) : e = 0 ∨ e = 2 ∨ e = 5 := by
  rcases h with ⟨_, g⟩ | ⟨_, ⟨_, g⟩ | ⟨_, g⟩⟩ <;> omega
/-- The first k turns, and the last place that they reach. -/
structure OrdTo (n : Nat) (l r : Nat → Int) (k : Nat) (b : Int) : Prop where
  le : k ≤ n
  low : -10000000 ≤ b
  one : ∀ i, i < k → -10000000 ≤ l i ∧ l i ≤ r i ∧ r i ≤ b
  two : ∀ i, i + 1 < k → r i ≤ l (i + 1)
  none : k = 0 → b = -10000000
  last : ∀ i, k = i + 1 → b = r i
theorem OrdTo.start (n : Nat) (l r : Nat → Int) : OrdTo n l r 0 (-10000000) :=
  ⟨by omega, by omega, fun i h => by omega, fun i h => by omega, fun _ => rfl, fun i h => by omega⟩
theorem OrdTo.next {n : Nat} {l r : Nat → Int} {k : Nat} {b : Int} (h : OrdTo n l r k b) (hk : k < n) (h1 : b ≤ l k) (h2 : l k ≤ r k) : OrdTo n l r (k + 1) (r k) := by
  refine ⟨hk, ?_, fun i hi => ?_, fun i hi => ?_, fun e => by omega, fun i e => ?_⟩
  · have := h.low; omega
  · rcases Nat.lt_or_ge i k with g | g
    · have := h.one i g; omega
    · obtain rfl : i = k := by omega
      have := h.low; omega
  · rcases Nat.lt_or_ge (i + 1) k with g | g
    · exact h.two i g
    · obtain rfl : k = i + 1 := by omega
      have := h.last i rfl; omega
  · obtain rfl : i = k := by omega
    rfl
theorem OrdTo.done {n : Nat} {l r : Nat → Int} {b : Int} (h : OrdTo n l r n b) (hb : b ≤ 10000000) : OrdP n l r :=
  ⟨fun i hi => by have := h.one i hi; omega, h.two⟩
theorem OrdTo.high {n : Nat} {l r : Nat → Int} {b : Int} (h : OrdTo n l r n b) (hb : ¬ b ≤ 10000000) : ¬ OrdP n l r := fun g => by
  rcases Nat.eq_zero_or_pos n with e | e
  · have := h.none e; omega
  · obtain ⟨i, rfl⟩ : ∃ i, n = i + 1 := ⟨n - 1, by omega⟩
    have := h.last i rfl
    have := g.one i (by omega); omega
theorem OrdTo.low_bad {n : Nat} {l r : Nat → Int} {k : Nat} {b : Int} (h : OrdTo n l r k b) (hk : k < n) (h1 : l k < b) : ¬ OrdP n l r := fun g => by
  rcases Nat.eq_zero_or_pos k with e | e
  · have := h.none e
    have := g.one k hk; omega
  · obtain ⟨i, rfl⟩ : ∃ i, k = i + 1 := ⟨k - 1, by omega⟩
    have := h.last i rfl
    have := g.two i hk; omega
theorem OrdP.bad {n : Nat} {l r : Nat → Int} {k : Nat} (hk : k < n) (h1 : r k < l k ∨ 10000000 < r k ∨ l k < -10000000) : ¬ OrdP n l r := fun g => by
  have := g.one k hk; omega
theorem OrdP.bad2 {n : Nat} {l r : Nat → Int} {k : Nat} (hk : k + 1 < n) (h1 : l (k + 1) < r k) : ¬ OrdP n l r := fun g => by
  have := g.two k hk; omega
/-- The first k turns are as they should be. -/
structure OrdUp (n : Nat) (l r : Nat → Int) (k : Nat) : Prop where
  le : k ≤ n
  one : ∀ i, i < k → -10000000 ≤ l i ∧ l i ≤ r i ∧ r i ≤ 10000000
  two : ∀ i, i + 1 < k → r i ≤ l (i + 1)
theorem OrdUp.start (n : Nat) (l r : Nat → Int) : OrdUp n l r 0 := ⟨by omega, fun i h => by omega, fun i h => by omega⟩
theorem OrdUp.next {n : Nat} {l r : Nat → Int} {k : Nat} (h : OrdUp n l r k) (hk : k < n) (h1 : -10000000 ≤ l k ∧ l k ≤ r k ∧ r k ≤ 10000000) (h2 : ∀ i, k = i + 1 → r i ≤ l k) : OrdUp n l r (k + 1) := by
  refine ⟨hk, fun i hi => ?_, fun i hi => ?_⟩
  · rcases Nat.lt_or_ge i k with g | g
    · exact h.one i g
    · obtain rfl : i = k := by omega
      exact h1
  · rcases Nat.lt_or_ge (i + 1) k with g | g
    · exact h.two i g
    · obtain rfl : k = i + 1 := by omega
      exact h2 i rfl
theorem OrdUp.done {n : Nat} {l r : Nat → Int} (h : OrdUp n l r n) : OrdP n l r := ⟨h.one, h.two⟩
/-- The greatest, the least value of the first k, and of a start. -/
def mxK (f : Nat → Int) (b : Int) : Nat → Int
  | 0 => b
  | k + 1 => max (mxK f b k) (f k)
def mnK (f : Nat → Int) (b : Int) : Nat → Int
  | 0 => b
  | k + 1 => min (mnK f b k) (f k)
theorem mxK_add {f : Nat → Int} {b b' c : Int} : ∀ {k : Nat}, (∀ i, i < k + 1 → b ≤ f i + c ∧ b' ≤ f i) → mxK (fun i => f i + c) b (k + 1) = mxK f b' (k + 1) + c
  | 0, h => by have := h 0 (by omega); simp only [mxK]; omega
  | k + 1, h => by
    have e := mxK_add (k := k) (fun i hi => h i (by omega))
    show max (mxK (fun i => f i + c) b (k + 1)) (f (k + 1) + c) = max (mxK f b' (k + 1)) (f (k + 1)) + c
    rw [e]; omega
theorem mnK_sub {f : Nat → Int} {b b' c : Int} : ∀ {k : Nat}, (∀ i, i < k + 1 → f i - c ≤ b ∧ f i ≤ b') → mnK (fun i => f i - c) b (k + 1) = mnK f b' (k + 1) - c
  | 0, h => by have := h 0 (by omega); simp only [mnK]; omega
  | k + 1, h => by
    have e := mnK_sub (k := k) (fun i hi => h i (by omega))
    show min (mnK (fun i => f i - c) b (k + 1)) (f (k + 1) - c) = min (mnK f b' (k + 1)) (f (k + 1)) - c
    rw [e]; omega
theorem mxK_rng {f : Nat → Int} {b A B : Int} (hb : A ≤ b ∧ b ≤ B) : ∀ {k : Nat}, (∀ i, i < k → A ≤ f i ∧ f i ≤ B) → A ≤ mxK f b k ∧ mxK f b k ≤ B
  | 0, _ => hb
  | k + 1, h => by
    have := mxK_rng hb (k := k) (fun i hi => h i (by omega))
    have := h k (by omega)
    simp only [mxK]; omega
theorem mnK_rng {f : Nat → Int} {b A B : Int} (hb : A ≤ b ∧ b ≤ B) : ∀ {k : Nat}, (∀ i, i < k → A ≤ f i ∧ f i ≤ B) → A ≤ mnK f b k ∧ mnK f b k ≤ B
  | 0, _ => hb
  | k + 1, h => by
    have := mnK_rng hb (k := k) (fun i hi => h i (by omega))
    have := h k (by omega)
    simp only [mnK]; omega
theorem mxK_one {f : Nat → Int} {b A B : Int} : ∀ {k : Nat}, (∀ i, i < k + 1 → A ≤ f i ∧ f i ≤ B ∧ b ≤ f i) → A ≤ mxK f b (k + 1) ∧ mxK f b (k + 1) ≤ B
  | 0, h => by have := h 0 (by omega); simp only [mxK]; omega
  | k + 1, h => by
    have := mxK_one (k := k) (fun i hi => h i (by omega))
    have := h (k + 1) (by omega)
    show A ≤ max (mxK f b (k + 1)) (f (k + 1)) ∧ max (mxK f b (k + 1)) (f (k + 1)) ≤ B
    omega
theorem mnK_one {f : Nat → Int} {b A B : Int} : ∀ {k : Nat}, (∀ i, i < k + 1 → A ≤ f i ∧ f i ≤ B ∧ f i ≤ b) → A ≤ mnK f b (k + 1) ∧ mnK f b (k + 1) ≤ B
  | 0, h => by have := h 0 (by omega); simp only [mnK]; omega
  | k + 1, h => by
    have := mnK_one (k := k) (fun i hi => h i (by omega))
    have := h (k + 1) (by omega)
    show A ≤ min (mnK f b (k + 1)) (f (k + 1)) ∧ min (mnK f b (k + 1)) (f (k + 1)) ≤ B
    omega
theorem mxK_congr {f g : Nat → Int} {b : Int} : ∀ {k : Nat}, (∀ i, i < k → f i = g i) → mxK f b k = mxK g b k
  | 0, _ => rfl
  | k + 1, h => by simp only [mxK, mxK_congr (k := k) (fun i hi => h i (by omega)), h k (by omega)]
theorem mnK_congr {f g : Nat → Int} {b : Int} : ∀ {k : Nat}, (∀ i, i < k → f i = g i) → mnK f b k = mnK g b k
  | 0, _ => rfl
  | k + 1, h => by simp only [mnK, mnK_congr (k := k) (fun i hi => h i (by omega)), h k (by omega)]
end Go.Proofs.Ytjdldcmcjaaibaa.Cx

/- MORE FOR AUTOMATA BY HAND: what a tree says, weakened; what a call's row says of tables. -/
namespace Go.Proofs.Ytjdldcmcjaaibaa.Cx
set_option linter.unusedVariables false
set_option linter.unusedSimpArgs false
open Go Go.RowKit
theorem DD.sat_mono {N R : Type} {I I' : N → Prop} {E E' : R → Prop} (hI : ∀ b, I b → I' b) (hE : ∀ v, E v → E' v) : ∀ (d : DD (Lf N R)), d.sat I E → d.sat I' E'
  | .leaf (.next b _), h => hI b h
  | .leaf (.done v _), h => hE v h
  | .ask c t f, h => ⟨fun hc => DD.sat_mono hI hE t (h.1 hc), fun hc => DD.sat_mono hI hE f (h.2 hc)⟩
  | .must c t, h => ⟨h.1, DD.sat_mono hI hE t h.2⟩
  | .num x n t f, h => ⟨fun hc => DD.sat_mono hI hE t (h.1 hc), fun hc => DD.sat_mono hI hE f (h.2 hc)⟩
  | .dead, h => h.elim
/-- A loop that goes on by one as long as P holds of its number. -/
theorem loop_val {N R : Type} {A : AF N R} [Inhabited R] (n0 : Int → N) (pos : N → Int) (hpos : ∀ p, pos (n0 p) = p) (n : Nat) (P : Nat → Prop) {E : R → Prop} (hr : ∀ a, A.rgo a = none) (h0 : A.D0.sat (fun b => b = n0 0) E)
    (step : ∀ p : Int, 0 ≤ p → p ≤ n → (∀ i : Nat, (i : Int) < p → P i) → (A.D (n0 p)).sat (fun b => b = n0 (p + 1) ∧ p < n ∧ P p.toNat) E) : A.fin = true ∧ E A.val := by
  refine AF.val_sat (Inv := fun b => ∃ p, b = n0 p ∧ 0 ≤ p ∧ p ≤ n ∧ ∀ i : Nat, (i : Int) < p → P i) (fun b => (n - pos b).toNat) hr ?_ ?_
  · rintro _ ⟨p, rfl, h1, h2, h3⟩
    refine DD.sat_mono ?_ (fun _ h => h) _ (step p h1 h2 h3)
    rintro _ ⟨rfl, g1, g2⟩
    refine ⟨⟨p + 1, rfl, by omega, by omega, fun i hi => ?_⟩, by simp only [hpos]; omega⟩
    by_cases he : (i : Int) < p
    · exact h3 i he
    · obtain rfl : i = p.toNat := by omega
      exact g2
  · refine DD.sat_mono ?_ (fun _ h => h) _ h0
    rintro _ rfl
    exact ⟨0, rfl, Int.le_refl _, by omega, fun i hi => by omega⟩
/-- The first number of which P does not hold. -/
theorem find_val {N : Type} {A : AF N Int} (n0 : Int → N) (pos : N → Int) (hpos : ∀ p, pos (n0 p) = p) (n : Nat) (P : Nat → Prop) (hr : ∀ a, A.rgo a = none) (h0 : A.D0 = .leaf (.next (n0 0) []))
    (step : ∀ p : Int, 0 ≤ p → p ≤ n → (A.D (n0 p)).sat (fun b => b = n0 (p + 1) ∧ p < n ∧ P p.toNat) (fun v => (v = -1 ∧ (n : Int) ≤ p) ∨ (v = p ∧ p < n ∧ ¬ P p.toNat))) :
    A.fin = true ∧ ((A.val = -1 ∧ ∀ i : Nat, (i : Int) < n → P i) ∨ (0 ≤ A.val ∧ ¬ ∀ i : Nat, (i : Int) < n → P i)) := by
  refine loop_val n0 pos hpos n P (E := fun v => (v = -1 ∧ ∀ i : Nat, (i : Int) < n → P i) ∨ (0 ≤ v ∧ ¬ ∀ i : Nat, (i : Int) < n → P i)) hr ?_ fun p h1 h2 h3 => DD.sat_mono (fun _ h => h) ?_ _ (step p h1 h2)
  · rw [h0]; exact rfl
  · rintro v (⟨rfl, h⟩ | ⟨hv, h, h'⟩)
    · exact .inl ⟨rfl, fun i hi => h3 i (by omega)⟩
    · exact .inr ⟨by omega, fun k => h' (k p.toNat (by omega))⟩
/-- A function without loops. -/
theorem flat_val {N R : Type} {A : AF N R} [Inhabited R] {E : R → Prop} (hr : ∀ a, A.rgo a = none) (h0 : A.D0.sat (fun _ => False) E) : A.fin = true ∧ E A.val :=
  AF.val_sat (Inv := fun _ => False) (fun _ => 0) hr (fun _ h => h.elim) h0
theorem all1 {p : Nat → Prop} : (∀ i : Nat, (i : Int) < ((1 : Nat) : Int) → p i) ↔ p 0 :=
  ⟨fun h => h 0 (by omega), fun h i hi => by
    obtain rfl : i = 0 := by omega
    exact h⟩
theorem all3 {p : Nat → Prop} : (∀ i : Nat, (i : Int) < ((3 : Nat) : Int) → p i) ↔ p 0 ∧ p 1 ∧ p 2 := ⟨fun h => ⟨h 0 (by omega), h 1 (by omega), h 2 (by omega)⟩, fun h i hi => by
  obtain rfl | rfl | rfl : i = 0 ∨ i = 1 ∨ i = 2 := by omega
  · exact h.1
  · exact h.2.1
  · exact h.2.2⟩
/-- The last number below which something holds, one more. -/
theorem all_next {p : Nat → Prop} {k : Int} (h0 : 0 ≤ k) (h : ∀ i : Nat, (i : Int) < k → p i) (hk : p k.toNat) : ∀ i : Nat, (i : Int) < k + 1 → p i := by
  intro i hi
  by_cases he : (i : Int) < k
  · exact h i he
  · obtain rfl : i = k.toNat := by omega
    exact hk
end Go.Proofs.Ytjdldcmcjaaibaa.Cx

/- AUTOMATA BY HAND, WITH RANGES OVER FUNCTIONS: what a tree says where heads are ranges. -/
namespace Go.Proofs.Ytjdldcmcjaaibaa.Cx
set_option linter.unusedVariables false
set_option linter.unusedSimpArgs false
open Go Go.RowKit
section
variable {N R : Type} {A : AF N R}
theorem DD.sat_evl {I : N → Prop} {E : R → Prop} : ∀ (d : DD (Lf N R)), d.sat I E → (∃ b r, d.eval = some (.next b r) ∧ I b) ∨ ∃ v r, d.eval = some (.done v r) ∧ E v
  | .leaf (.next b r), h => .inl ⟨b, r, rfl, h⟩
  | .leaf (.done v r), h => .inr ⟨v, r, rfl, h⟩
  | .ask c t f, h => by
    simp only [DD.eval]
    cases c with
    | true => exact DD.sat_evl t (h.1 rfl)
    | false => exact DD.sat_evl f (h.2 rfl)
  | .must c t, h => by
    simp only [DD.eval]
    obtain ⟨h1, h2⟩ := h
    subst h1
    exact DD.sat_evl t h2
  | .num x n t f, h => by
    simp only [DD.eval]
    cases hd : decide (x = n) with
    | true => exact DD.sat_evl t (h.1 hd)
    | false => exact DD.sat_evl f (h.2 hd)
  | .dead, h => h.elim
/-- Heads are loops, or ranges over functions: what a range's iterator comes to within some rounds is given. -/
theorem AF.run_satR (hM : A.Mono) {Inv : N → Prop} (μ : N → Nat) {E : R → Prop}
    (h : ∀ a, Inv a → (A.rgo a = none ∧ (A.D a).sat (fun b => Inv b ∧ μ b < μ a) E) ∨ ∃ q n D, A.rgo a = some q ∧ q n = some D ∧ DD.sat (fun b => Inv b ∧ μ b < μ a) E D)
    (h0 : A.D0.sat Inv E) : ∃ n v, A.run n = some v ∧ E v := by
  have key : ∀ k a, Inv a → μ a < k → ∃ n v, A.go n a = some v ∧ E v := by
    intro k
    induction k with
    | zero => intro a _ h; omega
    | succ k ih =>
      intro a hI hk
      rcases h a hI with ⟨hn, hs⟩ | ⟨q, n, D, hq, hD, hs⟩
      · rcases DD.sat_evl _ hs with ⟨b, r, he, hb, hl⟩ | ⟨v, r, he, hv⟩
        · obtain ⟨m, v, hm, hv⟩ := ih b hb (by omega)
          refine ⟨m + 1, v, ?_, hv⟩
          rw [AF.go, hn]
          simp only [he]
          exact hm
        · refine ⟨1, v, ?_, hv⟩
          rw [AF.go, hn]
          simp only [he]
      · rcases DD.sat_evl _ hs with ⟨b, r, he, hb, hl⟩ | ⟨v, r, he, hv⟩
        · obtain ⟨m, v, hm, hv⟩ := ih b hb (by omega)
          refine ⟨max n m + 1, v, ?_, hv⟩
          rw [AF.go, hq]
          simp only [hM a q n (max n m) D hq (Nat.le_max_left ..) hD, he]
          exact AF.go_mono hM (Nat.le_max_right ..) hm
        · refine ⟨n + 1, v, ?_, hv⟩
          rw [AF.go, hq]
          simp only [hD, he]
  rcases DD.sat_evl _ h0 with ⟨b, r, he, hb⟩ | ⟨v, r, he, hv⟩
  · obtain ⟨n, v, hn, hv⟩ := key _ b hb (Nat.lt_succ_self _)
    refine ⟨n, v, ?_, hv⟩
    unfold AF.run
    rw [he]
    exact hn
  · refine ⟨0, v, ?_, hv⟩
    unfold AF.run
    rw [he]
theorem AF.val_satR [Inhabited R] (hM : A.Mono) {Inv : N → Prop} (μ : N → Nat) {E : R → Prop}
    (h : ∀ a, Inv a → (A.rgo a = none ∧ (A.D a).sat (fun b => Inv b ∧ μ b < μ a) E) ∨ ∃ q n D, A.rgo a = some q ∧ q n = some D ∧ DD.sat (fun b => Inv b ∧ μ b < μ a) E D)
    (h0 : A.D0.sat Inv E) : A.fin = true ∧ E A.val := by
  obtain ⟨n, v, hn, hv⟩ := AF.run_satR hM μ h h0
  have k := AF.val_of hM hn
  exact ⟨k.1, by rw [k.2]; exact hv⟩
/-- A head that is a range over an automaton of its own. -/
theorem AF.mono_map (h : ∀ a, A.rgo a = none ∨ ∃ (N' R' : Type) (B : AF N' R') (f : R' → DD (Lf N R)), B.Mono ∧ A.rgo a = some (fun n => (B.run n).map f)) : A.Mono := by
  intro a q n m D hq hnm hD
  rcases h a with h | ⟨N', R', B, f, hB, h⟩
  · rw [h] at hq; cases hq
  · rw [h] at hq
    cases hq
    obtain ⟨v, hv, rfl⟩ := Option.map_eq_some_iff.1 hD
    show Option.map f (B.run m) = _
    rw [AF.run_mono hB hnm hv]
    rfl
end
end Go.Proofs.Ytjdldcmcjaaibaa.Cx
