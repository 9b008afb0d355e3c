/- AUTOMATA: a function's code as rounds between the heads of its loops: the evaluator runs from a head to the next one. -/
import Derived.Test.YtknphpihipkdpaaCxW
set_option linter.unusedSimpArgs false
set_option linter.unusedVariables false
namespace Go.Proofs.Ytknphpihipkdpaa.Cx
open Go Go.RowKit

/-! ## A loop at its head -/

def LoopW (F : Fence) (n : Nat) (P : Program) (c : Code) (Q : Exit → Act → World → Prop) (a : Act) (w : World) : Prop :=
  ∀ (b : Frame) (k : List Item) (cs : List Frame), b.roundOf = F.round → F.fn b.fn → F.room (cs.length + 1 + n) →
    ∃ e a' w', Q e a' w' ∧ ArrivesIn (Machine.fenced P F) P (lone (b.atR a (.code c :: .inLoop c :: k)) cs w) b k cs e a' w'

theorem LoopW.wpIn {F : Fence} {n : Nat} {P : Program} {Q : Exit → Act → World → Prop} {a : Act} {w : World} {c : Code} (h : LoopW F n P c Q a w) : (Code.loop c).wpIn F n P Q a w := by
  intro b k cs hro hb hr
  obtain ⟨e, a', w', hq, harr⟩ := h b k cs hro hb hr
  exact ⟨e, a', w', hq, .of_steps (.one (fenced_calm hb hr rfl) stepR_loop) harr⟩

theorem LoopW.unfold {F : Fence} {n : Nat} {P : Program} {Q : Exit → Act → World → Prop} {a : Act} {w : World} {c : Code} (h : c.wpIn F n P (Exit.then (LoopW F n P c Q) Q) a w) : LoopW F n P c Q a w := by
  intro b k cs hro hb hr
  obtain ⟨e, a₁, w₁, hq, harr⟩ := h b (.inLoop c :: k) cs hro hb hr
  cases e with
  | normal =>
    obtain ⟨e₂, a₂, w₂, hq₂, harr₂⟩ := hq b k cs hro hb hr
    exact ⟨e₂, a₂, w₂, hq₂, .of_steps (StepsIn.trans harr (.one (fenced_calm hb hr rfl) stepR_inLoop)) harr₂⟩
  | exit id => exact ⟨_, a₁, w₁, hq, .pass (x := .inLoop c) rfl (fun _ _ => .inl (by simp)) harr⟩
  | goto l => exact ⟨_, a₁, w₁, hq, .pass (x := .inLoop c) rfl (fun _ _ => .inl (by simp)) harr⟩
  | ret => exact ⟨_, a₁, w₁, hq, .pass (x := .inLoop c) rfl (fun _ _ => .inl (by simp)) harr⟩
  | panic ch => exact ⟨_, a₁, w₁, hq, .pass (x := .inLoop c) rfl (fun _ _ => .inl (by simp)) harr⟩
  | outgrown => exact ⟨_, a₁, w₁, hq, .pass (x := .inLoop c) rfl (fun _ _ => .inl (by simp)) harr⟩

/-- A loop from its head, whose body is this. -/
def SemL (P : Program) (ρ : Env) (X : Fx) (c : Code) (p : Pt) (Φ : Ex → Pt → Prop) : Prop :=
  ∀ (Q : Exit → Act → World → Prop) (a : Act) (w : World), SR ρ X p a w → (∀ e p' a' w', Φ e p' → SR ρ X p' a' w' → Q e.conv a' w') → LoopW (fc X.ro) X.n P c Q a w

/-- A round's end. -/
def InL (P : Program) (ρ : Env) (X : Fx) (c : Code) (Φ : Ex → Pt → Prop) : Ex → Pt → Prop
  | .normal, p => SemL P ρ X c p Φ
  | e, p => Φ e p

section
variable {P : Program} {C : Ctx} {ρ : Env} {X : Fx} {c d : Code} {p : Pt} {Φ Ψ : Ex → Pt → Prop}

theorem SemL.loop (h : SemL P ρ X c p Φ) : Sem P ρ X (.loop c) p Φ := fun Q a w hS hQ => (h Q a w hS hQ).wpIn

theorem SemL.unfold (h : Sem P ρ X c p (InL P ρ X c Φ)) : SemL P ρ X c p Φ := by
  intro Q a w hS hQ
  refine LoopW.unfold (h _ a w hS fun e p' a' w' h1 h2 => ?_)
  cases e with
  | normal => exact h1 Q a' w' h2 hQ
  | exit i => exact hQ _ _ _ _ h1 h2
  | ret => exact hQ _ _ _ _ h1 h2

theorem SemL.pre {p2 : Pt} (hs : ∀ a w, SR ρ X p a w → SR ρ X p2 a w) (h : SemL P ρ X c p2 Φ) : SemL P ρ X c p Φ :=
  fun Q a w hS hQ => h Q a w (hs a w hS) hQ
theorem SemL.mat {ren : Nat → Nat} {p2 : Pt} (hX : FxOk ρ X) (hm : Mat ρ X ren p p2) (h : SemL P ρ X c p2 Φ) : SemL P ρ X c p Φ := .pre (fun a w hS => hS.mat hX hm) h

/-- What is to hold where a part of a statement is left, loops among what is around it. -/
def AftL (P : Program) (ρ : Env) (X : Fx) : Code → List Nat → (Ex → Pt → Prop) → Ex → Pt → Prop
  | _, [], Φ => Φ
  | .seq a b, d :: l, Φ => match d with
    | 0 => AftL P ρ X a l (Then P ρ X b Φ)
    | _ + 1 => AftL P ρ X b l Φ
  | .cond _ a b, d :: l, Φ => match d with
    | 0 => AftL P ρ X a l Φ
    | _ + 1 => AftL P ρ X b l Φ
  | .block i b, _ :: l, Φ => AftL P ρ X b l (Inside i Φ)
  | .scope b, _ :: l, Φ => AftL P ρ X b l Φ
  | .loop b, _ :: l, Φ => AftL P ρ X b l (InL P ρ X b Φ)
  | _, _, _ => fun _ _ => False

def LoopAt (P : Program) (ρ : Env) (X : Fx) (c : Code) (Ψ : Ex → Pt → Prop) (p : Pt) : Prop :=
  match c with
  | .loop b => SemL P ρ X b p Ψ
  | .rangeFunc f ps as' bd => Sem P ρ X (.rangeFunc f ps as' bd) p Ψ
  | _ => False

/-- What is left to be shown at a loop's head. -/
def AtL (P : Program) (ρ : Env) (X : Fx) (c : Code) (π : List Nat) (Φ : Ex → Pt → Prop) (p : Pt) : Prop :=
  LoopAt P ρ X (codeAt c π) (AftL P ρ X c π Φ) p

theorem AtL.mat {ren : Nat → Nat} {p2 : Pt} {π : List Nat} (hX : FxOk ρ X) (hm : Mat ρ X ren p p2) (h : AtL P ρ X c π Φ p2) : AtL P ρ X c π Φ p := by
  unfold AtL at *
  generalize codeAt c π = d at *
  cases d <;> first | exact h.elim | skip
  · exact SemL.mat hX hm h
  · exact Sem.mat hX hm h

inductive KR where
  | at (π : List Nat)
  | fin (e : Ex)

structure KO where
  r : KR
  T : Tr CV
  s : St
  W : List Nat

def KR.down (d : Nat) : KR → KR
  | .at π => .at (d :: π)
  | r => r
def KO.down (d : Nat) (o : KO) : KO := ⟨o.r.down d, o.T, o.s, o.W⟩
/-- A block's end. -/
def KR.blk (i : Nat) : KR → KR
  | .at π => .at (0 :: π)
  | .fin (.exit j) => .fin (bif Nat.beq j i then .normal else .exit j)
  | r => r
def KO.blk (i : Nat) (o : KO) : KO := ⟨o.r.blk i, o.T, o.s, o.W⟩
/-- A round's end. -/
def KR.lp : KR → KR
  | .at π => .at (0 :: π)
  | .fin .normal => .at []
  | r => r
def KO.lp (o : KO) : KO := ⟨o.r.lp, o.T, o.s, o.W⟩
def KO.add (W : List Nat) (o : KO) : KO := ⟨o.r, o.T, o.s, W ++ o.W⟩

def firstReg : Code → Option Nat
  | .region i _ _ => some i
  | .seq a b => match firstReg a with | some i => some i | none => firstReg b
  | .cond _ a b => match firstReg a with | some i => some i | none => firstReg b
  | .block _ b | .loop b | .scope b => firstReg b
  | _ => none

/-- The evaluator runs from a statement's start up to a loop's head, or the statement's end; loops of the list are run. -/
noncomputable def startK (C : Ctx) (m base nt : Nat) (un : List Nat) : Code → Tr CV → St → Option KO
  | .seq a b, T, s =>
    match startK C m base nt un a T s with
    | some ⟨.fin .normal, T1, s1, W1⟩ => match startK C m base nt un b T1 s1 with
      | some o => some ((o.down 1).add W1)
      | none => none
    | some o => some (o.down 0)
    | none => none
  | .cond x a b, T, s =>
    match ev T x with
    | some (.bool e) => match s.decide e with
      | some (true, s1) => match startK C m base nt un a T s1 with | some o => some (o.down 0) | none => none
      | some (false, s1) => match startK C m base nt un b T s1 with | some o => some (o.down 1) | none => none
      | none => none
    | _ => none
  | .block i b, T, s => match startK C m base nt un b T s with | some o => some (o.blk i) | none => none
  | .scope b, T, s => match startK C m base nt un b T s with | some o => some (o.down 0) | none => none
  | .loop b, T, s =>
    bif (match firstReg b with | some i => un.any (Nat.beq i) | none => false) then
      match Cx.eval C m base (.code (.loop b) nt T) s with
      | some ⟨.code e T1, s1, _, W1⟩ => some ⟨.fin e, T1, s1, W1⟩
      | _ => none
    else some ⟨.at [], T, s, []⟩
  | .rangeFunc f ps as' bd, T, s =>
    bif (match firstReg (.seq as' bd) with | some i => un.any (Nat.beq (i + 1000000)) | none => false) then some ⟨.at [], T, s, []⟩
    else match Cx.eval C m base (.code (.rangeFunc f ps as' bd) nt T) s with
      | some ⟨.code e T1, s1, _, W1⟩ => some ⟨.fin e, T1, s1, W1⟩
      | _ => none
  | c, T, s => match Cx.eval C m base (.code c nt T) s with
    | some ⟨.code e T1, s1, _, W1⟩ => some ⟨.fin e, T1, s1, W1⟩
    | _ => none

/-- The evaluator runs on from where a part of a statement was left. -/
noncomputable def resumeK (C : Ctx) (m base nt : Nat) (un : List Nat) : Code → List Nat → Ex → Tr CV → St → Option KO
  | _, [], e, T, s => some ⟨.fin e, T, s, []⟩
  | .seq a b, d :: l, e, T, s => match d with
    | 0 => match resumeK C m base nt un a l e T s with
      | some ⟨.fin .normal, T1, s1, W1⟩ => match startK C m base nt un b T1 s1 with
        | some o => some ((o.down 1).add W1)
        | none => none
      | some o => some (o.down 0)
      | none => none
    | _ + 1 => match resumeK C m base nt un b l e T s with | some o => some (o.down 1) | none => none
  | .cond _ a b, d :: l, e, T, s => match d with
    | 0 => match resumeK C m base nt un a l e T s with | some o => some (o.down 0) | none => none
    | _ + 1 => match resumeK C m base nt un b l e T s with | some o => some (o.down 1) | none => none
  | .block i b, _ :: l, e, T, s => match resumeK C m base nt un b l e T s with | some o => some (o.blk i) | none => none
  | .scope b, _ :: l, e, T, s => match resumeK C m base nt un b l e T s with | some o => some (o.down 0) | none => none
  | .loop b, _ :: l, e, T, s => match resumeK C m base nt un b l e T s with | some o => some o.lp | none => none
  | _, _, _, _, _ => none

def Obl (P : Program) (ρ : Env) (X : Fx) (c : Code) (Φ : Ex → Pt → Prop) : KR → Pt → Prop
  | .at π, p => AtL P ρ X c π Φ p
  | .fin e, p => Φ e p

/-- What a run from a statement's start is. -/
structure KS (P : Program) (ρ : Env) (base nt : Nat) (s s1 : St) (W : List Nat) (obl goal : Fx → (Ex → Pt → Prop) → Prop) : Prop where
  next : s.next ≤ s1.next
  pc : ∃ l, s1.pc = l ++ s.pc
  old : ∀ b, b < base → b ∉ W → s1.heap.get b = s.heap.get b
  run : ∀ (X : Fx) (Φ : Ex → Pt → Prop), FxOk ρ X → X.base = base → X.nt = nt → (∀ q ∈ s1.pc, q.holds ρ) → (∀ b ∈ W, b ∈ X.W) → obl X Φ → goal X Φ

end

section
variable {P : Program} {C : Ctx} {ρ : Env} {m base nt : Nat} {un : List Nat}

theorem KR.down_fin {d : Nat} {r : KR} {e : Ex} (h : r.down d = .fin e) : r = .fin e := by cases r <;> simp_all [KR.down]

theorem obl_down0 {X : Fx} {Φ Ψ : Ex → Pt → Prop} {c a : Code} {d : Nat} {r : KR} {p : Pt} (hf : ∀ e, Φ e p → r = .fin e → Ψ e p) (ha : ∀ π, r = .at π → AtL P ρ X c (d :: π) Φ p → AtL P ρ X a π Ψ p) (h : Obl P ρ X c Φ (r.down d) p) : Obl P ρ X a Ψ r p := by
  cases r with
  | «at» π => exact ha π rfl h
  | fin e => exact hf e h rfl

theorem eval_start (hC : CtxOk3 P C) (hM : MemoOk P C ρ) {c : Code} {T T1 : Tr CV} {s s1 : St} {e : Ex} {R W : List Nat} (hr : regsOk c = true) (hle : base ≤ s.next) (he : Cx.eval C m base (.code c nt T) s = some ⟨.code e T1, s1, R, W⟩) :
    KS P ρ base nt s s1 W (fun X Φ => Φ e ⟨T1, s1.heap, s1.next⟩) (fun X Φ => Sem P ρ X c ⟨T, s.heap, s.next⟩ Φ) := by
  have k := (eval_ok (ρ := ρ) hC hM m).code _ _ _ _ _ _ _ _ _ _ he hle
  refine ⟨k.frm.next, k.frm.pc, fun b hb hW => k.frm.get b hW (fun h => by omega), fun X Φ hX hb hnt hp hW h => ?_⟩
  subst hb hnt
  exact Sem.evalS (p := ⟨T, s.heap, s.next⟩) hC hM hX hr rfl rfl he hp hW h

theorem startK_ok (hC : CtxOk3 P C) (hM : MemoOk P C ρ) : ∀ (c : Code) (T : Tr CV) (s : St) (o : KO), regsOk c = true → base ≤ s.next → startK C m base nt un c T s = some o →
    KS P ρ base nt s o.s o.W (fun X Φ => Obl P ρ X c Φ o.r ⟨o.T, o.s.heap, o.s.next⟩) (fun X Φ => Sem P ρ X c ⟨T, s.heap, s.next⟩ Φ)
  | .seq a b, T, s, o, hr, hle, h => by
    have hra := (regs_seq hr).1
    have hrb := (regs_seq hr).2
    simp only [startK] at h
    split at h
    · rename_i T1 s1 W1 ha
      have k1 := startK_ok hC hM a T s _ hra hle ha
      split at h
      · rename_i o2 hb
        cases h
        have k2 := startK_ok hC hM b T1 s1 o2 hrb (Nat.le_trans hle k1.next) hb
        obtain ⟨l1, p1⟩ := k1.pc
        obtain ⟨l2, p2⟩ := k2.pc
        refine ⟨Nat.le_trans k1.next k2.next, ⟨l2 ++ l1, by show o2.s.pc = _; rw [p2, p1, List.append_assoc]⟩, fun b hb hW => (k2.old b hb (fun h => hW (List.mem_append_right _ h))).trans (k1.old b hb (fun h => hW (List.mem_append_left _ h))), fun X Φ hX hbs hnt hp hW h => ?_⟩
        have hp : ∀ q ∈ o2.s.pc, q.holds ρ := hp
        have hW : ∀ b ∈ W1 ++ o2.W, b ∈ X.W := hW
        refine .seq (k1.run X (Then P ρ X b Φ) hX hbs hnt (fun q hq => hp q (by rw [p2]; exact List.mem_append_right _ hq)) (fun b hb => hW b (List.mem_append_left _ hb)) ?_)
        show Sem P ρ X b ⟨T1, s1.heap, s1.next⟩ Φ
        refine k2.run X Φ hX hbs hnt hp (fun b hb => hW b (List.mem_append_right _ hb)) ?_
        exact obl_down0 (d := 1) (fun e h _ => h) (fun π _ h => h) h
      · cases h
    · rename_i o1 hne ha
      cases h
      have k1 := startK_ok hC hM a T s o1 hra hle ha
      refine ⟨k1.next, k1.pc, k1.old, fun X Φ hX hbs hnt hp hW h => .seq (k1.run X (Then P ρ X b Φ) hX hbs hnt hp hW ?_)⟩
      refine obl_down0 (d := 0) (fun e h he => ?_) (fun π _ h => h) h
      cases e with
      | normal =>
        obtain ⟨r, T1, s1, W1⟩ := o1
        exact (hne T1 s1 W1 (by have he : r = .fin .normal := he; rw [he])).elim
      | exit i => exact h
      | ret => exact h
    · cases h
  | .cond x a b, T, s, o, hr, hle, h => by
    simp only [startK] at h
    split at h
    · rename_i ex hx
      split at h
      · rename_i s2 hd
        obtain ⟨d1, d2, ⟨ld, d3⟩, d4⟩ := decide_parts (ρ := ρ) hd
        split at h
        · rename_i o1 ha
          cases h
          have k1 := startK_ok hC hM a T s2 o1 (regs_cond hr).1 (by rw [d1]; exact hle) ha
          obtain ⟨l1, p1⟩ := k1.pc
          refine ⟨by rw [← d1]; exact k1.next, ⟨l1 ++ ld, by show o1.s.pc = _; rw [p1, d3, List.append_assoc]⟩, fun b hb hW => (k1.old b hb hW).trans (by rw [d2]), fun X Φ hX hbs hnt hp hW h => ?_⟩
          have hp : ∀ q ∈ o1.s.pc, q.holds ρ := hp
          refine .cond hx (v := true) (d4 (fun q hq => hp q (by rw [p1]; exact List.mem_append_right _ hq))) ?_
          rw [if_pos rfl, ← d1, ← d2]
          exact k1.run X Φ hX hbs hnt hp hW (obl_down0 (d := 0) (fun e h _ => h) (fun π _ h => h) h)
        · cases h
      · rename_i s2 hd
        obtain ⟨d1, d2, ⟨ld, d3⟩, d4⟩ := decide_parts (ρ := ρ) hd
        split at h
        · rename_i o1 ha
          cases h
          have k1 := startK_ok hC hM b T s2 o1 (regs_cond hr).2 (by rw [d1]; exact hle) ha
          obtain ⟨l1, p1⟩ := k1.pc
          refine ⟨by rw [← d1]; exact k1.next, ⟨l1 ++ ld, by show o1.s.pc = _; rw [p1, d3, List.append_assoc]⟩, fun b hb hW => (k1.old b hb hW).trans (by rw [d2]), fun X Φ hX hbs hnt hp hW h => ?_⟩
          have hp : ∀ q ∈ o1.s.pc, q.holds ρ := hp
          refine .cond hx (v := false) (d4 (fun q hq => hp q (by rw [p1]; exact List.mem_append_right _ hq))) ?_
          rw [if_neg (by simp), ← d1, ← d2]
          exact k1.run X Φ hX hbs hnt hp hW (obl_down0 (d := 1) (fun e h _ => h) (fun π _ h => h) h)
        · cases h
      · cases h
    · cases h
  | .block i b, T, s, o, hr, hle, h => by
    simp only [startK] at h
    split at h
    · rename_i o1 ha
      cases h
      have k1 := startK_ok hC hM b T s o1 hr hle ha
      refine ⟨k1.next, k1.pc, k1.old, fun X Φ hX hbs hnt hp hW h => .block (k1.run X (Inside i Φ) hX hbs hnt hp hW ?_)⟩
      obtain ⟨r, T1, s1, W1⟩ := o1
      cases r with
      | «at» π => exact h
      | fin e =>
        cases e with
        | normal => exact h
        | ret => exact h
        | exit j =>
          show bif Nat.beq j i then Φ .normal _ else Φ (.exit j) _
          have h : Φ (bif Nat.beq j i then .normal else .exit j) ⟨T1, s1.heap, s1.next⟩ := h
          cases hj : Nat.beq j i with
          | true => rw [hj] at h; exact h
          | false => rw [hj] at h; exact h
    · cases h
  | .scope b, T, s, o, hr, hle, h => by
    simp only [startK] at h
    split at h
    · rename_i o1 ha
      cases h
      have k1 := startK_ok hC hM b T s o1 hr hle ha
      refine ⟨k1.next, k1.pc, k1.old, fun X Φ hX hbs hnt hp hW h => .scope (k1.run X Φ hX hbs hnt hp hW ?_)⟩
      exact obl_down0 (d := 0) (fun e h _ => h) (fun π _ h => h) h
    · cases h
  | .loop b, T, s, o, hr, hle, h => by
    simp only [startK] at h
    cases hu : (match firstReg b with | some i => un.any (Nat.beq i) | none => false) with
    | true =>
      rw [hu, cond_true] at h
      split at h
      · rename_i e T1 s1 R W1 he
        cases h
        exact eval_start hC hM hr hle he
      · cases h
    | false =>
      rw [hu, cond_false] at h
      cases h
      exact ⟨Nat.le_refl _, ⟨[], rfl⟩, fun _ _ _ => rfl, fun X Φ hX hbs hnt hp hW h => SemL.loop h⟩
  | .skip, T, s, o, hr, hle, h => by
    simp only [startK] at h
    split at h
    · rename_i e T1 s1 R W1 he
      cases h
      exact eval_start hC hM hr hle he
    · cases h
  | .region i ops dr, T, s, o, hr, hle, h => by
    simp only [startK] at h
    split at h
    · rename_i e T1 s1 R W1 he
      cases h
      exact eval_start hC hM hr hle he
    · cases h
  | .rangeFunc f ps as' bd, T, s, o, hr, hle, h => by
    simp only [startK] at h
    cases hu : (match firstReg (.seq as' bd) with | some i => un.any (Nat.beq (i + 1000000)) | none => false) with
    | true =>
      rw [hu, cond_true] at h
      cases h
      exact ⟨Nat.le_refl _, ⟨[], rfl⟩, fun _ _ _ => rfl, fun X Φ hX hbs hnt hp hW h => h⟩
    | false =>
      rw [hu, cond_false] at h
      split at h
      · rename_i e T1 s1 R W1 he
        cases h
        exact eval_start hC hM hr hle he
      · cases h
  | .exit i, T, s, o, hr, hle, h => by
    simp only [startK] at h
    split at h
    · rename_i e T1 s1 R W1 he
      cases h
      exact eval_start hC hM hr hle he
    · cases h
  | .label i, T, s, o, hr, hle, h => by
    simp only [startK] at h
    split at h
    · rename_i e T1 s1 R W1 he
      cases h
      exact eval_start hC hM hr hle he
    · cases h
  | .goto i, T, s, o, hr, hle, h => by
    simp only [startK] at h
    split at h
    · rename_i e T1 s1 R W1 he
      cases h
      exact eval_start hC hM hr hle he
    · cases h
  | .ret, T, s, o, hr, hle, h => by
    simp only [startK] at h
    split at h
    · rename_i e T1 s1 R W1 he
      cases h
      exact eval_start hC hM hr hle he
    · cases h
  | .refuse i, T, s, o, hr, hle, h => by
    simp only [startK] at h
    split at h
    · rename_i e T1 s1 R W1 he
      cases h
      exact eval_start hC hM hr hle he
    · cases h

theorem resumeK_ok (hC : CtxOk3 P C) (hM : MemoOk P C ρ) : ∀ (π : List Nat) (c : Code) (e : Ex) (T : Tr CV) (s : St) (o : KO), regsOk c = true → base ≤ s.next → resumeK C m base nt un c π e T s = some o →
    KS P ρ base nt s o.s o.W (fun X Φ => Obl P ρ X c Φ o.r ⟨o.T, o.s.heap, o.s.next⟩) (fun X Φ => AftL P ρ X c π Φ e ⟨T, s.heap, s.next⟩)
  | [], c, e, T, s, o, hr, hle, h => by
    simp only [resumeK] at h
    cases h
    refine ⟨Nat.le_refl _, ⟨[], rfl⟩, fun _ _ _ => rfl, fun X Φ hX hbs hnt hp hW h => ?_⟩
    simp only [AftL]
    exact h
  | d :: l, .seq a b, e, T, s, o, hr, hle, h => by
    have hra := (regs_seq hr).1
    have hrb := (regs_seq hr).2
    cases d with
    | zero =>
      simp only [resumeK] at h
      split at h
      · rename_i T1 s1 W1 ha
        have k1 := resumeK_ok hC hM l a e T s _ hra hle ha
        split at h
        · rename_i o2 hb
          cases h
          have k2 := startK_ok hC hM b T1 s1 o2 hrb (Nat.le_trans hle k1.next) hb
          obtain ⟨l1, p1⟩ := k1.pc
          obtain ⟨l2, p2⟩ := k2.pc
          refine ⟨Nat.le_trans k1.next k2.next, ⟨l2 ++ l1, by show o2.s.pc = _; rw [p2, p1, List.append_assoc]⟩, fun b hb hW => (k2.old b hb (fun h => hW (List.mem_append_right _ h))).trans (k1.old b hb (fun h => hW (List.mem_append_left _ h))), fun X Φ hX hbs hnt hp hW h => ?_⟩
          have hp : ∀ q ∈ o2.s.pc, q.holds ρ := hp
          have hW : ∀ b ∈ W1 ++ o2.W, b ∈ X.W := hW
          refine k1.run X (Then P ρ X b Φ) hX hbs hnt (fun q hq => hp q (by rw [p2]; exact List.mem_append_right _ hq)) (fun b hb => hW b (List.mem_append_left _ hb)) ?_
          show Sem P ρ X b ⟨T1, s1.heap, s1.next⟩ Φ
          refine k2.run X Φ hX hbs hnt hp (fun b hb => hW b (List.mem_append_right _ hb)) ?_
          exact obl_down0 (d := 1) (fun e h _ => h) (fun π _ h => h) h
        · cases h
      · rename_i o1 hne ha
        cases h
        have k1 := resumeK_ok hC hM l a e T s o1 hra hle ha
        refine ⟨k1.next, k1.pc, k1.old, fun X Φ hX hbs hnt hp hW h => k1.run X (Then P ρ X b Φ) hX hbs hnt hp hW ?_⟩
        refine obl_down0 (d := 0) (fun e h he => ?_) (fun π _ h => h) h
        cases e with
        | normal =>
          obtain ⟨r, T1, s1, W1⟩ := o1
          exact (hne T1 s1 W1 (by have he : r = .fin .normal := he; rw [he])).elim
        | exit i => exact h
        | ret => exact h
      · cases h
    | succ d =>
      simp only [resumeK] at h
      split at h
      · rename_i o1 ha
        cases h
        have k1 := resumeK_ok hC hM l b e T s o1 hrb hle ha
        exact ⟨k1.next, k1.pc, k1.old, fun X Φ hX hbs hnt hp hW h => k1.run X Φ hX hbs hnt hp hW (obl_down0 (d := 1) (fun e h _ => h) (fun π _ h => h) h)⟩
      · cases h
  | d :: l, .cond x a b, e, T, s, o, hr, hle, h => by
    cases d with
    | zero =>
      simp only [resumeK] at h
      split at h
      · rename_i o1 ha
        cases h
        have k1 := resumeK_ok hC hM l a e T s o1 (regs_cond hr).1 hle ha
        exact ⟨k1.next, k1.pc, k1.old, fun X Φ hX hbs hnt hp hW h => k1.run X Φ hX hbs hnt hp hW (obl_down0 (d := 0) (fun e h _ => h) (fun π _ h => h) h)⟩
      · cases h
    | succ d =>
      simp only [resumeK] at h
      split at h
      · rename_i o1 ha
        cases h
        have k1 := resumeK_ok hC hM l b e T s o1 (regs_cond hr).2 hle ha
        exact ⟨k1.next, k1.pc, k1.old, fun X Φ hX hbs hnt hp hW h => k1.run X Φ hX hbs hnt hp hW (obl_down0 (d := 1) (fun e h _ => h) (fun π _ h => h) h)⟩
      · cases h
  | d :: l, .block i b, e, T, s, o, hr, hle, h => by
    simp only [resumeK] at h
    split at h
    · rename_i o1 ha
      cases h
      have k1 := resumeK_ok hC hM l b e T s o1 hr hle ha
      refine ⟨k1.next, k1.pc, k1.old, fun X Φ hX hbs hnt hp hW h => k1.run X (Inside i Φ) hX hbs hnt hp hW ?_⟩
      obtain ⟨r, T1, s1, W1⟩ := o1
      cases r with
      | «at» π => exact h
      | fin e =>
        cases e with
        | normal => exact h
        | ret => exact h
        | exit j =>
          show bif Nat.beq j i then Φ .normal _ else Φ (.exit j) _
          have h : Φ (bif Nat.beq j i then .normal else .exit j) ⟨T1, s1.heap, s1.next⟩ := h
          cases hj : Nat.beq j i with
          | true => rw [hj] at h; exact h
          | false => rw [hj] at h; exact h
    · cases h
  | d :: l, .scope b, e, T, s, o, hr, hle, h => by
    simp only [resumeK] at h
    split at h
    · rename_i o1 ha
      cases h
      have k1 := resumeK_ok hC hM l b e T s o1 hr hle ha
      exact ⟨k1.next, k1.pc, k1.old, fun X Φ hX hbs hnt hp hW h => k1.run X Φ hX hbs hnt hp hW (obl_down0 (d := 0) (fun e h _ => h) (fun π _ h => h) h)⟩
    · cases h
  | d :: l, .loop b, e, T, s, o, hr, hle, h => by
    simp only [resumeK] at h
    split at h
    · rename_i o1 ha
      cases h
      have k1 := resumeK_ok hC hM l b e T s o1 hr hle ha
      refine ⟨k1.next, k1.pc, k1.old, fun X Φ hX hbs hnt hp hW h => k1.run X (InL P ρ X b Φ) hX hbs hnt hp hW ?_⟩
      obtain ⟨r, T1, s1, W1⟩ := o1
      cases r with
      | «at» π => exact h
      | fin e =>
        cases e with
        | normal => exact h
        | exit j => exact h
        | ret => exact h
    · cases h
  | _ :: _, .skip, _, _, _, _, _, _, h => by simp [resumeK] at h
  | _ :: _, .region .., _, _, _, _, _, _, h => by simp [resumeK] at h
  | _ :: _, .rangeFunc .., _, _, _, _, _, _, h => by simp [resumeK] at h
  | _ :: _, .exit _, _, _, _, _, _, _, h => by simp [resumeK] at h
  | _ :: _, .label _, _, _, _, _, _, _, h => by simp [resumeK] at h
  | _ :: _, .goto _, _, _, _, _, _, _, h => by simp [resumeK] at h
  | _ :: _, .ret, _, _, _, _, _, _, h => by simp [resumeK] at h
  | _ :: _, .refuse _, _, _, _, _, _, _, h => by simp [resumeK] at h

end
end Go.Proofs.Ytknphpihipkdpaa.Cx
