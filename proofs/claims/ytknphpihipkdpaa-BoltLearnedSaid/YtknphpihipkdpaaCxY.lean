/- AUTOMATA, read off as functions: trees of tests between the heads of a function's loops; what they yield is what the function does. -/
import Derived.Test.YtknphpihipkdpaaCxX
set_option linter.unusedSimpArgs false
set_option linter.unusedVariables false
namespace Go.Proofs.Ytknphpihipkdpaa.Cx
open Go Go.RowKit

/-! ## From one head to the next -/

def pathOk : Code → List Nat → Bool
  | _, [] => true
  | .seq a b, d :: l => match d with | 0 => pathOk a l | _ + 1 => pathOk b l
  | .cond _ a b, d :: l => match d with | 0 => pathOk a l | _ + 1 => pathOk b l
  | .block _ b, _ :: l => pathOk b l
  | .scope b, _ :: l => pathOk b l
  | .loop b, _ :: l => pathOk b l
  | _, _ => false

noncomputable def edgeK (C : Ctx) (m base nt : Nat) (un : List Nat) (c : Code) (π : List Nat) (T : Tr CV) (s : St) : Option KO :=
  bif pathOk c π then
    match codeAt c π with
    | .loop b => match startK C m base nt un b T s with
      | some ⟨.at π', T1, s1, W1⟩ => some ⟨.at (π ++ 0 :: π'), T1, s1, W1⟩
      | some ⟨.fin .normal, T1, s1, W1⟩ => some ⟨.at π, T1, s1, W1⟩
      | some ⟨.fin e, T1, s1, W1⟩ => match resumeK C m base nt un c π e T1 s1 with | some o => some (o.add W1) | none => none
      | none => none
    | _ => none
  else none

section
variable {P : Program} {C : Ctx} {ρ : Env} {m base nt : Nat} {un : List Nat}

theorem at_append {X : Fx} : ∀ (π : List Nat) (c : Code) (l : List Nat) (Φ : Ex → Pt → Prop), pathOk c π = true → codeAt c (π ++ l) = codeAt (codeAt c π) l ∧ AftL P ρ X c (π ++ l) Φ = AftL P ρ X (codeAt c π) l (AftL P ρ X c π Φ)
  | [], c, l, Φ, _ => by simp [codeAt, AftL]
  | d :: π, c, l, Φ, h => by
    cases c with
    | seq a b =>
      cases d with
      | zero => exact at_append π a l _ h
      | succ d => exact at_append π b l _ h
    | cond x a b =>
      cases d with
      | zero => exact at_append π a l _ h
      | succ d => exact at_append π b l _ h
    | block i b => cases d <;> exact at_append π b l _ h
    | scope b => cases d <;> exact at_append π b l _ h
    | loop b => cases d <;> exact at_append π b l _ h
    | _ => simp [pathOk] at h

theorem edgeK_ok (hC : CtxOk3 P C) (hM : MemoOk P C ρ) {c : Code} {π : List Nat} {T : Tr CV} {s : St} {o : KO} (hr : regsOk c = true) (hle : base ≤ s.next) (h : edgeK C m base nt un c π T s = some o) :
    KS P ρ base nt s o.s o.W (fun X Φ => Obl P ρ X c Φ o.r ⟨o.T, o.s.heap, o.s.next⟩) (fun X Φ => AtL P ρ X c π Φ ⟨T, s.heap, s.next⟩) := by
  unfold edgeK at h
  cases hpo : pathOk c π with
  | false => rw [hpo] at h; cases h
  | true =>
    rw [hpo, cond_true] at h
    have hrp := regs_at π hr
    split at h
    · rename_i b hcb
      have hrb : regsOk b = true := by rw [hcb] at hrp; exact hrp
      have goal : ∀ {X : Fx} {Φ : Ex → Pt → Prop} {p : Pt}, Sem P ρ X b p (InL P ρ X b (AftL P ρ X c π Φ)) → AtL P ρ X c π Φ p := fun {X Φ p} h => by
        unfold AtL
        rw [hcb]
        exact SemL.unfold h
      have back : ∀ {X : Fx} {Φ : Ex → Pt → Prop} {p : Pt} {π' : List Nat}, AtL P ρ X c (π ++ 0 :: π') Φ p → AtL P ρ X b π' (InL P ρ X b (AftL P ρ X c π Φ)) p := fun {X Φ p π'} h => by
        unfold AtL at *
        obtain ⟨e1, e2⟩ := at_append (P := P) (ρ := ρ) (X := X) π c (0 :: π') Φ hpo
        rw [e1, e2, hcb] at h
        exact h
      split at h
      · rename_i π' T1 s1 W1 hs
        cases h
        have k := startK_ok hC hM b T s _ hrb hle hs
        exact ⟨k.next, k.pc, k.old, fun X Φ hX hbs hnt hp hW h => goal (k.run X _ hX hbs hnt hp hW (back h))⟩
      · rename_i T1 s1 W1 hs
        cases h
        have k := startK_ok hC hM b T s _ hrb hle hs
        refine ⟨k.next, k.pc, k.old, fun X Φ hX hbs hnt hp hW h => goal (k.run X _ hX hbs hnt hp hW ?_)⟩
        show SemL P ρ X b _ _
        have h : AtL P ρ X c π Φ _ := h
        unfold AtL at h
        rw [hcb] at h
        exact h
      · rename_i e T1 s1 W1 hne hs
        split at h
        · rename_i o2 h2
          cases h
          have k := startK_ok hC hM b T s _ hrb hle hs
          have k2 := resumeK_ok hC hM π c e T1 s1 o2 hr (Nat.le_trans hle k.next) h2
          obtain ⟨l1, p1⟩ := k.pc
          obtain ⟨l2, p2⟩ := k2.pc
          refine ⟨Nat.le_trans k.next k2.next, ⟨l2 ++ l1, by show o2.s.pc = _; rw [p2, p1, List.append_assoc]⟩, fun b hb hW => (k2.old b hb (fun h => hW (List.mem_append_right _ h))).trans (k.old b hb (fun h => hW (List.mem_append_left _ h))), fun X Φ hX hbs hnt hp hW h => ?_⟩
          have hp : ∀ q ∈ o2.s.pc, q.holds ρ := hp
          have hW : ∀ b ∈ W1 ++ o2.W, b ∈ X.W := hW
          refine goal (k.run X _ hX hbs hnt (fun q hq => hp q (by rw [p2]; exact List.mem_append_right _ hq)) (fun b hb => hW b (List.mem_append_left _ hb)) ?_)
          have k3 := k2.run X Φ hX hbs hnt hp (fun b hb => hW b (List.mem_append_right _ hb)) h
          cases e with
          | normal => exact (hne rfl).elim
          | exit i => exact k3
          | ret => exact k3
        · cases h
      · cases h
    · cases h

end

/-! ## Names -/

mutual
/-- A value whose blocks have other names. -/
def CV.ren (f : Nat → Nat) : CV → CV
  | .ptr (some (b, o)) => .ptr (some (f b, o))
  | .slc (some (b, o)) n c => .slc (some (f b, o)) n c
  | .slx b z o n c => .slx (f b) z o n c
  | .sla b z o n => .sla (f b) z o n
  | .ptx b z j g => .ptx (f b) z j g
  | .fn g l m => .fn g (CV.renl f l) (CV.renl f m)
  | .agg l => .agg (CV.renl f l)
  | .tup l => .tup (CV.renl f l)
  | .map b => .map (f b)
  | .yld b => .yld (f b)
  | c => c
def CV.renl (f : Nat → Nat) : List CV → List CV
  | [] => []
  | c :: l => c.ren f :: CV.renl f l
end

mutual
/-- All blocks that a value names are below a number, and it can be named anew. -/
def CV.rnb (n : Nat) : CV → Bool
  | .ptr (some (b, _)) | .slc (some (b, _)) _ _ | .slx b _ _ _ _ | .sla b _ _ _ | .ptx b _ _ _ | .map b | .yld b => Nat.blt b n
  | .agg l | .tup l => CV.rnbl n l
  | .slr _ _ _ _ => false
  | .fn _ l m => CV.rnbl n l && CV.rnbl n m
  | _ => true
def CV.rnbl (n : Nat) : List CV → Bool
  | [] => true
  | c :: l => c.rnb n && CV.rnbl n l
end

section
variable {ρ : Env} {f : Nat → Nat} {n : Nat}

mutual
theorem MC.ren : ∀ {c : CV}, c.rnb n = true → MC ρ f n (c.ren f) c
  | .bool _, _ => .plain rfl
  | .int _ _, _ => .plain rfl
  | .raw _, _ => .plain rfl
  | .ptr none, _ => .plain rfl
  | .ptr (some (b, o)), h => .ptr rfl (blt_lt h)
  | .slc none _ _, _ => .plain rfl
  | .slc (some (b, o)) _ _, h => .slc rfl (blt_lt h)
  | .slx .., h => .slx rfl (blt_lt h)
  | .sla .., h => .sla rfl (blt_lt h)
  | .sln _, _ => fun _ _ _ _ hv => by cases hv with | sln a c h => exact .sln a c h
  | .slr .., h => by simp [CV.rnb] at h
  | .ptx b z j g, h => fun σ σ2 v hs hv => .ptx (MC.ptr rfl (blt_lt h) σ σ2 v hs hv.ptx_inv)
  | .junk, _ => .plain rfl
  | .any, _ => .plain rfl
  | .emp, _ => .plain rfl
  | .fn g l m, h => by
    simp only [CV.rnb, Bool.and_eq_true] at h
    exact .fn (MCl.ren h.1) (MCl.ren h.2)
  | .agg l, h => .agg (MCl.ren h)
  | .tup l, h => .tup (MCl.ren h)
  | .yld b, h => fun σ σ2 v hs hv => by
    cases hv with
    | yld h1 => exact .yld ((hs b (blt_lt h)).trans h1)
  | .map _, h => .map rfl (blt_lt h)
theorem MCl.ren : ∀ {l : List CV}, CV.rnbl n l = true → MCl ρ f n (CV.renl f l) l
  | [], _ => .nil
  | c :: l, h => by
    simp only [CV.rnbl, Bool.and_eq_true] at h
    exact .cons (MC.ren h.1) (MCl.ren h.2)
end

theorem CV.renl_length : ∀ (l : List CV), (CV.renl f l).length = l.length
  | [] => rfl
  | _ :: l => congrArg Nat.succ (CV.renl_length l)
theorem CV.ren_flat (c : CV) : (c.ren f).flat = c.flat := by
  cases c with
  | ptr a => cases a <;> rfl
  | slc a n c => cases a <;> rfl
  | _ => rfl
theorem CV.renl_flat : ∀ (l : List CV), (CV.renl f l).all CV.flat = l.all CV.flat
  | [] => rfl
  | c :: l => by simp only [CV.renl, List.all_cons, CV.ren_flat, CV.renl_flat l]
theorem CV.renl_ok {z : Nat} {l : List CV} (h : l.length = z ∧ l.all CV.flat = true) : (CV.renl f l).length = z ∧ (CV.renl f l).all CV.flat = true :=
  ⟨(CV.renl_length l).trans h.1, (CV.renl_flat l).trans h.2⟩
end

mutual
/-- Numbers and tests that stand as they are in Lean. -/
def CV.nrm : CV → CV
  | .int k (.c n) => .int k (.x n)
  | .bool (.c b) => .bool (.x b)
  | .fn g l m => .fn g (CV.nrml l) (CV.nrml m)
  | .agg l => .agg (CV.nrml l)
  | .tup l => .tup (CV.nrml l)
  | c => c
def CV.nrml : List CV → List CV
  | [] => []
  | c :: l => c.nrm :: CV.nrml l
end

section
variable {ρ : Env}
theorem VR.int_x {σ : Mp} {k : IntKind} {n : Int} {v : Value} : VR ρ σ (.int k (.c n)) v ↔ VR ρ σ (.int k (.x n)) v := ⟨fun h => by cases h; exact .int k (.x n), fun h => by cases h; exact .int k (.c n)⟩
theorem VR.bool_x {σ : Mp} {n : Bool} {v : Value} : VR ρ σ (.bool (.c n)) v ↔ VR ρ σ (.bool (.x n)) v := ⟨fun h => by cases h; exact .bool (.x n), fun h => by cases h; exact .bool (.c n)⟩
mutual
theorem VR.nrm {σ : Mp} : ∀ (c : CV) {v : Value}, VR ρ σ c v ↔ VR ρ σ c.nrm v
  | .int k e, v => by cases e <;> first | exact VR.int_x | exact Iff.rfl
  | .bool e, v => by cases e <;> first | exact VR.bool_x | exact Iff.rfl
  | .fn g l m, v => ⟨fun h => by
      obtain ⟨x, y, rfl, h1, h2⟩ := h.fn_inv
      exact .fn g ((VRl.nrm l).1 h1) ((VRl.nrm m).1 h2), fun h => by
      obtain ⟨x, y, rfl, h1, h2⟩ := VR.fn_inv (show VR ρ σ (.fn g (CV.nrml l) (CV.nrml m)) v from h)
      exact .fn g ((VRl.nrm l).2 h1) ((VRl.nrm m).2 h2)⟩
  | .agg l, v => ⟨fun h => by
      obtain ⟨cs, rfl, h1⟩ := h.agg_inv
      exact .agg ((VRl.nrm l).1 h1), fun h => by
      obtain ⟨cs, rfl, h1⟩ := VR.agg_inv (show VR ρ σ (.agg (CV.nrml l)) v from h)
      exact .agg ((VRl.nrm l).2 h1)⟩
  | .tup l, v => ⟨fun h => by
      obtain ⟨cs, rfl, h1⟩ := h.tup_inv
      exact .tup ((VRl.nrm l).1 h1), fun h => by
      obtain ⟨cs, rfl, h1⟩ := VR.tup_inv (show VR ρ σ (.tup (CV.nrml l)) v from h)
      exact .tup ((VRl.nrm l).2 h1)⟩
  | .raw _, v | .ptr _, v | .slc .., v | .slx .., v | .sla .., v | .sln _, v | .slr .., v | .ptx .., v | .junk, v | .any, v | .emp, v | .yld _, v | .map _, v => Iff.rfl
theorem VRl.nrm {σ : Mp} : ∀ (l : List CV) {vs : List Value}, VRl ρ σ l vs ↔ VRl ρ σ (CV.nrml l) vs
  | [], vs => Iff.rfl
  | c :: l, vs => ⟨fun h => by
      cases h with
      | cons h t => exact .cons ((VR.nrm c).1 h) ((VRl.nrm l).1 t), fun h => by
      have hh : VRl ρ σ (c.nrm :: CV.nrml l) vs := h
      cases hh with
      | cons h1 t1 => exact .cons ((VR.nrm c).2 h1) ((VRl.nrm l).2 t1)⟩
end
theorem MC.nrm {ren : Nat → Nat} {n2 : Nat} {a b c : CV} (h : MC ρ ren n2 b c) (e : a.nrm = b.nrm) : MC ρ ren n2 a c :=
  fun σ σ2 v hs hv => h σ σ2 v hs ((VR.nrm b).2 (e ▸ (VR.nrm a).1 hv))
end

theorem CV.nrml_ok {z : Nat} : ∀ {l : List CV}, l.length = z ∧ l.all CV.flat = true → (CV.nrml l).length = z ∧ (CV.nrml l).all CV.flat = true := by
  have len : ∀ l : List CV, (CV.nrml l).length = l.length := fun l => by
    induction l with
    | nil => rfl
    | cons c l ih => exact congrArg Nat.succ ih
  have flat : ∀ c : CV, c.nrm.flat = c.flat := fun c => by
    cases c with
    | int k e => cases e <;> rfl
    | bool e => cases e <;> rfl
    | _ => rfl
  have all : ∀ l : List CV, (CV.nrml l).all CV.flat = l.all CV.flat := fun l => by
    induction l with
    | nil => rfl
    | cons c l ih => simp only [CV.nrml, List.all_cons, flat, ih]
  intro l h
  exact ⟨(len l).trans h.1, (all l).trans h.2⟩

theorem flatR_nrm {ρ : Env} {σ : Mp} {row : Nat → List CV} : ∀ (n : Nat) {vs : List Value}, VRl ρ σ (flatR row n) vs ↔ VRl ρ σ (flatR (fun i => CV.nrml (row i)) n) vs
  | 0, vs => Iff.rfl
  | n + 1, vs => ⟨fun h => by
      rw [flatR] at h ⊢
      obtain ⟨x, y, rfl, h1, h2⟩ := h.cut
      exact ((flatR_nrm n).1 h1).append ((VRl.nrm _).1 h2), fun h => by
      rw [flatR] at h ⊢
      obtain ⟨x, y, rfl, h1, h2⟩ := h.cut
      exact ((flatR_nrm n).2 h1).append ((VRl.nrm _).2 h2)⟩

def BC.nrm : BC → BC
  | .lit l => .lit (CV.nrml l)
  | .rows n z row h => .rows n z (fun i => CV.nrml (row i)) (fun i => CV.nrml_ok (h i))
  | .arg n z row h => .arg n z (fun i => CV.nrml (row i)) (fun i => CV.nrml_ok (h i))
def Blk.nrm (k : Blk) : Blk := ⟨k.body.nrm, k.esz, k.live, none⟩

def BC.ren (f : Nat → Nat) : BC → BC
  | .lit l => .lit (CV.renl f l)
  | .rows n z row h => .rows n z (fun j => CV.renl f (row j)) (fun j => CV.renl_ok (h j))
  | .arg n z row h => .arg n z (fun j => CV.renl f (row j)) (fun j => CV.renl_ok (h j))
def Blk.ren (f : Nat → Nat) (k : Blk) : Blk := ⟨k.body.ren f, k.esz, k.live, none⟩
def BC.Rn (n : Nat) : BC → Prop
  | .lit l => CV.rnbl n l = true
  | .rows _ _ row _ => ∀ j, CV.rnbl n (row j) = true
  | .arg _ _ row _ => ∀ j, CV.rnbl n (row j) = true

theorem MB.ren {ρ : Env} {f : Nat → Nat} {n : Nat} {k : Blk} (h : k.body.Rn n) (hx : k.ext = none) : MB ρ f n (k.ren f) k := by
  obtain ⟨b, e, v, x⟩ := k
  have hx : x = none := hx
  subst hx
  cases b with
  | lit l => exact .lit (.ren h)
  | rows m z row hrow => exact .rows rfl fun j _ => .ren (h j)
  | arg m z row hrow =>
    obtain ⟨_, _, _, _, h5⟩ := MB.rows (ρ := ρ) (ren := f) (n2 := n) (z := z) (z' := z) (row := fun j => CV.renl f (row j)) (row' := row) (h := fun j => CV.renl_ok (hrow j)) (h' := hrow) (e := e) (x := none) (v := v) (n := m) (m := m) rfl fun j _ => .ren (h j)
    exact ⟨rfl, rfl, rfl, fun h => h, h5⟩

theorem Blk.nrm_cells {ρ : Env} {σ : Mp} {k : Blk} {vs : List Value} : VRl ρ σ k.cells vs ↔ VRl ρ σ k.nrm.cells vs := by
  obtain ⟨b, e, v, x⟩ := k
  cases b with
  | lit l => exact VRl.nrm l
  | rows m z row h => exact flatR_nrm m
  | arg m z row h => exact flatR_nrm m
theorem BC.nrm_ro (b : BC) : b.nrm.ro = b.ro := by cases b <;> rfl
theorem MB.nrm {ρ : Env} {f : Nat → Nat} {n : Nat} {a b k : Blk} (h : MB ρ f n b k) (e : a.nrm = b.nrm) : MB ρ f n a k := by
  obtain ⟨h1, h2, h3, h4, h5⟩ := h
  have e1 : a.esz = b.esz := (congrArg Blk.esz e : a.nrm.esz = b.nrm.esz)
  have e2 : a.live = b.live := (congrArg Blk.live e : a.nrm.live = b.nrm.live)
  have e3 : a.ro = b.ro := by
    have := congrArg (fun x => x.body.ro) e
    simp only [Blk.nrm, BC.nrm_ro] at this
    exact this
  exact ⟨h1.trans e2.symm, h2.trans e1.symm, h3, fun h => e3 ▸ h4 h, fun σ σ2 us hs hv => h5 σ σ2 us hs (Blk.nrm_cells.2 (e ▸ Blk.nrm_cells.1 hv))⟩

mutual
/-- A slice of cells taken for one of rows, where that is wanted. -/
def CV.like : CV → CV → CV
  | .slx _ z _ _ _, .slc (some (b, 0)) n c => .slx b z 0 n c
  | .agg l, .agg m => .agg (CV.likes l m)
  | .tup l, .tup m => .tup (CV.likes l m)
  | _, c => c
def CV.likes : List CV → List CV → List CV
  | p :: l, c :: m => CV.like p c :: CV.likes l m
  | _, m => m
end
def BC.like : BC → BC → BC
  | .rows _ z _ _, .lit l => if h : l.length = z ∧ l.all CV.flat = true then .rows 1 z (fun _ => l) (fun _ => h) else .lit l
  | .lit l, .lit m => .lit (CV.likes l m)
  | _, b => b
def Blk.like (p k : Blk) : Blk := ⟨BC.like p.body k.body, k.esz, k.live, k.ext⟩

section
variable {ρ : Env} {σ : Mp}
mutual
theorem VR.like : ∀ (p c : CV) {v : Value}, VR ρ σ c v → VR ρ σ (CV.like p c) v
  | .agg l, c, v, h => by
    cases c with
    | agg m =>
      obtain ⟨cs, rfl, h1⟩ := h.agg_inv
      exact .agg (VRl.like l m h1)
    | _ => exact h
  | .tup l, c, v, h => by
    cases c with
    | tup m =>
      obtain ⟨cs, rfl, h1⟩ := h.tup_inv
      exact .tup (VRl.like l m h1)
    | _ => exact h
  | .slx x z y n' c', c, v, h => by
    cases c with
    | slc a n k =>
      cases a with
      | none => exact h
      | some bo =>
        obtain ⟨b, o⟩ := bo
        cases o with
        | zero => exact .slx (by rw [Nat.zero_mul]; exact h)
        | succ o => exact h
    | _ => exact h
  | .bool _, c, v, h | .int _ _, c, v, h | .raw _, c, v, h | .ptr _, c, v, h | .slc .., c, v, h | .sla .., c, v, h | .sln _, c, v, h | .slr .., c, v, h | .ptx .., c, v, h | .junk, c, v, h | .any, c, v, h | .emp, c, v, h | .fn .., c, v, h | .yld _, c, v, h | .map _, c, v, h => by cases c <;> exact h
theorem VRl.like : ∀ (l m : List CV) {vs : List Value}, VRl ρ σ m vs → VRl ρ σ (CV.likes l m) vs
  | [], m, vs, h => by cases m <;> exact h
  | p :: l, [], vs, h => h
  | p :: l, c :: m, vs, h => by
    cases h with
    | cons h t => exact .cons (VR.like p c h) (VRl.like l m t)
end
theorem Blk.like_cells {p k : Blk} {us : List Value} (h : VRl ρ σ k.cells us) : VRl ρ σ (Blk.like p k).cells us := by
  obtain ⟨pb, pe, pv, px⟩ := p
  obtain ⟨kb, ke, kv, kx⟩ := k
  show VRl ρ σ (BC.like pb kb).list us
  have h : VRl ρ σ kb.list us := h
  cases pb with
  | lit l => cases kb with
    | lit m => exact VRl.like l m h
    | _ => exact h
  | rows n z row hr => cases kb with
    | lit m =>
      show VRl ρ σ (if h : m.length = z ∧ m.all CV.flat = true then BC.rows 1 z (fun _ => m) (fun _ => h) else .lit m).list us
      split
      · show VRl ρ σ ([] ++ m) us
        exact h
      · exact h
    | _ => exact h
  | arg n z row hr => cases kb <;> exact h
end
theorem BC.like_ro (p b : BC) : (BC.like p b).ro = b.ro := by
  unfold BC.like
  split
  · split <;> rfl
  · rfl
  · rfl
theorem MC.like {ρ : Env} {ren : Nat → Nat} {n2 : Nat} {a c p : CV} (h : MC ρ ren n2 (CV.like p a) c) : MC ρ ren n2 a c := fun σ σ2 v hs hv => h σ σ2 v hs (hv.like p a)
theorem MB.like {ρ : Env} {f : Nat → Nat} {n : Nat} {a k p : Blk} (h : MB ρ f n (Blk.like p a) k) : MB ρ f n a k := by
  obtain ⟨h1, h2, h3, h4, h5⟩ := h
  have e2 : (Blk.like p a).ro = a.ro := BC.like_ro _ _
  exact ⟨h1, h2, h3, fun h => by rw [← e2]; exact h4 h, fun σ σ2 us hs hv => h5 σ σ2 us hs (Blk.like_cells hv)⟩

/-- Names behind the arguments' blocks, by a list. -/
def renF (base : Nat) (r : List Nat) (b : Nat) : Nat := bif Nat.blt b base then b else match r[b - base]? with | some x => x | none => b
def nodupB : List Nat → Bool
  | [] => true
  | a :: l => !l.any (Nat.beq a) && nodupB l
def renOk (base n : Nat) (r : List Nat) : Bool := r.all (fun x => Nat.ble base x && Nat.blt x n) && nodupB r

theorem nodupB_inj : ∀ {l : List Nat}, nodupB l = true → ∀ {i j : Nat} {x : Nat}, l[i]? = some x → l[j]? = some x → i = j
  | [], _, i, j, x, h, _ => by simp at h
  | a :: l, h, i, j, x, h1, h2 => by
    simp only [nodupB, Bool.and_eq_true, Bool.not_eq_true', List.any_eq_false] at h
    cases i with
    | zero =>
      cases j with
      | zero => rfl
      | succ j =>
        simp at h1 h2
        subst h1
        exact absurd (Nat.beq_refl a) (h.1 a (List.mem_of_getElem? h2))
    | succ i =>
      cases j with
      | zero =>
        simp at h1 h2
        subst h2
        exact absurd (Nat.beq_refl a) (h.1 a (List.mem_of_getElem? h1))
      | succ j =>
        simp at h1 h2
        exact congrArg Nat.succ (nodupB_inj h.2 h1 h2)

/-- A point, but for the arguments' blocks: temporaries, blocks, the next number, records of ranges. -/
structure PD where
  T : List (Nat × CV)
  h : List (Nat × Blk)
  n : Nat
  x : List (Nat × Blk)
noncomputable def putH (h0 : Tr Blk) : List (Nat × Blk) → Tr Blk
  | [] => h0
  | (t, c) :: l => (putH h0 l).set t c
noncomputable def PD.pt (h0 : Tr Blk) (d : PD) : Pt := ⟨mkT d.T, putH h0 (d.h ++ d.x), d.n⟩

/-- A record of a range, whose temporaries name old blocks alone. -/
def RecOk (base : Nat) (k : Blk) : Prop := k.live = false ∧ ∃ r : LR, k.ext = some (.loop r) ∧ ∀ t, (rd r.T t).lts base = true

structure PD.Ok (base : Nat) (W : List Nat) (d : PD) : Prop where
  T : ∀ x ∈ d.T, x.2.rnb d.n = true
  h : ∀ x ∈ d.h, (base ≤ x.1 ∨ x.1 ∈ W) ∧ x.2.body.Rn d.n ∧ x.2.ext = none
  x : ∀ x ∈ d.x, x.1 ∈ W ∧ RecOk base x.2
  W : W.all (fun b => (d.h ++ d.x).any (fun x => Nat.beq x.1 b)) = true

theorem MC.fix {ρ : Env} {ren : Nat → Nat} {n2 base : Nat} {c : CV} (h : c.lts base = true) (hb : base ≤ n2) (hf : ∀ b, b < base → ren b = b) : MC ρ ren n2 c c := fun σ σ2 v hs hv => hv.lts (fun b hb' => by rw [hs b (Nat.lt_of_lt_of_le hb' hb), hf b hb']) h

theorem get_putH (h0 : Tr Blk) (t : Nat) : ∀ (l : List (Nat × Blk)), (putH h0 l).get t = match l.find? (fun x => x.1 == t) with | some x => some x.2 | none => h0.get t
  | [] => rfl
  | (u, c) :: l => by
    have ih := get_putH h0 t l
    simp only [putH, Tr.get_set, List.find?_cons]
    by_cases h : t = u
    · subst h; simp
    · have h' : (u == t) = false := by simp; exact fun e => h e.symm
      rw [if_neg h, h']
      exact ih

theorem renF_props {base n : Nat} {r : List Nat} (h : renOk base n r = true) : (∀ b, b < base → renF base r b = b) ∧ (∀ b, base ≤ b → b < base + r.length → base ≤ renF base r b ∧ renF base r b < n) ∧
    (∀ b b', b < base + r.length → b' < base + r.length → renF base r b = renF base r b' → b = b') := by
  simp only [renOk, Bool.and_eq_true, List.all_eq_true] at h
  have low : ∀ b, b < base → renF base r b = b := fun b hb => by
    have e : Nat.blt b base = true := by simpa using hb
    simp only [renF, e, cond_true]
  have high : ∀ b, base ≤ b → b < base + r.length → ∃ x, r[b - base]? = some x ∧ renF base r b = x := fun b h1 h2 => by
    have e : Nat.blt b base = false := by
      cases hbq : Nat.blt b base with
      | false => rfl
      | true => exact absurd (blt_lt hbq) (by omega)
    have hlt : b - base < r.length := by omega
    refine ⟨r[b - base], List.getElem?_eq_getElem hlt, ?_⟩
    simp only [renF, e, cond_false, List.getElem?_eq_getElem hlt]
  have rng : ∀ b, base ≤ b → b < base + r.length → base ≤ renF base r b ∧ renF base r b < n := fun b h1 h2 => by
    obtain ⟨x, hx, he⟩ := high b h1 h2
    have := h.1 x (List.mem_of_getElem? hx)
    rw [he]
    exact ⟨Nat.le_of_ble_eq_true this.1, blt_lt this.2⟩
  refine ⟨low, rng, fun b b' h1 h2 h3 => ?_⟩
  by_cases hb : b < base <;> by_cases hb' : b' < base
  · rwa [low b hb, low b' hb'] at h3
  · have := rng b' (by omega) h2
    rw [low b hb] at h3; omega
  · have := rng b (by omega) h1
    rw [low b' hb'] at h3; omega
  · obtain ⟨x, hx, he⟩ := high b (by omega) h1
    obtain ⟨x', hx', he'⟩ := high b' (by omega) h2
    rw [he, he'] at h3
    subst h3
    have := nodupB_inj h.2 hx hx'
    omega

theorem map_eq_mem {α β : Type} {g h : α → β} : ∀ {l : List α}, l.map g = l.map h → ∀ x ∈ l, g x = h x
  | _ :: _, e, x, hx => by
    simp only [List.map_cons, List.cons.injEq] at e
    rcases List.mem_cons.1 hx with rfl | hx
    · exact e.1
    · exact map_eq_mem e.2 x hx

theorem Mat.ren {ρ : Env} {X : Fx} {base : Nat} {W : List Nat} {h0 : Tr Blk} {T : Tr CV} {h : Tr Blk} {n : Nat} {d : PD} {r : List Nat} (hbs : X.base = base) (hW : X.W = W) (hwb : ∀ b ∈ W, b < base) (hd : d.Ok base W) (hr : renOk base n r = true) (hn : d.n = base + r.length)
    (hT : d.T.map (fun x => (CV.like x.2 (rd T x.1)).nrm) = d.T.map (fun x => (x.2.ren (renF base r)).nrm)) (hB : d.h.map (fun x => (h.get (renF base r x.1)).map (fun k => (Blk.like x.2 k).nrm)) = d.h.map (fun x => some (x.2.ren (renF base r)).nrm)) (hx : d.x.map (fun x => h.get x.1) = d.x.map (fun x => some x.2))
    (hold : ∀ b, b < base → b ∉ W → h.get b = h0.get b) (hh0 : ∀ b, base ≤ b → h0.get b = Option.none) :
    Mat ρ X (renF base r) ⟨T, h, n⟩ (d.pt h0) := by
  subst hbs hW
  obtain ⟨p1, p2, p3⟩ := renF_props hr
  rw [← hn] at p2 p3
  refine ⟨?_, p1, p2, p3, fun t => ?_, fun b hb hbW => ?_, fun b k hb hk => ?_⟩
  · show X.base ≤ d.n; omega
  · show MC ρ (renF X.base r) d.n (rd T t) (rd (mkT d.T) t)
    rw [rd_mkT]
    split
    · rename_i x hx
      have h1 := List.find?_some hx
      have h2 := List.mem_of_find?_eq_some hx
      simp only [beq_iff_eq] at h1
      rw [← h1]
      exact ((MC.ren (hd.T x h2)).nrm (map_eq_mem hT x h2)).like
    · exact .any
  · show (putH h0 (d.h ++ d.x)).get b = h.get b
    rw [get_putH]
    split
    · rename_i x hx
      have h1 := List.find?_some hx
      have h2 := List.mem_of_find?_eq_some hx
      simp only [beq_iff_eq] at h1
      subst h1
      rcases List.mem_append.1 h2 with h2 | h2
      · rcases (hd.h x h2).1 with h3 | h3
        · omega
        · exact absurd h3 hbW
      · exact absurd (hd.x x h2).1 hbW
    · exact (hold b hb hbW).symm
  · have hk : (putH h0 (d.h ++ d.x)).get b = some k := hk
    rw [get_putH] at hk
    split at hk
    · rename_i x hx'
      cases hk
      have h1 := List.find?_some hx'
      have h2 := List.mem_of_find?_eq_some hx'
      simp only [beq_iff_eq] at h1
      subst h1
      rcases List.mem_append.1 h2 with h2 | h2
      · obtain ⟨k0, q1, q2⟩ := Option.map_eq_some_iff.1 (map_eq_mem hB x h2)
        exact ⟨k0, q1, .inl ((MB.ren (hd.h x h2).2.1 (hd.h x h2).2.2).nrm q2).like⟩
      · obtain ⟨hw, hl, rr, he, ht⟩ := hd.x x h2
        refine ⟨x.2, ?_, .inr ⟨hl, rr, rr, he, he, rfl, rfl, rfl, rfl, rfl, rfl, fun t => .fix (ht t) (by show X.base ≤ d.n; omega) p1⟩⟩
        rw [p1 _ (hwb _ hw)]
        exact map_eq_mem hx x h2
    · rename_i hx'
      rcases hb with hb | hb
      · have := hd.W
        rw [List.all_eq_true] at this
        have := this b hb
        rw [List.any_eq_true] at this
        obtain ⟨x, q1, q2⟩ := this
        rw [List.find?_eq_none] at hx'
        exact absurd (by simpa using Nat.eq_of_beq_eq_true q2) (hx' x q1)
      · rw [hh0 b hb.1] at hk; cases hk

/-! ## Trees of tests -/

inductive DD (L : Type) where
  | leaf (l : L)
  | ask (c : Bool) (t f : DD L)
  | must (c : Bool) (t : DD L)
  | num (x : Int) (n : Nat) (t f : DD L)
  | dead

def DD.eval {L : Type} : DD L → Option L
  | .leaf l => some l
  | .ask c t f => bif c then t.eval else f.eval
  | .must c t => bif c then t.eval else none
  | .num x n t f => bif decide (x = n) then t.eval else f.eval
  | .dead => none

/-- Its leaves: the answers that lead there, the facts on the way, the latest first. -/
def DD.lv {L : Type} : DD L → List (List Nat × List PC × L)
  | .leaf l => [([], [], l)]
  | .ask c t f => t.lv.map (fun x => (1 :: x.1, x.2.1 ++ [.b (.x c) true], x.2.2)) ++ f.lv.map (fun x => (0 :: x.1, x.2.1 ++ [.b (.x c) false], x.2.2))
  | .must c t => t.lv.map (fun x => (x.1, x.2.1 ++ [.b (.x c) true], x.2.2))
  | .num x n t f => t.lv.map (fun y => (n :: y.1, y.2.1 ++ [.b (.x (decide (x = n))) true], y.2.2)) ++ f.lv
  | .dead => []

theorem DD.eval_lv {L : Type} {ρ : Env} {l : L} : ∀ {d : DD L}, d.eval = some l → ∃ o p, (o, p, l) ∈ d.lv ∧ ∀ q ∈ p, q.holds ρ
  | .leaf l', h => by
    simp only [DD.eval] at h
    cases h
    exact ⟨[], [], by simp [DD.lv], by simp⟩
  | .ask c t f, h => by
    simp only [DD.eval] at h
    cases c with
    | true =>
      obtain ⟨o, p, h1, h2⟩ := DD.eval_lv (ρ := ρ) (d := t) h
      exact ⟨1 :: o, p ++ [.b (.x true) true], by simp only [DD.lv, List.mem_append, List.mem_map]; exact .inl ⟨_, h1, rfl⟩, fun q hq => by
        rcases List.mem_append.1 hq with hq | hq
        · exact h2 q hq
        · obtain rfl := List.mem_singleton.1 hq; rfl⟩
    | false =>
      obtain ⟨o, p, h1, h2⟩ := DD.eval_lv (ρ := ρ) (d := f) h
      exact ⟨0 :: o, p ++ [.b (.x false) false], by simp only [DD.lv, List.mem_append, List.mem_map]; exact .inr ⟨_, h1, rfl⟩, fun q hq => by
        rcases List.mem_append.1 hq with hq | hq
        · exact h2 q hq
        · obtain rfl := List.mem_singleton.1 hq; rfl⟩
  | .must c t, h => by
    simp only [DD.eval] at h
    cases c with
    | true =>
      obtain ⟨o, p, h1, h2⟩ := DD.eval_lv (ρ := ρ) (d := t) h
      exact ⟨o, p ++ [.b (.x true) true], by simp only [DD.lv, List.mem_map]; exact ⟨_, h1, rfl⟩, fun q hq => by
        rcases List.mem_append.1 hq with hq | hq
        · exact h2 q hq
        · obtain rfl := List.mem_singleton.1 hq; rfl⟩
    | false => cases h
  | .num x n t f, h => by
    simp only [DD.eval] at h
    cases hx : decide (x = n) with
    | true =>
      rw [hx] at h
      obtain ⟨o, p, h1, h2⟩ := DD.eval_lv (ρ := ρ) (d := t) h
      exact ⟨n :: o, p ++ [.b (.x (decide (x = n))) true], by simp only [DD.lv, List.mem_append, List.mem_map]; exact .inl ⟨_, h1, rfl⟩, fun q hq => by
        rcases List.mem_append.1 hq with hq | hq
        · exact h2 q hq
        · obtain rfl := List.mem_singleton.1 hq; exact hx⟩
    | false =>
      rw [hx] at h
      obtain ⟨o, p, h1, h2⟩ := DD.eval_lv (ρ := ρ) (d := f) h
      exact ⟨o, p, by simp only [DD.lv, List.mem_append]; exact .inr h1, h2⟩
  | .dead, h => by cases h

/-- A leaf: the next head, or the function's end; the blocks' numbers there. -/
inductive Lf (N R : Type) where
  | next (a : N) (r : List Nat)
  | done (v : R) (r : List Nat)

/-- A function as an automaton: N its heads, R what it yields. -/
structure AF (N R : Type) where
  code : Code
  base : Nat
  nt : Nat
  m : Nat
  un : List Nat
  W : List Nat
  h0 : List (Nat × Blk)
  args : List CV
  res : List ResultVar
  path : N → List Nat
  pd : N → PD
  D0 : DD (Lf N R)
  D : N → DD (Lf N R)
  rc : R → CV
  rh : R → List (Nat × Blk)
  rn : R → Nat
  rx : R → List (Nat × Blk)
  /-- Heads that are ranges over functions: what follows, where the iterator ends within so many rounds. -/
  rgo : N → Option (Nat → Option (DD (Lf N R)))

section
variable {N R : Type} (A : AF N R)

noncomputable def AF.H0 : Tr Blk := mkH A.h0

def AF.go : Nat → N → Option R
  | 0, _ => none
  | n + 1, a =>
    match A.rgo a with
    | some q => match q n with
      | some D => match D.eval with
        | some (.next b _) => AF.go n b
        | some (.done v _) => some v
        | none => none
      | none => none
    | none => match (A.D a).eval with
      | some (.next b _) => AF.go n b
      | some (.done v _) => some v
      | none => none

/-- What the function yields, if it ends within so many rounds. -/
def AF.run (n : Nat) : Option R := match A.D0.eval with
  | some (.next b _) => A.go n b
  | some (.done v _) => some v
  | none => none

/-- What is looked at where a run ends, and what it should be. -/
noncomputable def AF.see (C0 : Ctx) (l : Lf N R) (o : Option KO) : Option (List Nat × List CV × List (Option Blk) × List PC × List (Option Blk) × Bool) :=
  match l, o with
  | .next a r, some ⟨.at π, T, s, W⟩ => some (π, (A.pd a).T.map (fun x => (CV.like x.2 (rd T x.1)).nrm), (A.pd a).h.map (fun x => (s.heap.get (renF A.base r x.1)).map (fun k => (Blk.like x.2 k).nrm)), s.pc, (A.pd a).x.map (fun x => s.heap.get x.1), W.all (fun b => A.W.any (Nat.beq b)) && (renOk A.base s.next r && Nat.beq (A.pd a).n (A.base + r.length)))
  | .done v r, some ⟨.fin e, T, s, W⟩ => match resE C0 T ⟨s.heap, s.next, [], []⟩ A.res with
    | some (vs, _) => some ([], [(CV.like (A.rc v) (tupC vs)).nrm], (A.rh v).map (fun x => (s.heap.get (renF A.base r x.1)).map (fun k => (Blk.like x.2 k).nrm)), s.pc, (A.rx v).map (fun x => s.heap.get x.1), W.all (fun b => A.W.any (Nat.beq b)) && (e.stays && (renOk A.base s.next r && Nat.beq (A.rn v) (A.base + r.length))))
    | none => none
  | _, _ => none
noncomputable def AF.want (l : Lf N R) (p : List PC) : Option (List Nat × List CV × List (Option Blk) × List PC × List (Option Blk) × Bool) :=
  match l with
  | .next a r => some (A.path a, (A.pd a).T.map (fun x => (x.2.ren (renF A.base r)).nrm), (A.pd a).h.map (fun x => some (x.2.ren (renF A.base r)).nrm), p, (A.pd a).x.map (fun x => some x.2), true)
  | .done v r => some ([], [((A.rc v).ren (renF A.base r)).nrm], (A.rh v).map (fun x => some (x.2.ren (renF A.base r)).nrm), p, (A.rx v).map (fun x => some x.2), true)

def AF.edgeOk (C0 : Ctx) (D : DD (Lf N R)) (run : List Nat → Option KO) : Prop :=
  D.lv.map (fun x => A.see C0 x.2.2 (run x.1)) = D.lv.map (fun x => A.want x.2.2 x.2.1)

noncomputable def AF.runN (C : Ctx) (a : N) (o : List Nat) : Option KO :=
  edgeK C A.m A.base A.nt A.un A.code (A.path a) ((A.pd a).pt A.H0).T (((A.pd a).pt A.H0).st o)
noncomputable def AF.run0 (C : Ctx) (o : List Nat) : Option KO :=
  startK C A.m A.base A.nt A.un A.code (args0 0 A.args .nil) ⟨A.H0, A.base, o, []⟩

variable {A}
variable {P : Program} {ρ : Env}

/-- What holds at the end. -/
def AF.Φ (A : AF N R) (P : Program) (ρ : Env) (v : R) (e : Ex) (p : Pt) : Prop :=
  e.stays = true ∧ ∃ (r : List Nat) (vs : List CV) (R' : List Nat), (∀ X : Fx, X.base = A.base → X.W = A.W → Mat ρ X (renF A.base r) p (PD.pt A.H0 ⟨[], A.rh v, A.rn v, A.rx v⟩)) ∧ resE (ctxOf P memo0) p.T (p.st []) A.res = some (vs, R') ∧ (CV.like (A.rc v) (tupC vs)).nrm = ((A.rc v).ren (renF A.base r)).nrm

structure AF.Ok (A : AF N R) (P : Program) (C : Ctx) : Prop where
  regs : regsOk A.code = true
  h0 : A.h0.all (fun x => Nat.blt x.1 A.base) = true
  start : A.edgeOk (ctxOf P memo0) A.D0 (A.run0 C)
  node : ∀ a, A.rgo a = none → A.edgeOk (ctxOf P memo0) (A.D a) (A.runN C a)
  pd : ∀ a, (A.pd a).Ok A.base A.W
  le : ∀ a, A.base ≤ (A.pd a).n
  rd : ∀ v, (⟨[], A.rh v, A.rn v, A.rx v⟩ : PD).Ok A.base A.W ∧ (A.rc v).rnb (A.rn v) = true
  wb : A.W.all (fun b => Nat.blt b A.base) = true

theorem AF.Ok.h0_none {C : Ctx} (hA : A.Ok P C) (b : Nat) (hb : A.base ≤ b) : A.H0.get b = none := by
  unfold AF.H0
  rw [get_mkH]
  have h := hA.h0
  rw [List.all_eq_true] at h
  have : A.h0.find? (fun x => x.1 == b) = none := by
    rw [List.find?_eq_none]
    intro x hx hxb
    have h1 := blt_lt (h x hx)
    simp only [beq_iff_eq] at hxb
    omega
  rw [this]; rfl

theorem AF.Ok.wlt {C : Ctx} (hA : A.Ok P C) : ∀ b ∈ A.W, b < A.base := fun b hb => blt_lt (List.all_eq_true.1 hA.wb b hb)
theorem wsub {W V : List Nat} (h : W.all (fun b => V.any (Nat.beq b)) = true) : ∀ b ∈ W, b ∈ V := fun b hb => by
  have := List.all_eq_true.1 h b hb
  obtain ⟨x, h1, h2⟩ := List.any_eq_true.1 this
  rw [Nat.eq_of_beq_eq_true h2]; exact h1

/-- What is to be shown of a head that is a range over a function: a run behind it. -/
def AF.RangeOk (A : AF N R) (P : Program) (ρ : Env) (X : Fx) (a : N) (D : DD (Lf N R)) : Prop :=
  ∃ (run : List Nat → Option KO) (s0 : St), A.edgeOk (ctxOf P memo0) D run ∧ s0.pc = [] ∧ (∀ b, b < A.base → b ∉ A.W → s0.heap.get b = A.H0.get b) ∧
    ∀ o (k : KO), run o = some k → KS P ρ A.base A.nt s0 k.s k.W (fun X Φ => Obl P ρ X A.code Φ k.r ⟨k.T, k.s.heap, k.s.next⟩) (fun X' Φ => X' = X → AtL P ρ X A.code (A.path a) Φ ((A.pd a).pt A.H0))

theorem AF.go_ok {C : Ctx} (hC : CtxOk3 P C) (hM : MemoOk P C ρ) (hA : A.Ok P C) {X : Fx} (hX : FxOk ρ X) (hb : X.base = A.base) (hnt : X.nt = A.nt) (hW : X.W = A.W) (hR : ∀ a q n D, A.rgo a = some q → q n = some D → A.RangeOk P ρ X a D) :
    ∀ (n : Nat) (D : DD (Lf N R)) (v : R) (run : List Nat → Option KO) (G : (Ex → Pt → Prop) → Prop) (s0 : St), A.edgeOk (ctxOf P memo0) D run → s0.pc = [] → (∀ b, b < A.base → b ∉ A.W → s0.heap.get b = A.H0.get b) →
      (∀ o (k : KO), run o = some k → KS P ρ A.base A.nt s0 k.s k.W (fun X Φ => Obl P ρ X A.code Φ k.r ⟨k.T, k.s.heap, k.s.next⟩) (fun X' Φ => X' = X → G Φ)) →
      (match D.eval with | some (.next b _) => A.go n b | some (.done v _) => some v | none => none) = some v → G (A.Φ P ρ v) := by
  intro n
  induction n with
  | zero =>
    intro D v run G s0 hE hpc hold hrun hv
    cases hd : D.eval with
    | none => rw [hd] at hv; cases hv
    | some l =>
      rw [hd] at hv
      cases l with
      | next b r => simp only [AF.go] at hv; cases hv
      | done v' r =>
        cases hv
        obtain ⟨o, p, hm, hp⟩ := DD.eval_lv (ρ := ρ) hd
        have h1 := map_eq_mem hE _ hm
        simp only [AF.see, AF.want] at h1
        split at h1 <;> try (cases h1; done)
        · rename_i heq _; cases heq
        · rename_i v2 r2 e T s W heq hk
          cases heq
          split at h1
          · rename_i vs R' hres
            simp only [Option.some.injEq, Prod.mk.injEq, true_and, List.cons.injEq, and_true, Bool.and_eq_true] at h1
            obtain ⟨h2, h3, h4, hxx, h5, h6, h7, h8⟩ := h1
            have h5 := wsub h5
            have k := hrun o _ hk
            refine k.run X _ hX hb hnt (by show ∀ q ∈ s.pc, _; rw [h4]; exact hp) (by show ∀ b ∈ W, _; rw [hW]; exact h5) ?_ rfl
            refine ⟨h6, r, vs, R', ?_, hres, h2⟩
            intro X' hb' hW'
            exact Mat.ren hb' hW' hA.wlt (hA.rd v).1 h7 (Nat.eq_of_beq_eq_true h8) rfl h3 hxx (fun b hb hbW => by
              have := k.old b hb (by show b ∉ W; exact fun h => hbW (h5 b h))
              exact this.trans (hold b hb hbW)) hA.h0_none
          · cases h1
  | succ n ih =>
    intro D v run G s0 hE hpc hold hrun hv
    cases hd : D.eval with
    | none => rw [hd] at hv; cases hv
    | some l =>
      rw [hd] at hv
      cases l with
      | next b r =>
        obtain ⟨o, p, hm, hp⟩ := DD.eval_lv (ρ := ρ) hd
        have h1 := map_eq_mem hE _ hm
        simp only [AF.see, AF.want] at h1
        split at h1 <;> try (cases h1; done)
        · rename_i a2 r2 π T s W heq hk
          cases heq
          simp only [Option.some.injEq, Prod.mk.injEq, true_and, Bool.and_eq_true] at h1
          obtain ⟨h2, h3, h4, h5, hxx, h6, h7, h8⟩ := h1
          have h6 := wsub h6
          have k := hrun o _ hk
          refine k.run X _ hX hb hnt (by show ∀ q ∈ s.pc, _; rw [h5]; exact hp) (by show ∀ b ∈ W, _; rw [hW]; exact h6) ?_ rfl
          show AtL P ρ X A.code π (A.Φ P ρ v) ⟨T, s.heap, s.next⟩
          rw [h2]
          refine AtL.mat hX (Mat.ren (base := A.base) (h0 := A.H0) (d := A.pd b) (r := r) hb hW hA.wlt (hA.pd b) h7 (Nat.eq_of_beq_eq_true h8) h3 h4 hxx (fun b hb hbW => by
              have := k.old b hb (by show b ∉ W; exact fun h => hbW (h6 b h))
              exact this.trans (hold b hb hbW)) hA.h0_none) ?_
          simp only [AF.go] at hv
          cases hq : A.rgo b with
          | some q =>
            rw [hq] at hv
            simp only at hv
            cases hqn : q n with
            | none => rw [hqn] at hv; cases hv
            | some D2 =>
              rw [hqn] at hv
              obtain ⟨run2, s2, e1, e2, e3, e4⟩ := hR b q n D2 hq hqn
              exact ih D2 v run2 (fun Φ => AtL P ρ X A.code (A.path b) Φ ((A.pd b).pt A.H0)) s2 e1 e2 e3 e4 hv
          | none =>
          rw [hq] at hv
          simp only at hv
          refine ih (A.D b) v (A.runN (C := C) b) (fun Φ => AtL P ρ X A.code (A.path b) Φ ((A.pd b).pt A.H0)) (((A.pd b).pt A.H0).st []) (hA.node b hq) rfl (fun b' hb' hbW' => ?_) (fun o k hk => ?_) hv
          · show (putH A.H0 ((A.pd b).h ++ (A.pd b).x)).get b' = _
            rw [get_putH]
            split
            · rename_i x hx
              have h1 := List.find?_some hx
              have h2 := List.mem_of_find?_eq_some hx
              simp only [beq_iff_eq] at h1
              subst h1
              rcases List.mem_append.1 h2 with h2 | h2
              · rcases ((hA.pd b).h x h2).1 with h3 | h3
                · omega
                · exact absurd h3 hbW'
              · exact absurd ((hA.pd b).x x h2).1 hbW'
            · rfl
          · have kk := edgeK_ok (base := A.base) hC hM hA.regs (by show A.base ≤ (A.pd b).n; exact hA.le b) hk
            exact ⟨kk.next, kk.pc, kk.old, fun X' Φ a b c d e f hx => by subst hx; exact kk.run X' Φ a b c d e f⟩
        · rename_i heq _; cases heq
      | done v' r =>
        have hv' : (match D.eval with | some (.next b _) => A.go n b | some (.done v _) => some v | none => none) = some v := by rw [hd]; exact hv
        exact ih D v run G s0 hE hpc hold hrun hv'

/-- No head is a range over a function. -/
theorem AF.noRange (h : A.rgo = fun _ => none) : ∀ (X : Fx) a q n D, FxOk ρ X → X.base = A.base → X.nt = A.nt → X.W = A.W → A.rgo a = some q → q n = some D → A.RangeOk P ρ X a D := by
  intro X a q n D _ _ _ _ hq
  rw [h] at hq
  cases hq

/-- A function's contract, from its automaton. -/
theorem AF.ctr {memo : Memo} (hP : progOk P = true) (hM : MemoOk P (ctxOf P memo) ρ) (hA : A.Ok P (ctxOf P memo)) {f : Nat} {fn : Func} (hfn : P.funcs[f]? = some fn) (hb : fn.body = some A.code) (hnt : fn.ntmps = A.nt) (hl : A.args.length ≤ A.nt) (hres : fn.results.toList = A.res)
    (hR : ∀ X a q n D, FxOk ρ X → X.base = A.base → X.nt = A.nt → X.W = A.W → A.rgo a = some q → q n = some D → A.RangeOk P ρ X a D) {n : Nat} {v : R} (hv : A.run n = some v) : Ctr P ρ f A.args A.H0 A.base A.W (A.rc v) (putH A.H0 (A.rh v ++ A.rx v)) (A.rn v) := by
  have hC := ctxOf_ok hP memo
  refine Ctr.of_sem (Φ := A.Φ P ρ v) hP hfn hb (by rw [hnt]; exact hl) hA.wlt (fun X hXb hXn hXW hX => ?_) (fun X hXb hXW hX e p h => ?_)
  · refine AF.go_ok hC hM hA hX hXb (hXn.trans hnt) hXW (fun a q m D => hR X a q m D hX hXb (hXn.trans hnt) hXW) n A.D0 v (A.run0 (ctxOf P memo)) (fun Φ => Sem P ρ X A.code ⟨args0 0 A.args .nil, A.H0, A.base⟩ Φ) ⟨A.H0, A.base, [], []⟩ hA.start rfl (fun _ _ _ => rfl) (fun o k hk => ?_) hv
    have kk := startK_ok (base := A.base) hC hM A.code _ _ _ hA.regs (by show A.base ≤ A.base; exact Nat.le_refl _) hk
    exact ⟨kk.next, kk.pc, kk.old, fun X' Φ a b c d e f hx => by subst hx; exact kk.run X' Φ a b c d e f⟩
  · obtain ⟨he, r, vs, R', hm, hr, hc⟩ := h
    refine ⟨he, renF A.base r, _, vs, R', hm X hXb hXW, rfl, fun _ _ => rfl, by rw [hres]; exact hr, ?_⟩
    exact ((MC.ren (hA.rd v).2).nrm hc).like

end
end Go.Proofs.Ytknphpihipkdpaa.Cx
