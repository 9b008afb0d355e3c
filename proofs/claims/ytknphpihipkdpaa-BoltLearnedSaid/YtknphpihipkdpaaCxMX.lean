/- CALLS KNOWN AT ONE PLACE: where a function's contract at some numbers is known, its call with just these terms yields other symbols. -/
import Derived.Test.YtknphpihipkdpaaCxZ
set_option linter.unusedSimpArgs false
set_option linter.unusedVariables false
namespace Go.Proofs.Ytknphpihipkdpaa.Cx
open Go Go.RowKit

noncomputable def IE.same (a : IE) : IE → Bool :=
  IE.rec (motive := fun _ => IE → Bool)
    (fun n b => match b with | .c m => decide (n = m) | _ => false)
    (fun i b => match b with | .v j => Nat.beq i j | _ => false)
    (fun o k _ _ f g b => match b with | .bin o' k' p q => decide (o = o') && (decide (k = k') && (f p && g q)) | _ => false)
    (fun _ _ => false) a
theorem IE.same_eq : ∀ {a b : IE}, a.same b = true → a = b
  | .c n, b, h => by
    cases b with
    | c m => rw [of_decide_eq_true h]
    | v j => cases h
    | bin o k c d => cases h
    | x n => cases h
  | .v i, b, h => by
    cases b with
    | c m => cases h
    | v j => rw [Nat.eq_of_beq_eq_true h]
    | bin o k c d => cases h
    | x n => cases h
  | .bin o k e1 e2, b, h => by
    cases b with
    | c m => cases h
    | v j => cases h
    | x n => cases h
    | bin o' k' c d =>
      have h : (decide (o = o') && (decide (k = k') && (e1.same c && e2.same d))) = true := h
      simp only [Bool.and_eq_true, decide_eq_true_eq] at h
      rw [h.1, h.2.1, IE.same_eq h.2.2.1, IE.same_eq h.2.2.2]
  | .x n, b, h => by cases h

mutual
noncomputable def CV.same : CV → CV → Bool
  | .int k e, .int k' e' => decide (k = k') && e.same e'
  | .agg l, .agg m => CV.sames l m
  | _, _ => false
noncomputable def CV.sames : List CV → List CV → Bool
  | [], [] => true
  | c :: l, d :: m => c.same d && CV.sames l m
  | _, _ => false
end
mutual
theorem CV.same_eq : ∀ {c d : CV}, c.same d = true → c = d
  | .int k e, d, h => by
    cases d <;> simp only [CV.same, Bool.and_eq_true, decide_eq_true_eq, Bool.false_eq_true] at h
    rw [h.1, IE.same_eq h.2]
  | .agg l, d, h => by
    cases d <;> simp only [CV.same, Bool.false_eq_true] at h
    rw [CV.sames_eq h]
  | .bool _, d, h => by cases d <;> simp [CV.same] at h
  | .raw _, d, h => by cases d <;> simp [CV.same] at h
  | .ptr _, d, h => by cases d <;> simp [CV.same] at h
  | .slc .., d, h => by cases d <;> simp [CV.same] at h
  | .slx .., d, h => by cases d <;> simp [CV.same] at h
  | .sla .., d, h => by cases d <;> simp [CV.same] at h
  | .sln _, d, h => by cases d <;> simp [CV.same] at h
  | .slr .., d, h => by cases d <;> simp [CV.same] at h
  | .ptx .., d, h => by cases d <;> simp [CV.same] at h
  | .junk, d, h => by cases d <;> simp [CV.same] at h
  | .any, d, h => by cases d <;> simp [CV.same] at h
  | .emp, d, h => by cases d <;> simp [CV.same] at h
  | .fn .., d, h => by cases d <;> simp [CV.same] at h
  | .tup _, d, h => by cases d <;> simp [CV.same] at h
  | .yld _, d, h => by cases d <;> simp [CV.same] at h
  | .map _, d, h => by cases d <;> simp [CV.same] at h
theorem CV.sames_eq : ∀ {l m : List CV}, CV.sames l m = true → l = m
  | [], m, h => by cases m <;> simp [CV.sames] at h ⊢
  | c :: l, m, h => by
    cases m with
    | nil => simp [CV.sames] at h
    | cons d m =>
      simp only [CV.sames, Bool.and_eq_true] at h
      rw [CV.same_eq h.1, CV.sames_eq h.2]
end

mutual
/-- Terms ls their numbers. -/
def CV.xs (ρ : Env) : CV → CV
  | .int k e => .int k (.x (e.den ρ))
  | .bool b => .bool (.x (b.den ρ))
  | .agg l => .agg (CV.xsl ρ l)
  | .tup l => .tup (CV.xsl ρ l)
  | c => c
def CV.xsl (ρ : Env) : List CV → List CV
  | [] => []
  | c :: l => c.xs ρ :: CV.xsl ρ l
end
mutual
def CV.fx : CV → Bool
  | .int _ _ | .bool _ => true
  | .agg l | .tup l => CV.fxl l
  | _ => false
def CV.fxl : List CV → Bool
  | [] => true
  | c :: l => c.fx && CV.fxl l
end
section
variable {P : Program} {ρ : Env}
mutual
theorem VR.xs {σ τ : Mp} : ∀ {c : CV} {v : Value}, VR ρ σ c v → c.fx = true → VR ρ τ (c.xs ρ) v
  | _, _, .int k e, _ => VR.int (ρ := ρ) (σ := τ) k (.x (e.den ρ))
  | _, _, .bool b, _ => VR.bool (ρ := ρ) (σ := τ) (.x (b.den ρ))
  | _, _, .agg h, f => .agg (VRl.xs h f)
  | _, _, .tup h, f => .tup (VRl.xs h f)
theorem VRl.xs {σ τ : Mp} : ∀ {l : List CV} {m : List Value}, VRl ρ σ l m → CV.fxl l = true → VRl ρ τ (CV.xsl ρ l) m
  | _, _, .nil, _ => .nil
  | _, _, .cons h t, f => by
    simp only [CV.fxl, Bool.and_eq_true] at f
    exact .cons (VR.xs h f.1) (VRl.xs t f.2)
end
mutual
theorem VR.of_xs {σ τ : Mp} : ∀ {c : CV} {v : Value}, VR ρ σ (c.xs ρ) v → c.fx = true → VR ρ τ c v
  | .int k e, v, h, _ => by cases h; exact VR.int k e
  | .bool b, v, h, _ => by cases h; exact VR.bool b
  | .agg l, v, h, f => by cases h with | agg h => exact .agg (VRl.of_xs h f)
  | .tup l, v, h, f => by cases h with | tup h => exact .tup (VRl.of_xs h f)
theorem VRl.of_xs {σ τ : Mp} : ∀ {l : List CV} {m : List Value}, VRl ρ σ (CV.xsl ρ l) m → CV.fxl l = true → VRl ρ τ l m
  | [], _, .nil, _ => .nil
  | c :: l, _, .cons h t, f => by
    simp only [CV.fxl, Bool.and_eq_true] at f
    exact .cons (VR.of_xs h f.1) (VRl.of_xs t f.2)
end

noncomputable def memoX (g : Nat) (ls : List CV) (r : CV) (inner : Memo) : Memo := fun f args s =>
  bif Nat.beq f g && CV.sames args ls then some (r, s, [], []) else inner f args s

theorem memoX_ok {g : Nat} {ls : List CV} {r : CV} {inner : Memo} (K : Ctr P ρ g (CV.xsl ρ ls) .nil 0 [] (r.xs ρ) .nil 0) (ha : CV.fxl ls = true) (hr : r.fx = true) (hi : MemoOk P (ctxOf P inner) ρ) : MemoOk P (ctxOf P (memoX g ls r inner)) ρ := by
  have lift : ∀ {f args s c s' R W}, CallOk P (ctxOf P inner) ρ f args s c s' R W → CallOk P (ctxOf P (memoX g ls r inner)) ρ f args s c s' R W := fun h => ⟨h.fn, h.frm, h.lt, h.run⟩
  intro f args s c s' R' W h0
  have h : memoX g ls r inner f args s = some (c, s', R', W) := h0
  clear h0
  unfold memoX at h
  cases hf : Nat.beq f g && CV.sames args ls with
  | false => rw [hf, cond_false] at h; exact lift (hi _ _ _ _ _ _ _ h)
  | true =>
    rw [hf, cond_true] at h
    rw [Bool.and_eq_true] at hf
    obtain rfl := Nat.eq_of_beq_eq_true hf.1
    obtain rfl := CV.sames_eq hf.2
    cases h
    exact Ctr.callOk (base := 0) (n1 := 0) (h0 := .nil) (h1 := .nil) (args := CV.xsl ρ args) (c := r.xs ρ) (β := id) (fun hp => K) K.fn (Nat.le_refl _) rfl ⟨[], rfl⟩ (fun b _ => rfl) (fun j hj => by omega) (fun i hi => by omega) (fun b hb => by cases hb) (fun i i' k k' hi => by omega) (fun i hi => by omega) (fun σ l hl => hl.xs ha) (fun σ σ2 v hl hv => hv.of_xs hr)
end
end Go.Proofs.Ytknphpihipkdpaa.Cx
