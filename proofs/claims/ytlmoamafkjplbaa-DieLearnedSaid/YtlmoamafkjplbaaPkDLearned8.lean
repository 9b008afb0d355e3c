/- DieLearned: the law's run. -/
import Derived.Test.YtlmoamafkjplbaaPkDLearned7

namespace Go.Proofs.Ytlmoamafkjplbaa.Cx
set_option linter.unusedVariables false
set_option linter.unusedSimpArgs false
set_option maxRecDepth 100000
set_option maxHeartbeats 4000000
open Go Go.RowKit

theorem dlr_run (a0 : Bool) (a1 a2 : Int) (a3 : Nat) (a4 a5 : Nat → Int) (a6 : Nat) (a7 a8 a9 a10 : Nat → Int) (a11 : Nat) (a12 : Nat → Int) (a13 a14 a15 a16 a17 a18 a19 : Int) (h1 : 0 ≤ a1 ∧ a1 ≤ 255) (h2 : 0 ≤ a2 ∧ a2 ≤ 255) (_ : a3 ≤ 9223372036854775807) (h4 : ∀ i, 0 ≤ a4 i ∧ a4 i ≤ 255) (h5 : ∀ i, 0 ≤ a5 i ∧ a5 i ≤ 255) (_ : a6 ≤ 9223372036854775807) (_ : ∀ i, 0 ≤ a7 i ∧ a7 i ≤ 255) (_ : ∀ i, 0 ≤ a8 i ∧ a8 i ≤ 255) (_ : ∀ i, 0 ≤ a9 i ∧ a9 i ≤ 255) (_ : ∀ i, 0 ≤ a10 i ∧ a10 i ≤ 255) (_ : a11 ≤ 9223372036854775807) (_ : ∀ i, 0 ≤ a12 i ∧ a12 i ≤ 255) (h13 : 0 ≤ a13 ∧ a13 ≤ 255) (h14 : 0 ≤ a14 ∧ a14 ≤ 255) (h15 : 0 ≤ a15 ∧ a15 ≤ 255) (h16 : 0 ≤ a16 ∧ a16 ≤ 255) (h17 : 0 ≤ a17 ∧ a17 ≤ 255) (h18 : 0 ≤ a18 ∧ a18 ≤ 255) (h19 : 0 ≤ a19 ∧ a19 ≤ 255) :
    ∃ n v, AF.run (dlrA a0 a1 a2 a3 a4 a5 a6 a7 a8 a9 a10 a11 a12 a13 a14 a15 a16 a17 a18 a19) n = some v ∧ v = true := by
  refine AF.run_sat (E := fun v => v = true) (Inv := fun b => False) (fun b => 0) (fun b => rfl) (fun b h => h.elim) ?_
  show DD.sat _ _ (dlrD0 a0 a1 a2 a3 a4 a5 a6 a7 a8 a9 a10 a11 a12 a13 a14 a15 a16 a17 a18 a19)
  have hT := dto_val (a0 := a0) (a1 := a1) (a2 := a2) (a3 := a3) (a4 := a4) (a5 := a5) (a6 := a6) (a7 := a7) (a8 := a8) (a9 := a9) (a10 := a10) (a11 := a11) (a12 := a12) h1 h2 h4 h5
  have hTf : AF.fin (dtoA a0 a1 a2 a3 (fun i => a4 i) (fun i => a5 i) a6 (fun i => a7 i) (fun i => a8 i) (fun i => a9 i) (fun i => a10 i) a11 (fun i => a12 i)) = true := hT.1
  have hT' : TlOk (AF.val (dtoA a0 a1 a2 a3 (fun i => a4 i) (fun i => a5 i) a6 (fun i => a7 i) (fun i => a8 i) (fun i => a9 i) (fun i => a10 i) a11 (fun i => a12 i))) := hT.2
  unfold dlrD0
  simp only [DD.sat, Nat.zero_add, decide_eq_true_eq, cmNeq, cmNeqF, cmLss, cmLssF, cmGtr, cmGtrF, cmGeq, cmGeqF, Bool.not_eq_true', Bool.not_eq_false']
  generalize AF.val (dtoA a0 a1 a2 a3 (fun i => a4 i) (fun i => a5 i) a6 (fun i => a7 i) (fun i => a8 i) (fun i => a9 i) (fun i => a10 i) a11 (fun i => a12 i)) = v at hT' ⊢
  cases v with
  | r0 => exact hT'.elim
  | r1 p0 p1 p2 p3 p4 p5 p6 p7 =>
  obtain ⟨s1, s2, c1, c2, n1, rows⟩ := hT'
  have rw0 := rows 0 (by omega)
  unfold RowOk at rw0
  have eK1 : Ar.run .add .i64 10000 a13 = 10000 + a13 := arAdd (by omega)
  have eZ1 : Ar.run .add .i64 9900 a18 = 9900 + a18 := arAdd (by omega)
  have eZ2 : Ar.run .mul .i64 3 a19 = 3 * a19 := arMul (by omega)
  have eZ3 : Ar.run .add .i64 (9900 + a18) (3 * a19) = 9900 + a18 + 3 * a19 := arAdd (by omega)
  have eN1 : Ar.run .sub .i64 0 a17 = 0 - a17 := arSub (by omega)
  simp only [dtow0, dtow1, dtow2, dtow3, dtow4, dtow5, dtow6, dtow7, conv_byte h13, conv_byte h14, conv_byte h15, conv_byte h16, conv_byte h17, conv_byte h18, conv_byte h19, eK1, eZ1, eZ2, eZ3, eN1]
  have f14 := rem_pos h14.1 (show (0 : Int) < 60 by omega)
  generalize Ar.run .rem .i64 a14 60 = r14 at f14 ⊢
  have eK2 : Ar.run .add .i64 (10000 + a13) r14 = 10000 + a13 + r14 := arAdd (by omega)
  have eK3 : Ar.run .sub .i64 (10000 + a13 + r14) (10000 + a13) = r14 := by rw [arSub (by omega)]; omega
  have eK4 : Ar.run .add .i64 r14 1 = r14 + 1 := arAdd (by omega)
  simp only [eK2, eK3, eK4]
  have f15 := rem_pos h15.1 (show (0 : Int) < r14 + 1 by omega)
  generalize Ar.run .rem .i64 a15 (r14 + 1) = r15 at f15 ⊢
  have eT1 : Ar.run .add .i64 (10000 + a13) r15 = 10000 + a13 + r15 := arAdd (by omega)
  have eC1 : Ar.run .sub .i64 p4 p3 = p4 - p3 := arSub (by omega)
  have eC2 : Ar.run .add .i64 (p4 - p3) 1 = p4 - p3 + 1 := arAdd (by omega)
  simp only [eT1, eC1, eC2]
  have f16 := rem_pos h16.1 (show (0 : Int) < p4 - p3 + 1 by omega)
  generalize Ar.run .rem .i64 a16 (p4 - p3 + 1) = r16 at f16 ⊢
  have fw1 := rem_neg h17.1 (show (0 : Int) < 8 by omega)
  generalize Ar.run .rem .i64 (0 - a17) 8 = w1 at fw1 ⊢
  have fw2 := quo_byte h17 (show (1 : Int) ≤ 32 by omega)
  generalize Ar.run .quo .i64 a17 32 = w2 at fw2 ⊢
  have fq := quo_byte h16 (show (1 : Int) ≤ 16 by omega)
  generalize Ar.run .quo .i64 a16 16 = q16 at fq ⊢
  have eW1 : Ar.run .sub .i64 w2 w1 = w2 - w1 := arSub (by omega)
  have eW2 : Ar.run .add .i64 (w2 - w1) 1 = w2 - w1 + 1 := arAdd (by omega)
  have eS1 : Ar.run .add .i64 p3 r16 = p3 + r16 := arAdd (by omega)
  simp only [eW1, eW2, eS1]
  have f17 := rem_pos fq.1 (show (0 : Int) < w2 - w1 + 1 by omega)
  generalize Ar.run .rem .i64 q16 (w2 - w1 + 1) = r17 at f17 ⊢
  have eS2 : Ar.run .add .i64 w1 r17 = w1 + r17 := arAdd (by omega)
  have eS3 : Ar.run .add .i64 (10000 + a13 + r15) (p3 + r16) = 10000 + a13 + r15 + (p3 + r16) := arAdd (by omega)
  have eS4 : Ar.run .add .i64 (10000 + a13 + r15 + (p3 + r16)) (w1 + r17) = 10000 + a13 + r15 + (p3 + r16) + (w1 + r17) := arAdd (by omega)
  simp only [eS2, eS3, eS4]
  obtain ⟨sh, hsh⟩ : ∃ sh : Int, sh = 10000 + a13 + r15 + (p3 + r16) + (w1 + r17) := ⟨_, rfl⟩
  rw [← hsh]
  have hok : ToolOk p5 p6 p7 p1 p2 p3 p4 := ⟨by omega, fun i hi => (by have := rows i (by omega); unfold RowOk at this; unfold VOk; omega), by unfold VOk; omega, by unfold VOk; omega⟩
  have hL := dle_val (a0 := p0) (a1 := p1) (a2 := p2) (a3 := p3) (a4 := p4) (a5 := p5) (a6 := p6) (a7 := p7) (a8 := 10000 + a13) (a9 := 10000 + a13 + r14) (a10 := sh) (a11 := w1) (a12 := w2) (by omega)
  have tv : TV p5 (ToolOk p5 p6 p7 p1 p2 p3 p4) 0 := .inr ⟨by omega, .inl ⟨hok, rfl⟩⟩
  have seen : SeenOk (10000 + a13) (10000 + a13 + r14) sh w1 w2 := by unfold SeenOk VOk; omega
  have hLv : AF.val (dleA p0 p1 p2 p3 p4 p5 (fun i => p6 i) (fun i => p7 i) (10000 + a13) (10000 + a13 + r14) sh w1 w2) = ((max (10000 + a13) (sh - w2 - p4)), (min (10000 + a13 + r14) (sh - w1 - p3)), 0) := by
    obtain ⟨e, he, q⟩ := hL.2
    obtain rfl := he.same tv
    rcases q with ⟨q, _⟩ | ⟨_, ⟨q, _⟩ | ⟨_, ⟨q, _⟩ | ⟨_, q⟩⟩⟩
    · exact absurd rfl q
    · exact absurd seen q
    · omega
    · exact q
  simp only [hLv]
  obtain ⟨lo, hlo⟩ : ∃ lo : Int, lo = (max (10000 + a13) (sh - w2 - p4)) := ⟨_, rfl⟩
  obtain ⟨hi, hhi⟩ : ∃ hi : Int, hi = (min (10000 + a13 + r14) (sh - w1 - p3)) := ⟨_, rfl⟩
  rw [← hlo, ← hhi]
  have hK := dlo_val (a0 := p0) (a1 := p1) (a2 := p2) (a3 := p3) (a4 := p4) (a5 := p5) (a6 := p6) (a7 := p7) (a8 := lo) (a9 := hi) (a10 := 0) (a11 := 9900 + a18) (a12 := 9900 + a18 + 3 * a19) (by omega)
  have lk : LkOk lo hi (9900 + a18) (9900 + a18 + 3 * a19) := by unfold LkOk VOk; omega
  obtain ⟨r, hF, hKr⟩ : ∃ r : Int, FstN (PSure p0 lo hi p3 p4 (9900 + a18) (9900 + a18 + 3 * a19) (p6 0) (p7 0)) 10000 r ∧ AF.val (dloA p0 p1 p2 p3 p4 p5 p6 p7 lo hi 0 (9900 + a18) (9900 + a18 + 3 * a19)) = (r, 0) := by
    obtain ⟨e, he, q⟩ := hK.2
    obtain rfl := he.same tv
    rcases q with ⟨q, _⟩ | ⟨_, ⟨q, _⟩ | ⟨_, ⟨q, _⟩ | ⟨_, r, q, q'⟩⟩⟩
    · exact absurd rfl q
    · exact absurd lk q
    · exact absurd ⟨by omega, by omega⟩ q
    · exact ⟨r, q, q'⟩
  have hKv : AF.val (dloA p0 p1 p2 p3 p4 p5 (fun i => p6 i) (fun i => p7 i) lo hi 0 (9900 + a18) (9900 + a18 + 3 * a19)) = (r, 0) := hKr
  have er : Ar.run .add .i64 r 1 = r + 1 := arAdd (by have := hF.1; have := hF.2.1; omega)
  simp only [hKv, arMn, er]
  obtain ⟨F1, F2, F3, F4⟩ := hF
  have pe := fun k (hk : 0 ≤ k) => psure_ends (b := p0) (s1 := lo) (s2 := hi) (c1 := p3) (c2 := p4) (zl := 9900 + a18) (zh := 9900 + a18 + 3 * a19) (wl := p6 0) (wh := p7 0) (k := k) (by omega) (by omega) (by omega) hk
  have dv := fun (n : Int) (hn : n ≤ 10000) (up : Bool) => den_val (a0 := n) (a1 := up) (a2 := lo) (a3 := hi) (a4 := p0) (a5 := p1) (a6 := p2) (a7 := p3) (a8 := p4) (a9 := p5) (a10 := p6) (a11 := p7) (a12 := 9900 + a18) (a13 := 9900 + a18 + 3 * a19) hn (by omega) (by omega) (by unfold BB; omega) (by unfold BB; omega) (by unfold BB; omega) (by unfold BB; omega)
  have t1 : AF.val (denA (min r 400) true lo hi p0 p1 p2 p3 p4 p5 p6 p7 (9900 + a18) (9900 + a18 + 3 * a19)) = true := (dv (min r 400) (by omega) true).2.2 fun k k0 k1 => ((pe k k0).1 (F3 k k0 (by omega))).1
  have t2 : AF.val (denA (min r 400) false lo hi p0 p1 p2 p3 p4 p5 p6 p7 (9900 + a18) (9900 + a18 + 3 * a19)) = true := (dv (min r 400) (by omega) false).2.2 fun k k0 k1 => ((pe k k0).1 (F3 k k0 (by omega))).2
  refine ⟨Nat.le_refl _, shape_ok fun i _ => rfl, Nat.le_refl _, shape_ok fun i _ => rfl, Nat.le_refl _, shape_ok fun i _ => rfl, hTf, by omega, by omega, by omega, Nat.le_refl _, by omega, Nat.le_refl _, shape_ok fun i _ => rfl, Nat.le_refl _, hL.1, fun h => (h rfl).elim, fun _ => ⟨fun h => by omega, fun _ => ⟨fun h => by omega, fun _ => ⟨fun h => by omega, fun _ => ⟨fun h => by omega, fun _ => ?_⟩⟩⟩⟩⟩
  refine ⟨Nat.le_refl _, by omega, Nat.le_refl _, shape_ok fun i _ => rfl, Nat.le_refl _, hK.1, fun h => (h rfl).elim, fun _ => ⟨fun h => by omega, fun _ => ⟨fun h => by omega, fun _ => ⟨Nat.le_refl _, shape_ok fun i _ => rfl, (dv _ (by omega) true).1, fun h => absurd (t1.symm.trans h) (by decide), fun _ => ⟨Nat.le_refl _, shape_ok fun i _ => rfl, (dv _ (by omega) false).1, fun h => absurd (t2.symm.trans h) (by decide), fun _ => ⟨fun _ => trivial, fun hr => ?_⟩⟩⟩⟩⟩⟩
  refine ⟨Nat.le_refl _, shape_ok fun i _ => rfl, (dv (r + 1) (by omega) true).1, fun _ => trivial, fun x => ⟨Nat.le_refl _, shape_ok fun i _ => rfl, (dv (r + 1) (by omega) false).1, fun _ => trivial, fun y => ?_⟩⟩
  have x' := (dv (r + 1) (by omega) true).2.1 x r F1 (by omega)
  have y' := (dv (r + 1) (by omega) false).2.1 y r F1 (by omega)
  exact absurd ((pe r F1).2 ⟨x', y'⟩) (F4 (by omega))
end Go.Proofs.Ytlmoamafkjplbaa.Cx

/- ARGUMENTS THAT ARE SLICES: opened as lists; the memory in which they lie as blocks that are read alone; a law's contract as its statement's walk. -/
namespace Go.Proofs.Ytlmoamafkjplbaa.Cx
set_option linter.unusedSimpArgs false
set_option linter.unusedVariables false
open Go Go.RowKit Go.ChangeShapes Go.WideShapes Go.Deep Go.Proofs.Ytlmoamafkjplbaa

/-! ## Such slices as blocks -/

section
variable {P : Program} {ρ : Env}

/-- Where a slice's rows lie. -/
noncomputable def locOf (w : World) (v : Value) (z : Nat) : Option Loc :=
  match v with
  | .slice (some a) (_ + 1) _ => match w.heap[a.block]? with
    | some (.cells c _ _) => some ⟨a.block, a.off, c.size, z⟩
    | _ => none
  | _ => none

theorem rows_rel {α : Type} {en : α → List Value} {ec : α → List CV} {d : α} (he : ∀ σ x, VRl ρ σ (ec x) (en x)) (σ : Mp) : ∀ (xs : List α) (n : Nat), n ≤ xs.length → VRl ρ σ (flatR (fun j => ec (xs.getD j d)) n) ((xs.take n).flatMap en)
  | xs, 0, _ => by simpa [flatR] using VRl.nil
  | xs, n + 1, h => by
    have ih := rows_rel (d := d) he σ xs n (by omega)
    rw [flatR, List.take_add_one, List.flatMap_append]
    refine ih.append ?_
    have hn : n < xs.length := by omega
    rw [List.getElem?_eq_getElem hn, List.getD_eq_getElem?_getD, List.getElem?_eq_getElem hn]
    simpa using he σ xs[n]

theorem SlR.rel {α : Type} {en : α → List Value} {ec : α → List CV} {d : α} {z : Nat} {w : World} {v : Value} {xs : List α} {σ : Mp} {b : Nat} (h : SlR en z w v xs) (hz : ∀ x, (en x).length = z) (he : ∀ σ x, VRl ρ σ (ec x) (en x))
    (hk : ∀ j, (ec (xs.getD j d)).length = z ∧ (ec (xs.getD j d)).all CV.flat = true) (hσ : σ b = locOf w v z) :
    VR ρ σ (.sla b z 0 xs.length) v ∧ ArgAt ρ w ⟨.arg xs.length z (fun j => ec (xs.getD j d)) hk, z, true, none⟩ (σ b) := by
  obtain ⟨a, cap, rfl, hcap, _, hx⟩ := h
  have hcl : Blk.cells ⟨.arg xs.length z (fun j => ec (xs.getD j d)) hk, z, true, none⟩ = flatR (fun j => ec (xs.getD j d)) xs.length := rfl
  have hlen := flatR_length (fun j => (hk j).1) xs.length
  rcases hx with rfl | ⟨bl, off, c, t, p, rfl, hh, hsz, hrow⟩
  · refine ⟨.sla0 _ _, rfl, rfl, rfl, fun l hl => ?_⟩
    rw [hσ] at hl
    simp [locOf] at hl
  · cases xs with
    | nil =>
      refine ⟨.sla0 _ _, rfl, rfl, rfl, fun l hl => ?_⟩
      rw [hσ] at hl
      simp [locOf] at hl
    | cons x xs =>
      have hlo : locOf w (.slice (some ⟨bl, off, none⟩) (x :: xs).length cap) z = some ⟨bl, off, c.size, z⟩ := by
        simp [locOf, hh]
      rw [hlo] at hσ
      refine ⟨?_, rfl, rfl, rfl, fun l hl => ?_⟩
      · have := VR.sla (ρ := ρ) (σ := σ) (b := b) (z := z) (o := 0) (n := (x :: xs).length) (c' := cap) hσ hcap
        simpa using this
      · rw [hσ] at hl
        obtain rfl := Option.some.inj hl
        refine ⟨c, t, p, hh, rfl, rfl, by rw [hcl, hlen]; exact hsz, fun τ => ?_⟩
        rw [hcl, hlen, hrow]
        have := rows_rel (ρ := ρ) (d := d) he τ (x :: xs) (x :: xs).length (Nat.le_refl _)
        rwa [List.take_of_length_le (Nat.le_refl _)] at this

/-- A law's contract, as its statement's walk. -/
theorem Ctr.law {f : Nat} {args : List CV} {h0 h1 : Tr Blk} {base n1 : Nat} {e : BE} {w : World} {σ : Mp} {args' : Array Value} (K : Ctr P ρ f args h0 base [] (.bool e) h1 n1) (he : e.den ρ = true) (ha : VRl ρ σ args args'.toList) (hH : HR ρ σ (curOf h0 base) w) (hN : ∀ b, base ≤ b → σ b = none) :
    Calls P f args' w fun e w' => e = .returned (.bool true) ∧ Below w.heap.size w w' := by
  refine ((K.run 0 σ w args' ha hH hN).calls (fun k d h => by cases h)).mono ?_
  rintro e' w' ⟨v, rfl, σ', h1, h2, h3, h4, h5⟩
  cases h2
  refine ⟨by rw [he], h4.os, h4.tape, h4.output, h4.size, fun k hk => h4.block k hk (fun b hb l hl => ?_)⟩
  rcases hb with hb | hb
  · cases hb
  · rw [hN b hb] at hl; cases hl

end
end Go.Proofs.Ytlmoamafkjplbaa.Cx

/- ARGUMENTS OF LAWS, OPENED BY THEIR TYPES: integers, bools, structs, arrays, and slices of rows of integers and bools (a table each); the memory in which these lie. -/
namespace Go.Proofs.Ytlmoamafkjplbaa.Cx
set_option linter.unusedSimpArgs false
set_option linter.unusedVariables false
open Go Go.RowKit Go.ChangeShapes Go.WideShapes Go.Deep Go.Proofs.Ytlmoamafkjplbaa

/-! ## What the cells of a type are -/

inductive CK where
  | int (k : IntKind)
  | bool
  | tab (ks : List (Option IntKind))

def flatCK : List CK → Option (List (Option IntKind))
  | [] => some []
  | .int k :: l => match flatCK l with | some m => some (some k :: m) | none => none
  | .bool :: l => match flatCK l with | some m => some (none :: m) | none => none
  | .tab _ :: _ => none

def ckFs (P : Program) (f : TypeId → Option (List CK)) : Nat → List Field → Option (List CK)
  | _, [] => some []
  | off, fd :: l => match f fd.type with
    | some ks => bif Nat.beq fd.offset off && Nat.beq (P.cellsOf fd.type) ks.length then (match ckFs P f (off + ks.length) l with | some m => some (ks ++ m) | none => none) else none
    | none => none

def repL {α : Type} : Nat → List α → List α
  | 0, _ => []
  | n + 1, l => repL n l ++ l

def ckOf (P : Program) : Nat → TypeId → Option (List CK)
  | 0, _ => none
  | d + 1, t => match P.underlying t with
    | some (.int k) => some [.int k]
    | some .bool => some [.bool]
    | some (.struct fs) => match ckFs P (ckOf P d) 0 fs.toList with
      | some ks => bif Nat.beq (P.cellsOf t) ks.length then some ks else none
      | none => none
    | some (.array n e) => match ckOf P d e with
      | some ks => bif Nat.beq (P.cellsOf e) ks.length && Nat.beq (P.cellsOf t) (n * ks.length) then some (repL n ks) else none
      | none => none
    | some (.slice e) => match ckOf P d e with
      | some ks => match flatCK ks with
        | some l => bif Nat.beq (P.cellsOf e) l.length && Nat.blt 0 l.length then some [.tab l] else none
        | none => none
      | none => none
    | _ => none

/-! ## Rows -/

/-- The cells of a row: integers and bools, by their places. -/
structure RowV where
  c : Nat → Int
  g : Nat → Bool

def RowV.zero : RowV := ⟨fun _ => 0, fun _ => false⟩

def enV (r : RowV) : List (Option IntKind) → Nat → List Value
  | [], _ => []
  | some k :: ks, j => .int k (r.c j) :: enV r ks (j + 1)
  | none :: ks, j => .bool (r.g j) :: enV r ks (j + 1)

def okV (ks : List (Option IntKind)) (r : RowV) : Prop := ∀ j k, ks[j]? = some (some k) → (Lit.int k (r.c j)).wf = true

theorem enV_length (r : RowV) : ∀ (ks : List (Option IntKind)) (j : Nat), (enV r ks j).length = ks.length
  | [], _ => rfl
  | some k :: ks, j => congrArg Nat.succ (enV_length r ks (j + 1))
  | none :: ks, j => congrArg Nat.succ (enV_length r ks (j + 1))

/-- The cells of an argument: such, and slices of rows. -/
structure RowW where
  c : Nat → Int
  g : Nat → Bool
  s : Nat → Value
  t : Nat → List RowV

def enW (r : RowW) : List CK → Nat → List Value
  | [], _ => []
  | .int k :: ks, j => .int k (r.c j) :: enW r ks (j + 1)
  | .bool :: ks, j => .bool (r.g j) :: enW r ks (j + 1)
  | .tab _ :: ks, j => r.s j :: enW r ks (j + 1)

/-- A slice of such rows. -/
def SlT (ks : List (Option IntKind)) (w : World) (v : Value) (xs : List RowV) : Prop := SlR (fun r => enV r ks 0) ks.length w v xs ∧ ∀ x ∈ xs, okV ks x

def cellW (w : World) : CK → Value → Prop
  | .int k, v => ∃ z, v = .int k z ∧ (Lit.int k z).wf = true
  | .bool, v => ∃ b, v = .bool b
  | .tab ks, v => ∃ xs, SlT ks w v xs

inductive Mt (w : World) : List CK → List Value → Prop
  | nil : Mt w [] []
  | cons {k : CK} {v : Value} {ks : List CK} {vs : List Value} (h : cellW w k v) (t : Mt w ks vs) : Mt w (k :: ks) (v :: vs)

theorem Mt.append {w : World} {a b : List CK} {x y : List Value} (h : Mt w a x) (h' : Mt w b y) : Mt w (a ++ b) (x ++ y) := by
  induction h with
  | nil => exact h'
  | cons h _ ih => exact .cons h ih
theorem Mt.length {w : World} {a : List CK} {x : List Value} (h : Mt w a x) : x.length = a.length := by
  induction h with
  | nil => rfl
  | cons h _ ih => simp [ih]

/-- What the cells' places hold. -/
noncomputable def rowW (w : World) (ks : List CK) (vs : List Value) : RowW :=
  ⟨fun j => match vs[j]? with | some (.int _ z) => z | _ => 0, fun j => match vs[j]? with | some (.bool b) => b | _ => false, fun j => vs.getD j (.bool false),
   fun j => match ks[j]? with | some (.tab l) => @dite _ (∃ xs, SlT l w (vs.getD j (.bool false)) xs) (Classical.propDecidable _) (fun h => Classical.choose h) (fun _ => []) | _ => []⟩

def okW (w : World) (ks : List CK) (r : RowW) : Prop := (∀ j k, ks[j]? = some (.int k) → (Lit.int k (r.c j)).wf = true) ∧ ∀ j l, ks[j]? = some (.tab l) → SlT l w (r.s j) (r.t j)

theorem Mt.get {w : World} {ks : List CK} {vs : List Value} (h : Mt w ks vs) : ∀ {j : Nat} {k : CK}, ks[j]? = some k → ∃ v, vs[j]? = some v ∧ cellW w k v := by
  induction h with
  | nil => intro j k h; simp at h
  | cons h _ ih =>
    intro j k hj
    cases j with
    | zero => simp at hj; subst hj; exact ⟨_, rfl, h⟩
    | succ j => simpa using ih (by simpa using hj)

theorem Mt.row {w : World} {ks : List CK} {vs : List Value} (h : Mt w ks vs) : vs = enW (rowW w ks vs) ks 0 ∧ okW w ks (rowW w ks vs) := by
  have key : ∀ (n : Nat) (pre post : List CK) (a b : List Value), ks = pre ++ post → vs = a ++ b → a.length = pre.length → b.length = post.length → post.length = n → b = enW (rowW w ks vs) post pre.length := by
    intro n
    induction n with
    | zero =>
      intro pre post a b h1 h2 h3 h4 h5
      cases post with
      | nil => cases b with
        | nil => rfl
        | cons x b => simp at h4
      | cons x l => simp at h5
    | succ n ih =>
      intro pre post a b h1 h2 h3 h4 h5
      cases post with
      | nil => simp at h5
      | cons k post =>
        cases b with
        | nil => simp at h4
        | cons v b =>
          have hk : ks[pre.length]? = some k := by rw [h1]; simp
          have hv : vs[pre.length]? = some v := by rw [h2, ← h3]; simp
          obtain ⟨v', hv', hc⟩ := h.get hk
          rw [hv] at hv'
          obtain rfl := Option.some.inj hv'
          have ih' := ih (pre ++ [k]) post (a ++ [v]) b (by simp [h1]) (by simp [h2]) (by simp [h3]) (by simpa using h4) (by simpa using h5)
          rw [List.length_append, List.length_singleton] at ih'
          have hd : vs.getD pre.length (.bool false) = v := by rw [List.getD_eq_getElem?_getD, hv]; rfl
          cases k with
          | int k =>
            obtain ⟨z, rfl, _⟩ := hc
            rw [enW, ← ih']
            congr 1
            simp [rowW, hv]
          | bool =>
            obtain ⟨z, rfl⟩ := hc
            rw [enW, ← ih']
            congr 1
            simp [rowW, hv]
          | tab l =>
            rw [enW, ← ih']
            congr 1
            exact hd.symm
  refine ⟨key ks.length [] ks [] vs rfl rfl rfl h.length rfl, fun j k hk => ?_, fun j l hl => ?_⟩
  · obtain ⟨v, hv, z, rfl, hz⟩ := h.get hk
    simpa [rowW, hv] using hz
  · obtain ⟨v, hv, xs, hx⟩ := h.get hl
    have hd : vs.getD j (.bool false) = v := by rw [List.getD_eq_getElem?_getD, hv]; rfl
    have hex : ∃ xs, SlT l w (vs.getD j (.bool false)) xs := ⟨xs, by rw [hd]; exact hx⟩
    have e : (rowW w ks vs).t j = Classical.choose hex := by
      simp only [rowW, hl]
      rw [dif_pos hex]
    rw [e]
    exact Classical.choose_spec hex

/-- Cells of a row, as a row. -/
theorem Mt.flat {w : World} {cks : List CK} {vs : List Value} (h : Mt w cks vs) : ∀ {ks : List (Option IntKind)}, flatCK cks = some ks → ∃ r : RowV, vs = enV r ks 0 ∧ okV ks r := by
  have key : ∀ {cks : List CK} {vs : List Value}, Mt w cks vs → ∀ {ks : List (Option IntKind)}, flatCK cks = some ks → ∀ (r : RowV) (j : Nat), ∃ r' : RowV, vs = enV r' ks j ∧ (∀ i k, ks[i]? = some (some k) → (Lit.int k (r'.c (j + i))).wf = true) ∧ ∀ i, i < j → r'.c i = r.c i ∧ r'.g i = r.g i := by
    intro cks vs h
    induction h with
    | nil =>
      intro ks hk r j
      simp only [flatCK] at hk
      cases hk
      exact ⟨r, rfl, fun i k h => by simp at h, fun i _ => ⟨rfl, rfl⟩⟩
    | @cons k v cks vs hc _ ih =>
      intro ks hk r j
      cases k with
      | int k =>
        simp only [flatCK] at hk
        split at hk
        · rename_i m hm
          cases hk
          obtain ⟨z, rfl, hz⟩ := hc
          obtain ⟨r', h1, h2, h3⟩ := ih hm ⟨fun i => if i = j then z else r.c i, r.g⟩ (j + 1)
          have hj := h3 j (by omega)
          simp only [if_true] at hj
          refine ⟨r', by rw [enV, hj.1, ← h1], fun i k' hk' => ?_, fun i hi => ?_⟩
          · cases i with
            | zero => simp at hk'; subst hk'; rw [Nat.add_zero, hj.1]; exact hz
            | succ i => have := h2 i k' (by simpa using hk'); rwa [show j + 1 + i = j + (i + 1) by omega] at this
          · have := h3 i (by omega)
            simp only [if_neg (show i ≠ j by omega)] at this
            exact this
        · cases hk
      | bool =>
        simp only [flatCK] at hk
        split at hk
        · rename_i m hm
          cases hk
          obtain ⟨z, rfl⟩ := hc
          obtain ⟨r', h1, h2, h3⟩ := ih hm ⟨r.c, fun i => if i = j then z else r.g i⟩ (j + 1)
          have hj := h3 j (by omega)
          simp only [if_true] at hj
          refine ⟨r', by rw [enV, hj.2, ← h1], fun i k' hk' => ?_, fun i hi => ?_⟩
          · cases i with
            | zero => simp at hk'
            | succ i => have := h2 i k' (by simpa using hk'); rwa [show j + 1 + i = j + (i + 1) by omega] at this
          · have := h3 i (by omega)
            simp only [if_neg (show i ≠ j by omega)] at this
            exact this
        · cases hk
      | tab l => simp [flatCK] at hk
  intro ks hk
  obtain ⟨r', h1, h2, _⟩ := key h hk RowV.zero 0
  exact ⟨r', h1, fun j k hj => by have := h2 j k hj; rwa [Nat.zero_add] at this⟩

section
variable {H : Type} {enc : TypeId × Value → H} {P : Program} {w : World} {base : Nat} {spare : Nat → Bool} {held : Bool}

theorem seg_add {α : Type} (cs : List α) (o a b : Nat) : (cs.drop o).take (a + b) = (cs.drop o).take a ++ (cs.drop (o + a)).take b := by
  rw [List.take_add, List.drop_drop]

theorem ckFs_ok {f : TypeId → Option (List CK)} {cs : List Value} (hf : ∀ t ks, f t = some ks → ∀ n vs y, DataW.trod enc P w base spare held n t vs = some y → Mt w ks vs) :
    ∀ (l : List Field) (off : Nat) (ks : List CK), ckFs P f off l = some ks → (∀ (i : Nat) (fd : Field), l[i]? = some fd → ∃ n y, DataW.trod enc P w base spare held n fd.type ((cs.drop fd.offset).take (P.cellsOf fd.type)) = some y) → Mt w ks ((cs.drop off).take ks.length)
  | [], off, ks, h, _ => by
    simp only [ckFs] at h
    cases h
    simpa using Mt.nil
  | fd :: l, off, ks, h, ht => by
    simp only [ckFs] at h
    split at h
    · rename_i k1 hk1
      cases hc : (Nat.beq fd.offset off && Nat.beq (P.cellsOf fd.type) k1.length) with
      | false => rw [hc, cond_false] at h; cases h
      | true =>
        rw [hc, cond_true] at h
        simp only [Bool.and_eq_true] at hc
        have e1 := Nat.eq_of_beq_eq_true hc.1
        have e2 := Nat.eq_of_beq_eq_true hc.2
        split at h
        · rename_i m hm
          cases h
          obtain ⟨n, y, hy⟩ := ht 0 fd rfl
          rw [e1, e2] at hy
          have h1 := hf _ _ hk1 _ _ _ hy
          have h2 := ckFs_ok hf l (off + k1.length) m hm fun i fd' hi => ht (i + 1) fd' (by simpa using hi)
          rw [List.length_append, seg_add]
          exact h1.append h2
        · cases h
    · cases h

theorem repL_length {α : Type} (l : List α) : ∀ n, (repL n l).length = n * l.length
  | 0 => by simp [repL]
  | n + 1 => by rw [repL, List.length_append, repL_length l n, Nat.succ_mul]

theorem repL_ok {cs : List Value} {ks : List CK} {z : Nat} (hz : ks.length = z) : ∀ (n : Nat), (∀ i, i < n → Mt w ks ((cs.drop (i * z)).take z)) → Mt w (repL n ks) (cs.take (n * z))
  | 0, _ => by simpa [repL] using Mt.nil
  | n + 1, h => by
    have ih := repL_ok hz n fun i hi => h i (by omega)
    rw [repL, Nat.succ_mul, List.take_add]
    exact ih.append (h n (by omega))

theorem ckOf_ok : ∀ (d : Nat) (t : TypeId) (ks : List CK), ckOf P d t = some ks → ∀ n cs y, DataW.trod enc P w base spare held n t cs = some y → Mt w ks cs
  | 0, _, _, h => by simp [ckOf] at h
  | d + 1, t, ks, h => by
    intro n cs y hy
    unfold ckOf at h
    split at h
    · rename_i k hk
      cases h
      obtain ⟨z, rfl, _, hw⟩ := DataW.trod_int hk hy
      exact .cons ⟨z, rfl, hw⟩ .nil
    · rename_i hk
      cases h
      obtain ⟨b, rfl, _⟩ := DataW.trod_bool hk hy
      exact .cons ⟨b, rfl⟩ .nil
    · rename_i fs hk
      split at h
      · rename_i l hl
        cases hc : Nat.beq (P.cellsOf t) l.length with
        | false => rw [hc, cond_false] at h; cases h
        | true =>
          rw [hc, cond_true] at h
          cases h
          have hlen := Nat.eq_of_beq_eq_true hc
          obtain ⟨xs, m, _, _, hcl, hxl, hg⟩ := DataW.trod_struct hk hy
          have := ckFs_ok (ckOf_ok d) fs.toList 0 _ hl (cs := cs) fun i fd hi => by
            have hi' : fs[i]? = some fd := by simpa using hi
            have hlt : i < xs.length := by rw [hxl]; exact (Array.getElem?_eq_some_iff.1 hi').1
            exact ⟨m, xs[i], by rw [hg i fd hi']; exact List.getElem?_eq_getElem hlt⟩
          rwa [List.drop_zero, List.take_of_length_le (by omega)] at this
      · cases h
    · rename_i m e hk
      split at h
      · rename_i l hl
        cases hc : (Nat.beq (P.cellsOf e) l.length && Nat.beq (P.cellsOf t) (m * l.length)) with
        | false => rw [hc, cond_false] at h; cases h
        | true =>
          rw [hc, cond_true] at h
          cases h
          simp only [Bool.and_eq_true] at hc
          have e1 := Nat.eq_of_beq_eq_true hc.1
          have e2 := Nat.eq_of_beq_eq_true hc.2
          obtain ⟨xs, q, _, _, hcl, hxl, hg⟩ := DataW.trod_array hk hy
          have := repL_ok (w := w) (cs := cs) (ks := l) rfl m fun i hi => by
            have h1 := hg i hi
            rw [e1, List.getElem?_eq_getElem (by omega)] at h1
            exact ckOf_ok d _ _ hl _ _ _ h1
          rwa [List.take_of_length_le (by omega)] at this
      · cases h
    · rename_i e hk
      split at h
      · rename_i ck hck
        split at h
        · rename_i l hl
          cases hc : (Nat.beq (P.cellsOf e) l.length && Nat.blt 0 l.length) with
          | false => rw [hc, cond_false] at h; cases h
          | true =>
            rw [hc, cond_true] at h
            cases h
            simp only [Bool.and_eq_true] at hc
            obtain ⟨v, xs, rfl, h1, h2⟩ := sl_open (en := fun r => enV r l 0) (ok := okV l) (z := l.length) (Nat.lt_of_succ_le (Nat.le_of_ble_eq_true hc.2)) (fun x => enV_length _ _ _) hk (Nat.eq_of_beq_eq_true hc.1)
              (fun n cs y _ hy => (ckOf_ok d _ _ hck _ _ _ hy).flat hl) hy
            exact .cons ⟨xs, h1, h2⟩ .nil
        · cases h
      · cases h
    · cases h

/-- An argument, opened. -/
theorem open_agg {t : TypeId} {r : Reach} {b0 : Nat} {v : Value} {d : DataW H} {p : List MemPlace} {dp : Nat} {ks : List CK} (hk : ckOf P dp t = some ks) (hs : (∃ fs, P.underlying t = some (.struct fs)) ∨ ∃ n e, P.underlying t = some (.array n e))
    (hval : Value.okWide P w r b0 t v) (h : DataW.Trod enc P w base spare held t v d p) : ∃ x : RowW, v = .agg (enW x ks 0).toArray ∧ okW w ks x := by
  obtain ⟨cs, rfl⟩ : ∃ cs, v = .agg cs := by
    rcases hs with ⟨fs, hs⟩ | ⟨n, e, hs⟩
    · obtain ⟨cs, h1, _⟩ := okWide_struct hs hval; exact ⟨cs, h1⟩
    · obtain ⟨cs, h1, _⟩ := okWide_arr hs hval; exact ⟨cs, h1⟩
  obtain ⟨fuel, hf⟩ := h
  have hm := ckOf_ok dp t ks hk _ _ _ hf
  obtain ⟨h1, h2⟩ := hm.row
  refine ⟨_, ?_, h2⟩
  rw [← h1]
  simp [Value.cells]
theorem open_slT {t : TypeId} {r : Reach} {b0 : Nat} {v : Value} {d : DataW H} {p : List MemPlace} {dp : Nat} {l : List (Option IntKind)} {e : TypeId} (hk : ckOf P dp t = some [.tab l]) (hs : P.underlying t = some (.slice e))
    (hval : Value.okWide P w r b0 t v) (h : DataW.Trod enc P w base spare held t v d p) : ∃ xs, SlT l w v xs := by
  obtain ⟨a, len, cap, rfl⟩ := okWide_slice hs hval
  obtain ⟨fuel, hf⟩ := h
  have hm := ckOf_ok dp t _ hk _ _ _ hf
  have e : (Value.slice a len cap).cells.toList = [Value.slice a len cap] := rfl
  rw [e] at hm
  cases hm with
  | cons h _ => exact h
end

/-! ## Slices as tables -/

def tabV (xs : List RowV) : Tab := ⟨xs.length, fun j i => (xs.getD i RowV.zero).c j, fun j i => (xs.getD i RowV.zero).g j⟩

theorem rowCs_sl {c c' : Nat → Nat → Int} {g g' : Nat → Nat → Bool} {i i' : Nat} (hc : ∀ j, c j i = c' j i') (hg : ∀ j, g j i = g' j i') : ∀ (ks : List (Option IntKind)) (j : Nat), rowCs c g i ks j = rowCs c' g' i' ks j
  | [], _ => rfl
  | some k :: ks, j => by rw [rowCs, rowCs, hc j, rowCs_sl hc hg ks]
  | none :: ks, j => by rw [rowCs, rowCs, hg j, rowCs_sl hc hg ks]

theorem enV_rel {ρ : Env} {σ : Mp} (r : RowV) : ∀ (ks : List (Option IntKind)) (j : Nat), VRl ρ σ (rowCs (fun j _ => r.c j) (fun j _ => r.g j) 0 ks j) (enV r ks j)
  | [], _ => .nil
  | some k :: ks, j => .cons (.int k (.x (r.c j))) (enV_rel r ks (j + 1))
  | none :: ks, j => .cons (.bool (.x (r.g j))) (enV_rel r ks (j + 1))

theorem ArgAt.rows_eq {ρ : Env} {w : World} {n z : Nat} {f g : Nat → List CV} {hf : ∀ j, (f j).length = z ∧ (f j).all CV.flat = true} {hg : ∀ j, (g j).length = z ∧ (g j).all CV.flat = true} {lo : Option Loc} (e : f = g) (h : ArgAt ρ w ⟨.arg n z f hf, z, true, none⟩ lo) : ArgAt ρ w ⟨.arg n z g hg, z, true, none⟩ lo := by
  subst e; exact h

structure SlV where
  v : Value
  ks : List (Option IntKind)
  xs : List RowV

noncomputable def sigV (w : World) (S : List SlV) : Mp := fun b => match S[b]? with | some s => locOf w s.v s.ks.length | none => none
def heapV : Nat → List SlV → List (Nat × Blk)
  | _, [] => []
  | i, s :: l => (i, tabB s.ks (tabV s.xs)) :: heapV (i + 1) l

theorem sigV_none {w : World} {S : List SlV} {b : Nat} (h : S.length ≤ b) : sigV w S b = none := by
  unfold sigV; rw [List.getElem?_eq_none h]

theorem SlT.both {ρ : Env} {w : World} {S : List SlV} {b : Nat} {s : SlV} (hb : S[b]? = some s) (h : SlT s.ks w s.v s.xs) : VR ρ (sigV w S) (.sla b s.ks.length 0 s.xs.length) s.v ∧ ArgAt ρ w (tabB s.ks (tabV s.xs)) (sigV w S b) := by
  obtain ⟨h1, h2⟩ := SlR.rel (ρ := ρ) (σ := sigV w S) (b := b) (ec := fun r => rowCs (fun j _ => r.c j) (fun j _ => r.g j) 0 s.ks 0) (d := RowV.zero) h.1 (fun x => enV_length _ _ _) (fun σ x => enV_rel x s.ks 0) (fun j => rowCs_ok _ _ _ _ _) (by unfold sigV; rw [hb])
  have e : (fun j => rowCs (fun j' _ => (s.xs.getD j RowV.zero).c j') (fun j' _ => (s.xs.getD j RowV.zero).g j') 0 s.ks 0) = fun i => rowCs (tabV s.xs).c (tabV s.xs).g i s.ks 0 := funext fun i => rowCs_sl (c := fun j' _ => (s.xs.getD i RowV.zero).c j') (g := fun j' _ => (s.xs.getD i RowV.zero).g j') (fun _ => rfl) (fun _ => rfl) _ _
  have h3 := ArgAt.rows_eq (hg := fun i => rowCs_ok (tabV s.xs).c (tabV s.xs).g i s.ks 0) e h2
  exact ⟨h1, h3⟩

theorem SlT.rel {ρ : Env} {w : World} {S : List SlV} (b : Nat) {s : SlV} (hb : S[b]? = some s) (h : SlT s.ks w s.v s.xs) : VR ρ (sigV w S) (.sla b s.ks.length 0 s.xs.length) s.v := (h.both hb).1

theorem SlT.len {ks : List (Option IntKind)} {w : World} {v : Value} {xs : List RowV} (h : SlT ks w v xs) : xs.length ≤ 9223372036854775807 := by
  obtain ⟨⟨a, cap, _, _, hl, _⟩, _⟩ := h
  exact hl
theorem SlT.wf {ks : List (Option IntKind)} {w : World} {v : Value} {xs : List RowV} (h : SlT ks w v xs) (j : Nat) (k : IntKind) (hk : ks[j]? = some (some k)) (h0 : (Lit.int k 0).wf = true) (i : Nat) : (Lit.int k ((tabV xs).c j i)).wf = true := by
  show (Lit.int k ((xs.getD i RowV.zero).c j)).wf = true
  by_cases hi : i < xs.length
  · rw [List.getD_eq_getElem?_getD, List.getElem?_eq_getElem hi]
    exact h.2 _ (List.getElem_mem hi) j k hk
  · rw [List.getD_eq_getElem?_getD, List.getElem?_eq_none (by omega)]
    exact h0

theorem heapV_get {ρ : Env} {w : World} : ∀ (l : List SlV) (i : Nat) (S : List SlV), (∀ j s, l[j]? = some s → S[i + j]? = some s) → (∀ s ∈ l, SlT s.ks w s.v s.xs) → ∀ b k, (mkH (heapV i l)).get b = some k → ArgAt ρ w k (sigV w S b)
  | [], i, S, _, _, b, k, h => by
    simp only [heapV, mkH] at h
    cases h
  | s :: l, i, S, hS, hT, b, k, h => by
    have h : ((mkH (heapV (i + 1) l)).set i (tabB s.ks (tabV s.xs))).get b = some k := h
    rw [Tr.get_set] at h
    split at h
    · rename_i hb
      cases h
      have := hS 0 s rfl
      rw [Nat.add_zero] at this
      rw [hb]
      exact ((hT s (by simp)).both this).2
    · exact heapV_get l (i + 1) S (fun j s' hj => by rw [show i + 1 + j = i + (j + 1) by omega]; exact hS (j + 1) s' (by simpa using hj)) (fun s' hs => hT s' (by simp [hs])) b k h

theorem argsV {ρ : Env} {w : World} (S : List SlV) (base : Nat) (hS : ∀ s ∈ S, SlT s.ks w s.v s.xs) (hL : Laid w) : HR ρ (sigV w S) (curOf (mkH (heapV 0 S)) base) w :=
  HR.ofArgs hL fun i k _ hk => heapV_get S 0 S (fun j s h => by rw [Nat.zero_add]; exact h) hS i k hk

end Go.Proofs.Ytlmoamafkjplbaa.Cx

/- DieLearned holds, for all inputs: by its automaton. Made by tools/cxlaws.py. -/
namespace Go.Proofs.Ytlmoamafkjplbaa
set_option linter.unusedVariables false
set_option linter.unusedSimpArgs false
open Go.ChangeShapes Go.WideShapes Go.ChangeAt Go.RowKit
open Cx (Env IE BE DT KnownB)

set_option maxRecDepth 100000 in
theorem dlearned_open0 {H : Type} {enc : TypeId × Value → H} {w : World} {base : Nat} {spare : Nat → Bool} {held : Bool} {r : Reach} {b0 : Nat} {vv : Value} {d : DataW H} {p : List MemPlace} (hval : Value.okWide Try.prog w r b0 79 vv) (h : DataW.Trod enc Try.prog w base spare held 79 vv d p) :
    ∃ y0 : Cx.RowW, vv = .agg #[.bool (y0.g 0), .int .u8 (y0.c 1), .int .u8 (y0.c 2), y0.s 3, y0.s 4, y0.s 5] ∧ Cx.okW w [.bool, .int .u8, .int .u8, .tab [some .u8, some .u8], .tab [some .u8, some .u8, some .u8, some .u8], .tab [some .u8]] y0 :=
  Cx.open_agg (ks := [.bool, .int .u8, .int .u8, .tab [some .u8, some .u8], .tab [some .u8, some .u8, some .u8, some .u8], .tab [some .u8]]) (dp := 12) (by kernel_rfl) (.inl ⟨_, Try.underlying79⟩) hval h

set_option maxRecDepth 100000 in
theorem dlearned_open1 {H : Type} {enc : TypeId × Value → H} {w : World} {base : Nat} {spare : Nat → Bool} {held : Bool} {r : Reach} {b0 : Nat} {vv : Value} {d : DataW H} {p : List MemPlace} (hval : Value.okWide Try.prog w r b0 90 vv) (h : DataW.Trod enc Try.prog w base spare held 90 vv d p) :
    ∃ y1 : Cx.RowW, vv = .agg #[.int .u8 (y1.c 0), .int .u8 (y1.c 1), .int .u8 (y1.c 2), .int .u8 (y1.c 3), .int .u8 (y1.c 4)] ∧ Cx.okW w [.int .u8, .int .u8, .int .u8, .int .u8, .int .u8] y1 :=
  Cx.open_agg (ks := [.int .u8, .int .u8, .int .u8, .int .u8, .int .u8]) (dp := 12) (by kernel_rfl) (.inr ⟨_, _, Try.underlying90⟩) hval h

set_option maxRecDepth 100000 in
theorem dlearned_open2 {H : Type} {enc : TypeId × Value → H} {w : World} {base : Nat} {spare : Nat → Bool} {held : Bool} {r : Reach} {b0 : Nat} {vv : Value} {d : DataW H} {p : List MemPlace} (hval : Value.okWide Try.prog w r b0 74 vv) (h : DataW.Trod enc Try.prog w base spare held 74 vv d p) :
    ∃ y2 : Cx.RowW, vv = .agg #[.int .u8 (y2.c 0), .int .u8 (y2.c 1)] ∧ Cx.okW w [.int .u8, .int .u8] y2 :=
  Cx.open_agg (ks := [.int .u8, .int .u8]) (dp := 12) (by kernel_rfl) (.inr ⟨_, _, Try.underlying74⟩) hval h

theorem dlearned_walk (y0 : Cx.RowW) (y1 : Cx.RowW) (y2 : Cx.RowW) (w : World) (g0 : Cx.okW w [.bool, .int .u8, .int .u8, .tab [some .u8, some .u8], .tab [some .u8, some .u8, some .u8, some .u8], .tab [some .u8]] y0) (g1 : Cx.okW w [.int .u8, .int .u8, .int .u8, .int .u8, .int .u8] y1) (g2 : Cx.okW w [.int .u8, .int .u8] y2) :
    Calls Try.prog 11 #[.agg #[.bool (y0.g 0), .int .u8 (y0.c 1), .int .u8 (y0.c 2), y0.s 3, y0.s 4, y0.s 5], .agg #[.int .u8 (y1.c 0), .int .u8 (y1.c 1), .int .u8 (y1.c 2), .int .u8 (y1.c 3), .int .u8 (y1.c 4)], .agg #[.int .u8 (y2.c 0), .int .u8 (y2.c 1)]] w fun e w' => e = .returned (.bool true) ∧ Below w.heap.size w w' := by
  have hLw : Cx.Laid w := fun _ h => by cases h
  obtain ⟨n, v, hv, hp⟩ := Cx.dlr_run (y0.g 0) (y0.c 1) (y0.c 2) (Cx.tabV (y0.t 3)).n ((Cx.tabV (y0.t 3)).c 0) ((Cx.tabV (y0.t 3)).c 1) (Cx.tabV (y0.t 4)).n ((Cx.tabV (y0.t 4)).c 0) ((Cx.tabV (y0.t 4)).c 1) ((Cx.tabV (y0.t 4)).c 2) ((Cx.tabV (y0.t 4)).c 3) (Cx.tabV (y0.t 5)).n ((Cx.tabV (y0.t 5)).c 0) (y1.c 0) (y1.c 1) (y1.c 2) (y1.c 3) (y1.c 4) (y2.c 0) (y2.c 1) (rng_u8 (g0.1 1 .u8 rfl)) (rng_u8 (g0.1 2 .u8 rfl)) (Cx.SlT.len (g0.2 3 _ rfl)) (fun i => rng_u8 (Cx.SlT.wf (g0.2 3 _ rfl) 0 .u8 rfl rfl i)) (fun i => rng_u8 (Cx.SlT.wf (g0.2 3 _ rfl) 1 .u8 rfl rfl i)) (Cx.SlT.len (g0.2 4 _ rfl)) (fun i => rng_u8 (Cx.SlT.wf (g0.2 4 _ rfl) 0 .u8 rfl rfl i)) (fun i => rng_u8 (Cx.SlT.wf (g0.2 4 _ rfl) 1 .u8 rfl rfl i)) (fun i => rng_u8 (Cx.SlT.wf (g0.2 4 _ rfl) 2 .u8 rfl rfl i)) (fun i => rng_u8 (Cx.SlT.wf (g0.2 4 _ rfl) 3 .u8 rfl rfl i)) (Cx.SlT.len (g0.2 5 _ rfl)) (fun i => rng_u8 (Cx.SlT.wf (g0.2 5 _ rfl) 0 .u8 rfl rfl i)) (rng_u8 (g1.1 0 .u8 rfl)) (rng_u8 (g1.1 1 .u8 rfl)) (rng_u8 (g1.1 2 .u8 rfl)) (rng_u8 (g1.1 3 .u8 rfl)) (rng_u8 (g1.1 4 .u8 rfl)) (rng_u8 (g2.1 0 .u8 rfl)) (rng_u8 (g2.1 1 .u8 rfl))
  have hS : ∀ s ∈ ([⟨(y0.s 3), [some .u8, some .u8], (y0.t 3)⟩, ⟨(y0.s 4), [some .u8, some .u8, some .u8, some .u8], (y0.t 4)⟩, ⟨(y0.s 5), [some .u8], (y0.t 5)⟩] : List Cx.SlV), Cx.SlT s.ks w s.v s.xs := fun s hs => by
    simp only [List.mem_cons, List.not_mem_nil, or_false] at hs
    rcases hs with rfl | rfl | rfl
    · exact (g0.2 3 _ rfl)
    · exact (g0.2 4 _ rfl)
    · exact (g0.2 5 _ rfl)
  exact Cx.Ctr.law (ρ := ⟨fun _ => 0, fun _ => false⟩) (σ := Cx.sigV w ([⟨(y0.s 3), [some .u8, some .u8], (y0.t 3)⟩, ⟨(y0.s 4), [some .u8, some .u8, some .u8, some .u8], (y0.t 4)⟩, ⟨(y0.s 5), [some .u8], (y0.t 5)⟩] : List Cx.SlV)) (e := .x v) (Cx.dlrctr (y0.g 0) (y0.c 1) (y0.c 2) (Cx.tabV (y0.t 3)).n ((Cx.tabV (y0.t 3)).c 0) ((Cx.tabV (y0.t 3)).c 1) (Cx.tabV (y0.t 4)).n ((Cx.tabV (y0.t 4)).c 0) ((Cx.tabV (y0.t 4)).c 1) ((Cx.tabV (y0.t 4)).c 2) ((Cx.tabV (y0.t 4)).c 3) (Cx.tabV (y0.t 5)).n ((Cx.tabV (y0.t 5)).c 0) (y1.c 0) (y1.c 1) (y1.c 2) (y1.c 3) (y1.c 4) (y2.c 0) (y2.c 1) Cx.dlrmem hv) hp (.cons (.agg (.cons (.bool (.x (y0.g 0))) (.cons (.int .u8 (.x (y0.c 1))) (.cons (.int .u8 (.x (y0.c 2))) (.cons (Cx.SlT.rel (S := ([⟨(y0.s 3), [some .u8, some .u8], (y0.t 3)⟩, ⟨(y0.s 4), [some .u8, some .u8, some .u8, some .u8], (y0.t 4)⟩, ⟨(y0.s 5), [some .u8], (y0.t 5)⟩] : List Cx.SlV)) 0 rfl (g0.2 3 _ rfl)) (.cons (Cx.SlT.rel (S := ([⟨(y0.s 3), [some .u8, some .u8], (y0.t 3)⟩, ⟨(y0.s 4), [some .u8, some .u8, some .u8, some .u8], (y0.t 4)⟩, ⟨(y0.s 5), [some .u8], (y0.t 5)⟩] : List Cx.SlV)) 1 rfl (g0.2 4 _ rfl)) (.cons (Cx.SlT.rel (S := ([⟨(y0.s 3), [some .u8, some .u8], (y0.t 3)⟩, ⟨(y0.s 4), [some .u8, some .u8, some .u8, some .u8], (y0.t 4)⟩, ⟨(y0.s 5), [some .u8], (y0.t 5)⟩] : List Cx.SlV)) 2 rfl (g0.2 5 _ rfl)) .nil))))))) (.cons (.agg (.cons (.int .u8 (.x (y1.c 0))) (.cons (.int .u8 (.x (y1.c 1))) (.cons (.int .u8 (.x (y1.c 2))) (.cons (.int .u8 (.x (y1.c 3))) (.cons (.int .u8 (.x (y1.c 4))) .nil)))))) (.cons (.agg (.cons (.int .u8 (.x (y2.c 0))) (.cons (.int .u8 (.x (y2.c 1))) .nil))) .nil))) (Cx.argsV ([⟨(y0.s 3), [some .u8, some .u8], (y0.t 3)⟩, ⟨(y0.s 4), [some .u8, some .u8, some .u8, some .u8], (y0.t 4)⟩, ⟨(y0.s 5), [some .u8], (y0.t 5)⟩] : List Cx.SlV) _ hS hLw) (fun b hb => Cx.sigV_none hb)

theorem dlearned_own : ownKnob Try.prog.godebug = none := by kernel_rfl
theorem dlearned_laidOut : laidOutB Try.prog = true := by kernel_rfl

set_option maxRecDepth 100000 in
theorem dlearned_lifted (os : Os) (started : os.Started) (H : Type) (enc : TypeId × Value → H) :
    ReturnsInHanded {} Try.checked os 11 .any (Rows.dieLearnedSpec.pre6 enc Try.prog Try.f11 Rows.dieLearnedRow.domain false) (Rows.dieLearnedSpec.post enc Try.prog Try.f11 false true false false) := by
  refine returnsInHanded_of_change (C := Try.checked) dlearned_own started (by kernel_rfl) Try.func11
    (ChangeSpec.witness6 (enc := enc) (C := Try.checked) false ⟨#[], #[.agg #[.bool false, .int .u8 0, .int .u8 0, .slice none 0 0, .slice none 0 0, .slice none 0 0], .agg #[.int .u8 0, .int .u8 0, .int .u8 0, .int .u8 0, .int .u8 0], .agg #[.int .u8 0, .int .u8 0]], []⟩ 8 (by kernel_rfl) (by kernel_rfl) (by kernel_rfl) (by kernel_rfl)) ?_
  intro W base args ds gs before hval0 hW hcnd _
  have hval : ∀ (j : Nat) t v, Try.f11.params[j]? = some t → args[j]? = some v → Value.okWide Try.prog W .any base t v := hval0
  have hW' := hW
  obtain ⟨p, q, hA0, hV, rfl, hfz, hnd⟩ := hW
  have hA : DataW.TrodAll enc Try.prog W 0 (fun _ => true) true Try.f11.params.toList args.toList ds p := hA0
  rw [Try.params11] at hA hval
  obtain ⟨v0, vs0, d0, ds0, p0, q0, hargs, rfl, rfl, h0, r0⟩ := trodAll_cons hA
  obtain ⟨v1, vs1, d1, ds1, p1, q1, rfl, rfl, rfl, h1, r1⟩ := trodAll_cons r0
  obtain ⟨v2, vs2, d2, ds2, p2, q2, rfl, rfl, rfl, h2, r2⟩ := trodAll_cons r1
  obtain ⟨rfl, rfl, rfl⟩ := trodAll_nil r2
  obtain rfl : args = #[v0, v1, v2] := by cases args; simp_all
  obtain ⟨rfl, rfl⟩ := trodVars_none hV
  have k0 := h0
  have lt0 : ∀ x ∈ p0, x.block < W.heap.size := by obtain ⟨m, hm⟩ := k0; exact DataW.trod_lt m _ _ _ hm
  have k1 := h1
  have lt1 : ∀ x ∈ p1, x.block < W.heap.size := by obtain ⟨m, hm⟩ := k1; exact DataW.trod_lt m _ _ _ hm
  have k2 := h2
  have lt2 : ∀ x ∈ p2, x.block < W.heap.size := by obtain ⟨m, hm⟩ := k2; exact DataW.trod_lt m _ _ _ hm
  obtain ⟨y0, rfl, g0⟩ := dlearned_open0 (hval 0 79 v0 rfl rfl) h0
  obtain ⟨y1, rfl, g1⟩ := dlearned_open1 (hval 1 90 v1 rfl rfl) h1
  obtain ⟨y2, rfl, g2⟩ := dlearned_open2 (hval 2 74 v2 rfl rfl) h2
  clear hA0 hval0
  refine (dlearned_walk y0 y1 y2 W g0 g1 g2).mono fun e W' ⟨he, bel⟩ => ?_
  subst he
  exact ⟨_, rfl, _, _, _, [], _, [], hW', trodAll_mk1 (shut_bool Try.underlying4 _), (trodAll_cons_mk (Below.trod dlearned_laidOut (by kernel_rfl) (of_decide_eq_true (by kernel_rfl)) k0 bel lt0) (trodAll_cons_mk (Below.trod dlearned_laidOut (by kernel_rfl) (of_decide_eq_true (by kernel_rfl)) k1 bel lt1) (trodAll_cons_mk (Below.trod dlearned_laidOut (by kernel_rfl) (of_decide_eq_true (by kernel_rfl)) k2 bel lt2) trodAll_mk0))), rfl, bel.frame _, fun h => by cases h⟩

theorem dlearned_over : Rows.dieLearnedRow.holds Try.pinned (OpenSpec.ofChange Rows.dieLearnedSpec) :=
  OpenClaim.holds_of_wide 11 Try.f11 rfl rfl rfl rfl rfl rfl rfl ⟨rfl, rfl, rfl, rfl, rfl⟩ rfl rfl rfl rfl rfl (by kernel_rfl) Try.func11 (by kernel_rfl)
    (of_decide_eq_true (by kernel_rfl)) (by unfold Func.isWrapper; rw [if_neg (of_decide_eq_false (by kernel_rfl))]; exact ⟨rfl, rfl⟩)
    (fun os started H enc _ => dlearned_lifted os started H enc)

theorem dlearned_proved : Rows.DieLearnedSaid := dlearned_over
#print axioms dlearned_proved

end Go.Proofs.Ytlmoamafkjplbaa
