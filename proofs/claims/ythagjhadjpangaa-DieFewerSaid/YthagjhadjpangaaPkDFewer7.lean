/- acme/die.Proves as an automaton. Made by tools/cxauto.py. -/
import Derived.Test.YthagjhadjpangaaPkDFewer6

namespace Go.Proofs.Ythagjhadjpangaa.Cx
set_option linter.unusedVariables false
set_option linter.unusedSimpArgs false
set_option maxRecDepth 100000
open Go Go.Proofs Go.RowKit
noncomputable abbrev dprCode : Code := funcCode Try.f35
inductive dprN where
  | n0 (p0 : Int) (p1 : Bool) (p2 p3 p4 p5 : Int) (p6 p7 : Nat) (p8 : Int)
abbrev dprR := Int × Int
noncomputable def dprD0 (a0 : Bool) (a1 a2 a3 a4 : Int) (a5 : Nat) (a6 a7 : Nat → Int) (a8 : Nat) (a9 a10 a11 a12 : Nat → Int) (a13 : Nat) (a14 : Nat → Int) : DD (Lf dprN dprR) :=
 let z0 := fun i => [CV.int IntKind.i64 (IE.x (a6 (0 + i))), CV.int IntKind.i64 (IE.x (a7 (0 + i)))]
 let z1 := fun i => [CV.int IntKind.i64 (IE.x (a9 (0 + i))), CV.int IntKind.i64 (IE.x (a10 (0 + i))), CV.int IntKind.i64 (IE.x (a11 (0 + i))), CV.int IntKind.i64 (IE.x (a12 (0 + i)))]
 let z2 := fun i => a6 (0 + i)
 let z3 := fun i => a7 (0 + i)
 let z4 := fun i => a9 (0 + i)
 let z5 := fun i => a10 (0 + i)
 let z6 := fun i => a11 (0 + i)
 let z7 := fun i => a12 (0 + i)
 let z8 := dshA a0 a1 a2 a3 a4 a5 z2 z3 a8 z4 z5 z6 z7
 let z9 := AF.val z8
 let z10 := dshw5 z9
 let z11 := dshw6 z9
 let z12 := fun i => [CV.int IntKind.i64 (IE.x (a14 (0 + i)))]
 let z13 := dshw0 z9
 let z14 := dshw1 z9
 let z15 := dshw2 z9
 let z16 := dshw3 z9
 let z17 := dshw4 z9
 let z18 := dshw7 z9
 let z19 := dioA z13 z14 z15 z16 z17 z10 z2 z3 z11 z4 z5 z6 z7 z18 a13 (fun i => a14 (0 + i))
 .must (decide (0 + a5 ≤ a5))
   (.must (ShapeOk [some IntKind.i64, some IntKind.i64] (tabOf a5 z0) z0)
   (.must (decide (0 + a8 ≤ a8))
   (.must (ShapeOk [some IntKind.i64, some IntKind.i64, some IntKind.i64, some IntKind.i64] (tabOf a8 z1) z1)
   (.must (AF.fin z8)
   (.ask (Cm.run .neq (dshw8 z9) 0)
   (.leaf (.done (0, dshw8 z9) []))
   (.ask (Cm.run .gtr ((↑a13 : Int)) 1000)
   (.leaf (.done (0, 5) []))
   (.must (decide (0 + dshw5 z9 ≤ a5))
   (.must (ShapeOk [some IntKind.i64, some IntKind.i64] (tabOf z10 z0) z0)
   (.must (decide (0 + dshw6 z9 ≤ a8))
   (.must (ShapeOk [some IntKind.i64, some IntKind.i64, some IntKind.i64, some IntKind.i64] (tabOf z11 z1) z1)
   (.must (decide (0 + a13 ≤ a13))
   (.must (ShapeOk [some IntKind.i64] (tabOf a13 z12) z12)
   (.must (AF.fin z19)
   (.ask (!AF.val z19)
   (.leaf (.done (0, 2) []))
   (.leaf (.next (.n0 0 z13 z14 z15 z16 z17 z10 z11 z18) [4]))))))))))))))))

noncomputable def dprD (a0 : Bool) (a1 a2 a3 a4 : Int) (a5 : Nat) (a6 a7 : Nat → Int) (a8 : Nat) (a9 a10 a11 a12 : Nat → Int) (a13 : Nat) (a14 : Nat → Int) : dprN → DD (Lf dprN dprR)
 | .n0 p0 p1 p2 p3 p4 p5 p6 p7 p8 =>
 let z0 := Ar.run .add .i64 p0 1
 let z1 := fun i => [CV.int IntKind.i64 (IE.x (a6 (0 + i))), CV.int IntKind.i64 (IE.x (a7 (0 + i)))]
 let z2 := fun i => [CV.int IntKind.i64 (IE.x (a9 (0 + i))), CV.int IntKind.i64 (IE.x (a10 (0 + i))), CV.int IntKind.i64 (IE.x (a11 (0 + i))), CV.int IntKind.i64 (IE.x (a12 (0 + i)))]
 let z3 := Ar.run .add .i64 (a14 (0 + Int.toNat z0)) 1
 let z4 := drcA p1 p2 p3 p4 p5 p6 (fun i => a6 (0 + i)) (fun i => a7 (0 + i)) p7 (fun i => a9 (0 + i)) (fun i => a10 (0 + i)) (fun i => a11 (0 + i)) (fun i => a12 (0 + i)) p8 (-10000000000) 20000000000 (a14 (0 + Int.toNat p0)) z3
 .ask (Cm.run .lss p0 (Ar.run .sub .i64 ((↑a13 : Int)) 1))
   (.must (decide (0 ≤ Ar.run .add .i64 p0 1))
   (.must (decide (Ar.run .add .i64 p0 1 < (↑a13 : Int)))
   (.must (decide (0 + Int.toNat z0 < a13))
   (.must (decide (0 ≤ p0))
   (.must (decide (p0 < (↑a13 : Int)))
   (.must (decide (0 + Int.toNat p0 < a13))
   (.must (decide (0 + p6 ≤ a5))
   (.must (ShapeOk [some IntKind.i64, some IntKind.i64] (tabOf p6 z1) z1)
   (.must (decide (0 + p7 ≤ a8))
   (.must (ShapeOk [some IntKind.i64, some IntKind.i64, some IntKind.i64, some IntKind.i64] (tabOf p7 z2) z2)
   (.must (AF.fin z4)
   (.ask (Cm.run .eql (Prod.snd (Prod.snd (AF.val z4))) z3)
   (.leaf (.done (p0, 0) []))
   (.leaf (.next (.n0 z0 p1 p2 p3 p4 p5 p6 p7 p8) [3]))))))))))))))
   (.leaf (.done (-1, 0) []))

noncomputable def dprA (a0 : Bool) (a1 a2 a3 a4 : Int) (a5 : Nat) (a6 a7 : Nat → Int) (a8 : Nat) (a9 a10 a11 a12 : Nat → Int) (a13 : Nat) (a14 : Nat → Int) : AF dprN dprR where
  code := dprCode
  base := 3
  nt := 58
  m := 400
  un := []
  W := []
  h0 := [(0, ⟨.arg a5 2 (fun i => [.int .i64 (.x (a6 i)), .int .i64 (.x (a7 i))]) (fun _ => ⟨rfl, rfl⟩), 2, true, none⟩), (1, ⟨.arg a8 4 (fun i => [.int .i64 (.x (a9 i)), .int .i64 (.x (a10 i)), .int .i64 (.x (a11 i)), .int .i64 (.x (a12 i))]) (fun _ => ⟨rfl, rfl⟩), 4, true, none⟩), (2, ⟨.arg a13 1 (fun i => [.int .i64 (.x (a14 i))]) (fun _ => ⟨rfl, rfl⟩), 1, true, none⟩)]
  args := [.agg [.bool (.x a0), .int .i64 (.x a1), .int .i64 (.x a2), .int .i64 (.x a3), .int .i64 (.x a4), .sla 0 2 0 a5], .sla 1 4 0 a8, .sla 2 1 0 a13]
  res := (Try.f35).results.toList
  path := fun a => match a with
   | .n0 p0 p1 p2 p3 p4 p5 p6 p7 p8 => [1, 1, 1, 1, 1, 0, 1, 0]
  pd := fun a => match a with
   | .n0 p0 p1 p2 p3 p4 p5 p6 p7 p8 => ⟨[(2, .sla 2 1 0 a13), (8, .ptr (some (3, 0))), (32, .int .i64 (.x (Ar.run .sub .i64 (↑a13) 1))), (33, .int .i64 (.x p0))], [(3, ⟨.lit [.bool (.x p1), .int .i64 (.x p2), .int .i64 (.x p3), .int .i64 (.x p4), .int .i64 (.x p5), .sla 0 2 0 p6, .sla 1 4 0 p7, .int .i64 (.x p8)], 0, true, none⟩)], 4, []⟩
  D0 := dprD0 a0 a1 a2 a3 a4 a5 a6 a7 a8 a9 a10 a11 a12 a13 a14
  D := dprD a0 a1 a2 a3 a4 a5 a6 a7 a8 a9 a10 a11 a12 a13 a14
  rc := (fun v => .tup [.int .i64 (.x v.1), .int .i64 (.x v.2)])
  rh := (fun v => [])
  rn := (fun v => 3)
  rx := (fun v => [])
  rgo := (fun _ => none)
theorem dprstart (a0 : Bool) (a1 a2 a3 a4 : Int) (a5 : Nat) (a6 a7 : Nat → Int) (a8 : Nat) (a9 a10 a11 a12 : Nat → Int) (a13 : Nat) (a14 : Nat → Int) : AF.edgeOk (dprA a0 a1 a2 a3 a4 a5 a6 a7 a8 a9 a10 a11 a12 a13 a14) (ctxOf Try.prog memo0) (dprD0 a0 a1 a2 a3 a4 a5 a6 a7 a8 a9 a10 a11 a12 a13 a14) (AF.run0 (dprA a0 a1 a2 a3 a4 a5 a6 a7 a8 a9 a10 a11 a12 a13 a14) (ctxOf Try.prog (memoS 76 dioP dioF dioW dioH 3 (memoS 67 drcP drcF drcW drcH 2 (memoP 63 dshP dshF dshW dshH 2 memo0))))) := by unfold AF.edgeOk; kernel_rfl
theorem dprnode0 (a0 : Bool) (a1 a2 a3 a4 : Int) (a5 : Nat) (a6 a7 : Nat → Int) (a8 : Nat) (a9 a10 a11 a12 : Nat → Int) (a13 : Nat) (a14 : Nat → Int) (p0 : Int) (p1 : Bool) (p2 p3 p4 p5 : Int) (p6 p7 : Nat) (p8 : Int) : AF.edgeOk (dprA a0 a1 a2 a3 a4 a5 a6 a7 a8 a9 a10 a11 a12 a13 a14) (ctxOf Try.prog memo0) (dprD a0 a1 a2 a3 a4 a5 a6 a7 a8 a9 a10 a11 a12 a13 a14 (.n0 p0 p1 p2 p3 p4 p5 p6 p7 p8)) (AF.runN (dprA a0 a1 a2 a3 a4 a5 a6 a7 a8 a9 a10 a11 a12 a13 a14) (ctxOf Try.prog (memoS 76 dioP dioF dioW dioH 3 (memoS 67 drcP drcF drcW drcH 2 (memoP 63 dshP dshF dshW dshH 2 memo0)))) (.n0 p0 p1 p2 p3 p4 p5 p6 p7 p8)) := by unfold AF.edgeOk; kernel_rfl
theorem dprok (a0 : Bool) (a1 a2 a3 a4 : Int) (a5 : Nat) (a6 a7 : Nat → Int) (a8 : Nat) (a9 a10 a11 a12 : Nat → Int) (a13 : Nat) (a14 : Nat → Int) : (dprA a0 a1 a2 a3 a4 a5 a6 a7 a8 a9 a10 a11 a12 a13 a14).Ok Try.prog (ctxOf Try.prog (memoS 76 dioP dioF dioW dioH 3 (memoS 67 drcP drcF drcW drcH 2 (memoP 63 dshP dshF dshW dshH 2 memo0)))) where
  regs := by kernel_rfl
  h0 := by kernel_rfl
  start := dprstart a0 a1 a2 a3 a4 a5 a6 a7 a8 a9 a10 a11 a12 a13 a14
  node := fun a _ => match a with
   | .n0 p0 p1 p2 p3 p4 p5 p6 p7 p8 => dprnode0 a0 a1 a2 a3 a4 a5 a6 a7 a8 a9 a10 a11 a12 a13 a14 p0 p1 p2 p3 p4 p5 p6 p7 p8
  pd := fun a => match a with
   | .n0 p0 p1 p2 p3 p4 p5 p6 p7 p8 => ⟨(fa_cons rfl (fa_cons rfl (fa_cons rfl (fa_cons rfl fa_nil)))), (fa_cons ⟨.inl (Nat.le_of_ble_eq_true rfl), rfl, rfl⟩ fa_nil), fa_nil, rfl⟩
  le := fun a => match a with
   | .n0 p0 p1 p2 p3 p4 p5 p6 p7 p8 => Nat.le_of_ble_eq_true rfl
  rd := fun v => ⟨⟨fa_nil, fa_nil, fa_nil, rfl⟩, rfl⟩
  wb := rfl
theorem dprhR {ρ : Env} (a0 : Bool) (a1 a2 a3 a4 : Int) (a5 : Nat) (a6 a7 : Nat → Int) (a8 : Nat) (a9 a10 a11 a12 : Nat → Int) (a13 : Nat) (a14 : Nat → Int) (hM : MemoOk Try.prog (ctxOf Try.prog (memoS 76 dioP dioF dioW dioH 3 (memoS 67 drcP drcF drcW drcH 2 (memoP 63 dshP dshF dshW dshH 2 memo0)))) ρ) : ∀ X a q n D, FxOk ρ X → X.base = (dprA a0 a1 a2 a3 a4 a5 a6 a7 a8 a9 a10 a11 a12 a13 a14).base → X.nt = (dprA a0 a1 a2 a3 a4 a5 a6 a7 a8 a9 a10 a11 a12 a13 a14).nt → X.W = (dprA a0 a1 a2 a3 a4 a5 a6 a7 a8 a9 a10 a11 a12 a13 a14).W → (dprA a0 a1 a2 a3 a4 a5 a6 a7 a8 a9 a10 a11 a12 a13 a14).rgo a = some q → q n = some D → (dprA a0 a1 a2 a3 a4 a5 a6 a7 a8 a9 a10 a11 a12 a13 a14).RangeOk Try.prog ρ X a D := AF.noRange rfl
theorem dprctr {ρ : Env} (a0 : Bool) (a1 a2 a3 a4 : Int) (a5 : Nat) (a6 a7 : Nat → Int) (a8 : Nat) (a9 a10 a11 a12 : Nat → Int) (a13 : Nat) (a14 : Nat → Int) {n : Nat} {v : dprR} (hM : MemoOk Try.prog (ctxOf Try.prog (memoS 76 dioP dioF dioW dioH 3 (memoS 67 drcP drcF drcW drcH 2 (memoP 63 dshP dshF dshW dshH 2 memo0)))) ρ) (hv : (dprA a0 a1 a2 a3 a4 a5 a6 a7 a8 a9 a10 a11 a12 a13 a14).run n = some v) :
    Ctr Try.prog ρ 35 (dprA a0 a1 a2 a3 a4 a5 a6 a7 a8 a9 a10 a11 a12 a13 a14).args (dprA a0 a1 a2 a3 a4 a5 a6 a7 a8 a9 a10 a11 a12 a13 a14).H0 (dprA a0 a1 a2 a3 a4 a5 a6 a7 a8 a9 a10 a11 a12 a13 a14).base (dprA a0 a1 a2 a3 a4 a5 a6 a7 a8 a9 a10 a11 a12 a13 a14).W ((dprA a0 a1 a2 a3 a4 a5 a6 a7 a8 a9 a10 a11 a12 a13 a14).rc v) (putH (dprA a0 a1 a2 a3 a4 a5 a6 a7 a8 a9 a10 a11 a12 a13 a14).H0 ((dprA a0 a1 a2 a3 a4 a5 a6 a7 a8 a9 a10 a11 a12 a13 a14).rh v ++ (dprA a0 a1 a2 a3 a4 a5 a6 a7 a8 a9 a10 a11 a12 a13 a14).rx v)) ((dprA a0 a1 a2 a3 a4 a5 a6 a7 a8 a9 a10 a11 a12 a13 a14).rn v) :=
  AF.ctr try_ok hM (dprok a0 a1 a2 a3 a4 a5 a6 a7 a8 a9 a10 a11 a12 a13 a14) (fn := Try.f35) Try.func35 rfl rfl (Nat.le_of_ble_eq_true rfl) rfl (dprhR a0 a1 a2 a3 a4 a5 a6 a7 a8 a9 a10 a11 a12 a13 a14 hM) hv
theorem dprmem {ρ : Env} : MemoOk Try.prog (ctxOf Try.prog (memoS 76 dioP dioF dioW dioH 3 (memoS 67 drcP drcF drcW drcH 2 (memoP 63 dshP dshF dshW dshH 2 memo0)))) ρ := (memoS_ok (dioknown diomem) (memoS_ok (drcknown drcmem) (memoP_ok (dshknown dshmem) memo0_ok)))
abbrev dprP : List AQ := [.agg [.bool, .int .i64, .int .i64, .int .i64, .int .i64, .rows [some .i64, some .i64]], .rows [some .i64, some .i64, some .i64, some .i64], .rows [some .i64]]
noncomputable def dprF (v : AW) : AF dprN dprR := dprA (v.b.getD 0 false) (v.i.getD 0 0) (v.i.getD 1 0) (v.i.getD 2 0) (v.i.getD 3 0) (v.t.getD 0 .none).n ((v.t.getD 0 .none).c 0) ((v.t.getD 0 .none).c 1) (v.t.getD 1 .none).n ((v.t.getD 1 .none).c 0) ((v.t.getD 1 .none).c 1) ((v.t.getD 1 .none).c 2) ((v.t.getD 1 .none).c 3) (v.t.getD 2 .none).n ((v.t.getD 2 .none).c 0)
noncomputable def dprW : dprR → CV := fun v => .tup [.int .i64 (.x v.1), .int .i64 (.x v.2)]
noncomputable def dprH : dprR → List (Nat × Blk) := fun v => []
instance : Inhabited dprR := ⟨(0, 0)⟩
theorem dprknown {ρ : Env} (hM : MemoOk Try.prog (ctxOf Try.prog (memoS 76 dioP dioF dioW dioH 3 (memoS 67 drcP drcF drcW drcH 2 (memoP 63 dshP dshF dshW dshH 2 memo0)))) ρ) : KnownS Try.prog ρ 35 dprP dprF dprW dprH 3 where
  fn := ⟨Try.f35, Try.func35, rfl⟩
  le := Nat.le_of_ble_eq_true rfl
  full := fun r => rfl
  rg := fun r => rfl
  hg := fun r => fa_nil
  ctr := fun v n r h => dprctr (v.b.getD 0 false) (v.i.getD 0 0) (v.i.getD 1 0) (v.i.getD 2 0) (v.i.getD 3 0) (v.t.getD 0 .none).n ((v.t.getD 0 .none).c 0) ((v.t.getD 0 .none).c 1) (v.t.getD 1 .none).n ((v.t.getD 1 .none).c 0) ((v.t.getD 1 .none).c 1) ((v.t.getD 1 .none).c 2) ((v.t.getD 1 .none).c 3) (v.t.getD 2 .none).n ((v.t.getD 2 .none).c 0) hM h
end Go.Proofs.Ythagjhadjpangaa.Cx

/- acme/acmeref07.Proves as an automaton. Made by tools/cxauto.py. -/
namespace Go.Proofs.Ythagjhadjpangaa.Cx
set_option linter.unusedVariables false
set_option linter.unusedSimpArgs false
set_option maxRecDepth 100000
open Go Go.Proofs Go.RowKit
abbrev rdqR := Int
instance : Inhabited rdqR := ⟨0⟩
end Go.Proofs.Ythagjhadjpangaa.Cx

/- Package die: lists of numbers and settings: what is valid; Proves. -/
namespace Go.Proofs.Ythagjhadjpangaa.Cx
set_option linter.unusedVariables false
set_option linter.unusedSimpArgs false
set_option maxRecDepth 100000
set_option maxHeartbeats 4000000
open Go Go.RowKit
section
variable {a0 a1 : Int} {a2 : Nat} {a3 : Nat → Int}
theorem xal_val (hn : a2 ≤ 10000) : AF.fin (xalA a0 a1 a2 a3) = true ∧ (AF.val (xalA a0 a1 a2 a3) = true ↔ ∀ i : Nat, (i : Int) < a2 → a0 ≤ a3 i ∧ a3 i ≤ a1) := by
  have h : AF.fin (xixA a2 a3 a0 a1) = true ∧ ((AF.val (xixA a2 a3 a0 a1) = -1 ∧ ∀ i : Nat, (i : Int) < a2 → a0 ≤ a3 i ∧ a3 i ≤ a1) ∨ (0 ≤ AF.val (xixA a2 a3 a0 a1) ∧ ¬ ∀ i : Nat, (i : Int) < a2 → a0 ≤ a3 i ∧ a3 i ≤ a1)) := by
    refine find_val (P := fun i => a0 ≤ a3 i ∧ a3 i ≤ a1) xixN.n0 (fun b => match b with | .n0 p => p) (fun _ => rfl) a2 (fun _ => rfl) rfl fun p h0 h1 => ?_
    show DD.sat _ _ (xixD a2 a3 a0 a1 (.n0 p))
    unfold xixD
    have e1 : Ar.run .add .i64 p 1 = p + 1 := arAdd (by omega)
    have e4 : ((p.toNat : Nat) : Int) = p := Int.toNat_of_nonneg h0
    simp only [DD.sat, Nat.zero_add, e1, cmLss, cmLssF, cmGtr, cmGtrF, decide_eq_true_eq, true_and]
    generalize a3 p.toNat = L
    repeat' (first | intro _ | apply And.intro)
    all_goals omega
  have hc : AF.fin (xcfA a2 a3 a0 a1) = true ∧ (AF.val (xcfA a2 a3 a0 a1) = true ↔ ¬ ∀ i : Nat, (i : Int) < a2 → a0 ≤ a3 i ∧ a3 i ≤ a1) := by
    refine flat_val (E := fun v => v = true ↔ ¬ ∀ i : Nat, (i : Int) < a2 → a0 ≤ a3 i ∧ a3 i ≤ a1) (fun _ => rfl) ?_
    show DD.sat _ _ (xcfD0 a2 a3 a0 a1)
    unfold xcfD0
    simp only [DD.sat, Nat.zero_add, cmGeq, cmGeqF, decide_eq_true_eq]
    refine ⟨Nat.le_refl _, shape_ok fun i _ => rfl, h.1, fun hv => ?_, fun hv => ?_⟩
    · have hv : 0 ≤ AF.val (xixA a2 a3 a0 a1) := hv
      rcases h.2 with h | h
      · rw [h.1] at hv; exact absurd hv (by decide)
      · exact ⟨fun _ => h.2, fun _ => trivial⟩
    · have hv : AF.val (xixA a2 a3 a0 a1) < 0 := hv
      rcases h.2 with h | h
      · exact ⟨fun k => (by cases k), fun k => absurd h.2 k⟩
      · exact absurd hv (Int.not_lt.2 h.1)
  refine flat_val (E := fun v => v = true ↔ ∀ i : Nat, (i : Int) < a2 → a0 ≤ a3 i ∧ a3 i ≤ a1) (fun _ => rfl) ?_
  show DD.sat _ _ (xalD0 a0 a1 a2 a3)
  unfold xalD0
  simp only [DD.sat, Nat.zero_add, decide_eq_true_eq]
  refine ⟨Nat.le_refl _, shape_ok fun i _ => rfl, hc.1, ?_⟩
  have h2 : AF.val (xcfA a2 (fun i => a3 i) a0 a1) = true ↔ ¬ ∀ i : Nat, (i : Int) < a2 → a0 ≤ a3 i ∧ a3 i ≤ a1 := hc.2
  rw [Bool.not_eq_true', ← Bool.not_eq_true, h2, Classical.not_not]
end
/-- Numbers of pieces, in strictly ascending order. -/
def OrdS (n : Nat) (F : Nat → Int) (T : Int) : Prop := (∀ i, i < n → 0 ≤ F i ∧ F i < T) ∧ ∀ i, i + 1 < n → F i < F (i + 1)
theorem OrdS.asc {n : Nat} {F : Nat → Int} {T : Int} (h : OrdS n F T) {i : Nat} : ∀ j, i < j → j < n → F i < F j
  | 0, h1, _ => by omega
  | j + 1, h1, h2 => by
    have a := h.2 j h2
    by_cases he : i = j
    · rw [he]; exact a
    · have := h.asc (i := i) j (by omega) (by omega)
      omega
theorem OrdS.cast {n : Nat} {F F' : Nat → Int} {T : Int} (hF : ∀ i, i < n → F' i = F i) : OrdS n F' T ↔ OrdS n F T := by
  unfold OrdS
  constructor <;> rintro ⟨h1, h2⟩ <;> refine ⟨fun i hi => ?_, fun i hi => ?_⟩
  · rw [← hF i hi]; exact h1 i hi
  · rw [← hF i (by omega), ← hF (i + 1) hi]; exact h2 i hi
  · rw [hF i hi]; exact h1 i hi
  · rw [hF i (by omega), hF (i + 1) hi]; exact h2 i hi
section
variable {a0 : Bool} {a1 a2 a3 a4 : Int} {a5 : Nat} {a6 a7 : Nat → Int} {a8 : Nat} {a9 a10 a11 a12 : Nat → Int} {a13 : Int} {a14 : Nat} {a15 a16 : Nat → Int}
theorem dio_val (hT : 0 ≤ a13 ∧ a13 ≤ 1000000000) (hn : a14 ≤ 10000) : AF.fin (dioA a0 a1 a2 a3 a4 a5 a6 a7 a8 a9 a10 a11 a12 a13 a14 a15) = true ∧ (AF.val (dioA a0 a1 a2 a3 a4 a5 a6 a7 a8 a9 a10 a11 a12 a13 a14 a15) = true ↔ OrdS a14 a15 a13) := by
  have hx := xal_val (a0 := 0) (a1 := a13 - 1) (a2 := a14) (a3 := a15) hn
  refine AF.val_sat (E := fun v => v = true ↔ OrdS a14 a15 a13) (Inv := fun b => match b with | .n0 p0 p1 => 0 ≤ p1 ∧ p1 ≤ a14 ∧ (p1 = 0 → p0 = -1) ∧ (0 < p1 → p0 = a15 (p1 - 1).toNat) ∧ (∀ i : Nat, (i : Int) < p1 → -1 < a15 i) ∧ ∀ i : Nat, (i : Int) + 1 < p1 → a15 i < a15 (i + 1))
    (fun b => match b with | .n0 p0 p1 => (a14 - p1).toNat) (fun _ => rfl) (fun a hI => ?_) ?_
  · cases a with
    | n0 p0 p1 =>
      obtain ⟨g0, g1, g2, g3, g4, g5⟩ := hI
      show DD.sat _ _ (dioD a0 a1 a2 a3 a4 a5 a6 a7 a8 a9 a10 a11 a12 a13 a14 a15 (.n0 p0 p1))
      unfold dioD
      have e1 : p1 < a14 → Ar.run .add .i64 p1 1 = p1 + 1 := fun h => arAdd (by omega)
      have e2 : Ar.run .sub .i64 a13 1 = a13 - 1 := arSub (by omega)
      have hxE : AF.val (xalA 0 (a13 - 1) a14 (fun i => a15 i)) = true ↔ ∀ i : Nat, (i : Int) < a14 → 0 ≤ a15 i ∧ a15 i ≤ a13 - 1 := hx.2
      simp only [DD.sat, Nat.zero_add, cmLss, cmLssF, cmLeq, cmLeqF, cmGtr, cmGtrF, cmGeq, cmGeqF, cmEql, cmEqlF, cmNeq, cmNeqF, decide_eq_true_eq, Bool.not_eq_true', Bool.not_eq_false', e2]
      refine ⟨fun hp => ⟨g0, hp, by omega, fun hl => ⟨fun k => (by cases k), fun k => ?_⟩, fun hl => ?_⟩, fun hp => ⟨Nat.le_refl _, shape_ok fun i _ => rfl, hx.1, ?_⟩⟩
      · exfalso
        by_cases hz : p1 = 0
        · have := (k.1 p1.toNat (by omega)).1
          rw [g2 hz] at hl
          omega
        · have := k.2 (p1 - 1).toNat (by omega)
          rw [g3 (by omega)] at hl
          rw [show (p1 - 1).toNat + 1 = p1.toNat by omega] at this
          omega
      · rw [e1 hp]
        refine ⟨⟨by omega, by omega, fun hx => by omega, fun _ => by rw [show (p1 + 1 - 1).toNat = p1.toNat by omega], fun i hi => ?_, fun i hi => ?_⟩, by omega⟩
        · by_cases he : (i : Int) < p1
          · exact g4 i he
          · obtain rfl : i = p1.toNat := by omega
            by_cases hz : p1 = 0
            · rw [g2 hz] at hl; exact hl
            · have := g4 (p1 - 1).toNat (by omega)
              rw [g3 (by omega)] at hl
              omega
        · by_cases he : (i : Int) + 1 < p1
          · exact g5 i he
          · have hi' : i + 1 = p1.toNat := by omega
            rw [hi']
            rw [g3 (by omega)] at hl
            rw [show i = (p1 - 1).toNat by omega]
            exact hl
      · rw [hxE]
        obtain rfl : p1 = a14 := by omega
        exact ⟨fun k => ⟨fun i hi => by have := k i (by omega); omega, fun i hi => g5 i (by omega)⟩, fun k i hi => by have := k.1 i (by omega); omega⟩
  · exact ⟨Int.le_refl _, by omega, fun _ => rfl, fun hx => by omega, fun i hi => by omega, fun i hi => by omega⟩
/-- Valid settings. -/
def SetS (n : Nat) (F G : Nat → Int) (T : Int) : Prop := OrdS n F T ∧ ∀ i : Nat, (i : Int) < n → -10000000000 ≤ G i ∧ G i ≤ 20000000000
theorem dvp_val (hT : 0 ≤ a13 ∧ a13 ≤ 1000000000) (hn : a14 ≤ 1000) : AF.fin (dvpA a0 a1 a2 a3 a4 a5 a6 a7 a8 a9 a10 a11 a12 a13 a14 a15 a16) = true ∧ (AF.val (dvpA a0 a1 a2 a3 a4 a5 a6 a7 a8 a9 a10 a11 a12 a13 a14 a15 a16) = true ↔ SetS a14 a15 a16 a13) := by
  refine AF.val_sat (E := fun v => v = true ↔ SetS a14 a15 a16 a13) (Inv := fun b => match b with | .n0 => True | .n1 p0 p1 p2 p3 p4 => p1 = p0 ∧ p2 = p0 ∧ p0 ≤ a14 ∧ (∀ i, i < p0 → p3 i = a15 i) ∧ ∀ i, i < p0 → p4 i = a16 i)
    (fun b => match b with | .n0 => a14 + 1 | .n1 p0 p1 p2 p3 p4 => a14 - p0) (fun _ => rfl) (fun a hI => ?_) ?_
  · cases a with
    | n0 =>
      have h1 := dio_val (a0 := a0) (a1 := a1) (a2 := a2) (a3 := a3) (a4 := a4) (a5 := a5) (a6 := a6) (a7 := a7) (a8 := a8) (a9 := a9) (a10 := a10) (a11 := a11) (a12 := a12) (a13 := a13) (a14 := 0) (a15 := fun _ => 0) hT (by omega)
      have h2 := xal_val (a0 := -10000000000) (a1 := 20000000000) (a2 := 0) (a3 := fun _ => 0) (by omega)
      have h1E : AF.val (dioA a0 a1 a2 a3 a4 a5 (fun i => a6 i) (fun i => a7 i) a8 (fun i => a9 i) (fun i => a10 i) (fun i => a11 i) (fun i => a12 i) a13 0 (fun i => 0)) = true := h1.2.2 ⟨fun i hi => by omega, fun i hi => by omega⟩
      have h2E : AF.val (xalA (-10000000000) 20000000000 0 (fun i => 0)) = true := h2.2.2 fun i hi => by omega
      show DD.sat _ _ (dvpD a0 a1 a2 a3 a4 a5 a6 a7 a8 a9 a10 a11 a12 a13 a14 a15 a16 .n0)
      unfold dvpD
      simp only [DD.sat, Nat.zero_add, cmLss, cmLssF, cmLeq, cmLeqF, cmGtr, cmGtrF, cmGeq, cmGeqF, cmEql, cmEqlF, cmNeq, cmNeqF, decide_eq_true_eq, Bool.not_eq_true', Bool.not_eq_false', h1E, h2E]
      refine ⟨fun hp => ⟨trivial, hp, by omega, ⟨trivial, rfl, by omega, fun i hi => ?_, fun i hi => ?_⟩, by omega⟩, fun hp => ⟨Nat.le_refl _, shape_ok fun i _ => rfl, Nat.le_refl _, shape_ok fun i _ => rfl, h1.1, fun _ => ⟨h2.1, ?_⟩, fun hx => by cases hx⟩⟩
      · obtain rfl : i = 0 := by omega
        rfl
      · obtain rfl : i = 0 := by omega
        rfl
      · exact ⟨fun _ => ⟨⟨fun i hi => by omega, fun i hi => by omega⟩, fun i hi => by omega⟩, fun _ => trivial⟩
    | n1 p0 p1 p2 p3 p4 =>
      obtain ⟨rfl, rfl, g1, g2, g3⟩ := hI
      show DD.sat _ _ (dvpD a0 a1 a2 a3 a4 a5 a6 a7 a8 a9 a10 a11 a12 a13 a14 a15 a16 (.n1 p1 _ _ p3 p4))
      unfold dvpD
      have h1 := dio_val (a0 := a0) (a1 := a1) (a2 := a2) (a3 := a3) (a4 := a4) (a5 := a5) (a6 := a6) (a7 := a7) (a8 := a8) (a9 := a9) (a10 := a10) (a11 := a11) (a12 := a12) (a13 := a13) (a14 := p1) (a15 := p3) hT (by omega)
      have h2 := xal_val (a0 := -10000000000) (a1 := 20000000000) (a2 := p1) (a3 := p4) (by omega)
      by_cases hq : p1 < a14
      · have e1 : Ar.run .add .i64 (p1 : Int) 1 = ((p1 + 1 : Nat) : Int) := by rw [arAdd (by omega)]; omega
        simp only [DD.sat, Nat.zero_add, cmLss, cmLssF, cmLeq, cmLeqF, cmGtr, cmGtrF, cmGeq, cmGeqF, cmEql, cmEqlF, cmNeq, cmNeqF, decide_eq_true_eq, Bool.not_eq_true', Bool.not_eq_false', e1]
        refine ⟨fun _ => ⟨by omega, by omega, by omega, Nat.le_refl _, by omega, Nat.le_refl _, by omega, ⟨trivial, trivial, by omega, fun i hi => ?_, fun i hi => ?_⟩, by omega⟩, fun hx => by omega⟩
        · try dsimp only
          by_cases he : i < p1
          · rw [bif_lt he]; exact g2 i he
          · obtain rfl : i = p1 := by omega
            rw [bif_ge]; rfl
        · try dsimp only
          by_cases he : i < p1
          · rw [bif_lt he]; exact g3 i he
          · obtain rfl : i = p1 := by omega
            rw [bif_ge]; rfl
      · obtain rfl : p1 = a14 := by omega
        have o := (OrdS.cast (T := a13) g2)
        have c1 : AF.val (dioA a0 a1 a2 a3 a4 a5 (fun i => a6 i) (fun i => a7 i) a8 (fun i => a9 i) (fun i => a10 i) (fun i => a11 i) (fun i => a12 i) a13 p1 (fun i => p3 i)) = true ↔ OrdS p1 a15 a13 := h1.2.trans o
        have c2 : AF.val (xalA (-10000000000) 20000000000 p1 (fun i => p4 i)) = true ↔ ∀ i : Nat, (i : Int) < p1 → -10000000000 ≤ a16 i ∧ a16 i ≤ 20000000000 := h2.2.trans ⟨fun k i hi => by rw [← g3 i (by omega)]; exact k i hi, fun k i hi => by rw [g3 i (by omega)]; exact k i hi⟩
        simp only [DD.sat, Nat.zero_add, cmLss, cmLssF, cmLeq, cmLeqF, cmGtr, cmGtrF, cmGeq, cmGeqF, cmEql, cmEqlF, cmNeq, cmNeqF, decide_eq_true_eq, Bool.not_eq_true', Bool.not_eq_false']
        refine ⟨fun hx => by omega, fun _ => ⟨Nat.le_refl _, shape_ok fun i _ => rfl, Nat.le_refl _, shape_ok fun i _ => rfl, Nat.le_refl _, shape_ok fun i _ => rfl, Nat.le_refl _, h1.1, fun hv => ⟨Nat.le_refl _, shape_ok fun i _ => rfl, Nat.le_refl _, h2.1, ?_⟩, fun hv => ⟨fun k => (by cases k), fun k => ?_⟩⟩⟩
        · rw [c2]
          exact ⟨fun k => ⟨c1.1 hv, k⟩, fun k => k.2⟩
        · rw [c1.2 k.1] at hv
          cases hv
  · show True
    trivial
end
section
variable {a0 : Nat} {a1 a2 a3 a4 : Nat → Int} {a5 : Nat} {a6 a7 : Nat → Int}
end
/-- The first number that can be done together with the next one, or -1. -/
def ProvS (lo hi : Int → Nat → Int) (n : Nat) (F : Nat → Int) (r : Int) : Prop :=
  (r = -1 ∧ ∀ i, i + 1 < n → ¬ CanP lo hi (F i) (F (i + 1) + 1)) ∨ ∃ k : Nat, r = k ∧ k + 1 < n ∧ CanP lo hi (F k) (F (k + 1) + 1) ∧ ∀ i, i < k → ¬ CanP lo hi (F i) (F (i + 1) + 1)
theorem ProvS.same {lo hi : Int → Nat → Int} {n : Nat} {F : Nat → Int} {r r' : Int} (h : ProvS lo hi n F r) (h' : ProvS lo hi n F r') : r = r' := by
  rcases h with ⟨rfl, h⟩ | ⟨k, rfl, h1, h2, h3⟩ <;> rcases h' with ⟨rfl, h'⟩ | ⟨k', rfl, h1', h2', h3'⟩
  · rfl
  · exact absurd h2' (h k' h1')
  · exact absurd h2 (h' k h1)
  · rcases Nat.lt_trichotomy k k' with q | q | q
    · exact absurd h2 (h3' k q)
    · rw [q]
    · exact absurd h2' (h3 k' q)
section
variable {a0 : Bool} {a1 a2 a3 a4 : Int} {a5 : Nat} {a6 a7 : Nat → Int} {a8 : Nat} {a9 a10 a11 a12 : Nat → Int} {a13 : Nat} {a14 : Nat → Int}
/-- What Proves yields. -/
def ProE (a0 : Bool) (a1 a2 a3 a4 : Int) (a5 : Nat) (a6 a7 : Nat → Int) (a8 : Nat) (a9 a10 a11 a12 : Nat → Int) (a13 : Nat) (a14 : Nat → Int) (v : Int × Int) : Prop :=
  ∃ e, CkS a5 a8 (ToolOk a5 a6 a7 a1 a2 a3 a4) a9 a10 a11 a12 e ∧ (e ≠ 0 ∧ v = (0, e) ∨ e = 0 ∧ (a13 > 1000 ∧ v = (0, 5) ∨ a13 ≤ 1000 ∧ (¬ OrdS a13 a14 (PS a9 a8) ∧ v = (0, 2) ∨
    OrdS a13 a14 (PS a9 a8) ∧ ∃ r, ProvS (loJ a0 a1 a3 a6 a7 a8 a9 a10 a11) (hiJ a0 a2 a4 a6 a7 a8 a9 a10 a12) a13 a14 r ∧ v = (r, 0))))
theorem dpr_val (hn : a5 ≤ 10000) (hm : a8 ≤ 10000) (hk : a13 ≤ 10000) : AF.fin (dprA a0 a1 a2 a3 a4 a5 a6 a7 a8 a9 a10 a11 a12 a13 a14) = true ∧ ProE a0 a1 a2 a3 a4 a5 a6 a7 a8 a9 a10 a11 a12 a13 a14 (AF.val (dprA a0 a1 a2 a3 a4 a5 a6 a7 a8 a9 a10 a11 a12 a13 a14)) := by
  obtain ⟨hf, e, hC, hv⟩ := dsh_val (a0 := a0) (a1 := a1) (a2 := a2) (a3 := a3) (a4 := a4) (a5 := a5) (a6 := a6) (a7 := a7) (a8 := a8) (a9 := a9) (a10 := a10) (a11 := a11) (a12 := a12) hn hm
  refine AF.val_sat (E := ProE a0 a1 a2 a3 a4 a5 a6 a7 a8 a9 a10 a11 a12 a13 a14) (Inv := fun b => match b with | .n0 p p0 p1 p2 p3 p4 p5 p6 p7 => (p0 = a0 ∧ p1 = a1 ∧ p2 = a2 ∧ p3 = a3 ∧ p4 = a4 ∧ p5 = a5 ∧ p6 = a8 ∧ p7 = PS a9 a8) ∧ e = 0 ∧ a13 ≤ 1000 ∧ OrdS a13 a14 (PS a9 a8) ∧ 0 ≤ p ∧ p ≤ a13 ∧ ∀ i : Nat, (i : Int) < p → i + 1 < a13 ∧ ¬ CanP (loJ a0 a1 a3 a6 a7 a8 a9 a10 a11) (hiJ a0 a2 a4 a6 a7 a8 a9 a10 a12) (a14 i) (a14 (i + 1) + 1))
    (fun b => match b with | .n0 p p0 p1 p2 p3 p4 p5 p6 p7 => (a13 - p).toNat) (fun _ => rfl) (fun a hI => ?_) ?_
  · cases a with
    | n0 p p0 p1 p2 p3 p4 p5 p6 p7 =>
      obtain ⟨⟨rfl, rfl, rfl, rfl, rfl, rfl, rfl, rfl⟩, rfl, hk', ho, g0, g1, g2⟩ := hI
      have job := hC.job
      have r := PS_rng job.pc p6 (Nat.le_refl _)
      have few := job.few
      have ans : ∀ r, ProvS (loJ p0 p1 p3 a6 a7 p6 a9 a10 a11) (hiJ p0 p2 p4 a6 a7 p6 a9 a10 a12) a13 a14 r → ProE p0 p1 p2 p3 p4 p5 a6 a7 p6 a9 a10 a11 a12 a13 a14 (r, 0) := fun r hr => ⟨0, hC, .inr ⟨rfl, .inr ⟨hk', .inr ⟨ho, r, hr, rfl⟩⟩⟩⟩
      show DD.sat _ _ (dprD p0 p1 p2 p3 p4 p5 a6 a7 p6 a9 a10 a11 a12 a13 a14 (.n0 p p0 p1 p2 p3 p4 p5 p6 (PS a9 p6)))
      unfold dprD
      have e1 : Ar.run .add .i64 p 1 = p + 1 := arAdd (by omega)
      have e4 : Ar.run .sub .i64 (a13 : Int) 1 = (a13 : Int) - 1 := arSub (by omega)
      by_cases hq : p + 1 < a13
      · have b1 := ho.1 p.toNat (by omega)
        have b2 := ho.1 (p.toNat + 1) (by omega)
        have b3 := ho.2 p.toNat (by omega)
        have e2 : (p + 1).toNat = p.toNat + 1 := by omega
        have e3 : Ar.run .add .i64 (a14 (p.toNat + 1)) 1 = a14 (p.toNat + 1) + 1 := arAdd (by omega)
        obtain ⟨rf, x, y, z, rv, J, j1, j2, j3, rfl, rfl, rfl⟩ := drc_gen (a0 := p0) (a13 := PS a9 p6) (a14 := -10000000000) (a15 := 20000000000) (a16 := a14 p.toNat) (a17 := a14 (p.toNat + 1) + 1) job (by omega) (by omega) (by omega)
        have rvE : AF.val (drcA p0 p1 p2 p3 p4 p5 (fun i => a6 i) (fun i => a7 i) p6 (fun i => a9 i) (fun i => a10 i) (fun i => a11 i) (fun i => a12 i) (PS a9 p6) (-10000000000) 20000000000 (a14 p.toNat) (a14 (p.toNat + 1) + 1)) = _ := rv
        have el := fun n => job.lo (a0 := p0) (a13 := a14 p.toNat) (by omega) (by omega) n
        have eh := fun n => job.hi (a0 := p0) (a13 := a14 p.toNat) (by omega) (by omega) n
        have key : a14 p.toNat + J = a14 (p.toNat + 1) + 1 ↔ CanP (loJ p0 p1 p3 a6 a7 p6 a9 a10 a11) (hiJ p0 p2 p4 a6 a7 p6 a9 a10 a12) (a14 p.toNat) (a14 (p.toNat + 1) + 1) := by
          unfold CanP loJ hiJ
          constructor
          · intro hz
            have := j3 (by omega)
            obtain ⟨K, rfl⟩ : ∃ K, J = K + 1 := ⟨J - 1, by omega⟩
            rw [el, eh] at this
            rw [show (a14 (p.toNat + 1) + 1 - a14 p.toNat).toNat = K + 1 by omega]
            exact this
          · intro hc
            by_cases hz : (J : Int) < a14 (p.toNat + 1) + 1 - a14 p.toNat
            · exfalso
              have := j2 hz
              rw [el, eh] at this
              have m1 := LoM_mono (t := -1152921504606846976) (tl := tlP p0 p1 p3 a6 a7 a10 a9 a11 p6 (a14 p.toNat)) (i := J + 1) (a14 (p.toNat + 1) + 1 - a14 p.toNat).toNat (by omega)
              have m2 := HiM_mono (t := 1152921504606846976) (th := thP p0 p2 p4 a6 a7 a10 a9 a12 p6 (a14 p.toNat)) (i := J + 1) (a14 (p.toNat + 1) + 1 - a14 p.toNat).toNat (by omega)
              omega
            · omega
        simp only [DD.sat, Nat.zero_add, cmLss, cmLssF, cmLeq, cmLeqF, cmGtr, cmGtrF, cmGeq, cmGeqF, cmEql, cmEqlF, cmNeq, cmNeqF, decide_eq_true_eq, Bool.not_eq_true', Bool.not_eq_false', e1, e2, e3, e4, rvE]
        refine ⟨fun _ => ⟨by omega, hq, by omega, g0, by omega, by omega, Nat.le_refl _, shape_ok fun i _ => rfl, Nat.le_refl _, shape_ok fun i _ => rfl, rf, fun hc => ?_, fun hc => ⟨⟨(by repeat' (first | trivial | exact rfl | apply And.intro)), trivial, hk', ho, by omega, by omega, fun i hi => ?_⟩, by omega⟩⟩, fun hx => by omega⟩
        · exact ans p (.inr ⟨p.toNat, by omega, by omega, key.1 hc, fun i hi => (g2 i (by omega)).2⟩)
        · by_cases he : (i : Int) < p
          · exact g2 i he
          · obtain rfl : i = p.toNat := by omega
            exact ⟨by omega, fun hx => hc (key.2 hx)⟩
      · simp only [DD.sat, Nat.zero_add, cmLss, cmLssF, cmLeq, cmLeqF, cmGtr, cmGtrF, cmGeq, cmGeqF, cmEql, cmEqlF, cmNeq, cmNeqF, decide_eq_true_eq, Bool.not_eq_true', Bool.not_eq_false', e4]
        exact ⟨fun hx => by omega, fun _ => ans (-1) (.inl ⟨rfl, fun i hi => (g2 i (by omega)).2⟩)⟩
  · show DD.sat _ _ (dprD0 a0 a1 a2 a3 a4 a5 a6 a7 a8 a9 a10 a11 a12 a13 a14)
    unfold dprD0
    rcases hv with ⟨he, hv⟩ | ⟨rfl, hv⟩
    · have hv' : AF.val (dshA a0 a1 a2 a3 a4 a5 (fun i => a6 i) (fun i => a7 i) a8 (fun i => a9 i) (fun i => a10 i) (fun i => a11 i) (fun i => a12 i)) = .r0 e := hv
      simp only [DD.sat, Nat.zero_add, cmLss, cmLssF, cmLeq, cmLeqF, cmGtr, cmGtrF, cmGeq, cmGeqF, cmEql, cmEqlF, cmNeq, cmNeqF, decide_eq_true_eq, Bool.not_eq_true', Bool.not_eq_false', hv', dshw8]
      refine ⟨Nat.le_refl _, shape_ok fun i _ => rfl, Nat.le_refl _, shape_ok fun i _ => rfl, hf, fun _ => ⟨e, hC, .inl ⟨he, rfl⟩⟩, fun hx => absurd hx he⟩
    · have hv' : AF.val (dshA a0 a1 a2 a3 a4 a5 (fun i => a6 i) (fun i => a7 i) a8 (fun i => a9 i) (fun i => a10 i) (fun i => a11 i) (fun i => a12 i)) = .r1 a0 a1 a2 a3 a4 a5 a8 (PS a9 a8) := hv
      have job := hC.job
      have r := PS_rng job.pc a8 (Nat.le_refl _)
      have few := job.few
      simp only [DD.sat, Nat.zero_add, cmLss, cmLssF, cmLeq, cmLeqF, cmGtr, cmGtrF, cmGeq, cmGeqF, cmEql, cmEqlF, cmNeq, cmNeqF, decide_eq_true_eq, Bool.not_eq_true', Bool.not_eq_false', hv', dshw0, dshw1, dshw2, dshw3, dshw4, dshw5, dshw6, dshw7, dshw8]
      refine ⟨Nat.le_refl _, shape_ok fun i _ => rfl, Nat.le_refl _, shape_ok fun i _ => rfl, hf, fun hx => absurd rfl hx, fun _ => ⟨fun h => ⟨0, hC, .inr ⟨rfl, .inl ⟨by omega, rfl⟩⟩⟩, fun h1 => ?_⟩⟩
      obtain ⟨of, ov⟩ := dio_val (a0 := a0) (a1 := a1) (a2 := a2) (a3 := a3) (a4 := a4) (a5 := a5) (a6 := a6) (a7 := a7) (a8 := a8) (a9 := a9) (a10 := a10) (a11 := a11) (a12 := a12) (a13 := PS a9 a8) (a14 := a13) (a15 := a14) (by omega) (by omega)
      have ovE : AF.val (dioA a0 a1 a2 a3 a4 a5 (fun i => a6 i) (fun i => a7 i) a8 (fun i => a9 i) (fun i => a10 i) (fun i => a11 i) (fun i => a12 i) (PS a9 a8) a13 (fun i => a14 i)) = true ↔ OrdS a13 a14 (PS a9 a8) := ov
      refine ⟨Nat.le_refl _, shape_ok fun i _ => rfl, Nat.le_refl _, shape_ok fun i _ => rfl, Nat.le_refl _, shape_ok fun i _ => rfl, of, fun hb => ⟨0, hC, .inr ⟨rfl, .inr ⟨by omega, .inl ⟨fun k => ?_, rfl⟩⟩⟩⟩, fun hb => ⟨(by repeat' (first | trivial | exact rfl | apply And.intro)), trivial, by omega, ovE.1 hb, Int.le_refl _, by omega, fun i hi => by omega⟩⟩
      rw [ovE.2 k] at hb
      cases hb
end
end Go.Proofs.Ythagjhadjpangaa.Cx

/- acme/die.Judge as an automaton. Made by tools/cxauto.py. -/
namespace Go.Proofs.Ythagjhadjpangaa.Cx
set_option linter.unusedVariables false
set_option linter.unusedSimpArgs false
set_option maxRecDepth 100000
open Go Go.Proofs Go.RowKit
noncomputable abbrev djuCode : Code := funcCode Try.f34
inductive djuN where
  | n0 (p0 : Int) (p1 : Bool) (p2 p3 p4 p5 : Int) (p6 p7 : Nat) (p8 : Int)
abbrev djuR := Int × Int
noncomputable def djuD0 (a0 : Bool) (a1 a2 a3 a4 : Int) (a5 : Nat) (a6 a7 : Nat → Int) (a8 : Nat) (a9 a10 a11 a12 : Nat → Int) (a13 : Nat) (a14 a15 : Nat → Int) : DD (Lf djuN djuR) :=
 let z0 := fun i => [CV.int IntKind.i64 (IE.x (a6 (0 + i))), CV.int IntKind.i64 (IE.x (a7 (0 + i)))]
 let z1 := fun i => [CV.int IntKind.i64 (IE.x (a9 (0 + i))), CV.int IntKind.i64 (IE.x (a10 (0 + i))), CV.int IntKind.i64 (IE.x (a11 (0 + i))), CV.int IntKind.i64 (IE.x (a12 (0 + i)))]
 let z2 := fun i => a6 (0 + i)
 let z3 := fun i => a7 (0 + i)
 let z4 := fun i => a9 (0 + i)
 let z5 := fun i => a10 (0 + i)
 let z6 := fun i => a11 (0 + i)
 let z7 := fun i => a12 (0 + i)
 let z8 := dshA a0 a1 a2 a3 a4 a5 z2 z3 a8 z4 z5 z6 z7
 let z9 := AF.val z8
 let z10 := dshw5 z9
 let z11 := dshw6 z9
 let z12 := fun i => [CV.int IntKind.i64 (IE.x (a14 (0 + i))), CV.int IntKind.i64 (IE.x (a15 (0 + i)))]
 let z13 := dshw0 z9
 let z14 := dshw1 z9
 let z15 := dshw2 z9
 let z16 := dshw3 z9
 let z17 := dshw4 z9
 let z18 := dshw7 z9
 let z19 := dvpA z13 z14 z15 z16 z17 z10 z2 z3 z11 z4 z5 z6 z7 z18 a13 (fun i => a14 (0 + i)) (fun i => a15 (0 + i))
 .must (decide (0 + a5 ≤ a5))
   (.must (ShapeOk [some IntKind.i64, some IntKind.i64] (tabOf a5 z0) z0)
   (.must (decide (0 + a8 ≤ a8))
   (.must (ShapeOk [some IntKind.i64, some IntKind.i64, some IntKind.i64, some IntKind.i64] (tabOf a8 z1) z1)
   (.must (AF.fin z8)
   (.ask (Cm.run .neq (dshw8 z9) 0)
   (.leaf (.done (0, dshw8 z9) []))
   (.ask (Cm.run .gtr ((↑a13 : Int)) 1000)
   (.leaf (.done (0, 5) []))
   (.must (decide (0 + dshw5 z9 ≤ a5))
   (.must (ShapeOk [some IntKind.i64, some IntKind.i64] (tabOf z10 z0) z0)
   (.must (decide (0 + dshw6 z9 ≤ a8))
   (.must (ShapeOk [some IntKind.i64, some IntKind.i64, some IntKind.i64, some IntKind.i64] (tabOf z11 z1) z1)
   (.must (decide (0 + a13 ≤ a13))
   (.must (ShapeOk [some IntKind.i64, some IntKind.i64] (tabOf a13 z12) z12)
   (.must (AF.fin z19)
   (.ask (!AF.val z19)
   (.leaf (.done (0, 2) []))
   (.ask (Cm.run .eql ((↑a13 : Int)) 0)
   (.leaf (.done (0, 0) []))
   (.must (true)
   (.must (decide (0 < (↑a13 : Int)))
   (.must (decide (0 + Int.toNat 0 < a13))
   (.ask (Cm.run .gtr (a14 (0 + Int.toNat 0)) 0)
   (.leaf (.done (0, 0) []))
   (.leaf (.next (.n0 0 z13 z14 z15 z16 z17 z10 z11 z18) [4])))))))))))))))))))))

noncomputable def djuD (a0 : Bool) (a1 a2 a3 a4 : Int) (a5 : Nat) (a6 a7 : Nat → Int) (a8 : Nat) (a9 a10 a11 a12 : Nat → Int) (a13 : Nat) (a14 a15 : Nat → Int) : djuN → DD (Lf djuN djuR)
 | .n0 p0 p1 p2 p3 p4 p5 p6 p7 p8 =>
 let z0 := Ar.run .add .i64 p0 1
 let z1 := decide (0 + p6 ≤ a5)
 let z2 := fun i => [CV.int IntKind.i64 (IE.x (a6 (0 + i))), CV.int IntKind.i64 (IE.x (a7 (0 + i)))]
 let z3 := ShapeOk [some IntKind.i64, some IntKind.i64] (tabOf p6 z2) z2
 let z4 := decide (0 + p7 ≤ a8)
 let z5 := fun i => [CV.int IntKind.i64 (IE.x (a9 (0 + i))), CV.int IntKind.i64 (IE.x (a10 (0 + i))), CV.int IntKind.i64 (IE.x (a11 (0 + i))), CV.int IntKind.i64 (IE.x (a12 (0 + i)))]
 let z6 := ShapeOk [some IntKind.i64, some IntKind.i64, some IntKind.i64, some IntKind.i64] (tabOf p7 z5) z5
 let z7 := fun i => a6 (0 + i)
 let z8 := fun i => a7 (0 + i)
 let z9 := fun i => a9 (0 + i)
 let z10 := fun i => a10 (0 + i)
 let z11 := fun i => a11 (0 + i)
 let z12 := fun i => a12 (0 + i)
 let z13 := a15 (0 + Int.toNat p0)
 let z14 := a14 (0 + Int.toNat p0)
 let z15 := a14 (0 + Int.toNat z0)
 let z16 := drcA p1 p2 p3 p4 p5 p6 z7 z8 p7 z9 z10 z11 z12 p8 z13 z13 z14 z15
 let z17 := Prod.snd (AF.val z16)
 let z18 := drcA p1 p2 p3 p4 p5 p6 z7 z8 p7 z9 z10 z11 z12 p8 z13 z13 z14 p8
 let z19 := Prod.snd (AF.val z18)
 .ask (Cm.run .lss p0 (↑a13 : Int))
   (.must (decide (0 ≤ p0))
   (.must (decide (p0 < (↑a13 : Int)))
   (.must (decide (0 + Int.toNat p0 < a13))
   (.ask (Cm.run .lss z0 (↑a13 : Int))
   (.must (decide (0 ≤ Ar.run .add .i64 p0 1))
   (.must (decide (Ar.run .add .i64 p0 1 < (↑a13 : Int)))
   (.must (decide (0 + Int.toNat z0 < a13))
   (.must z1
   (.must z3
   (.must z4
   (.must z6
   (.must (AF.fin z16)
   (.ask (Cm.run .lss (Prod.snd z17) z15)
   (.leaf (.done (Prod.snd z17, 0) []))
   (.leaf (.next (.n0 z0 p1 p2 p3 p4 p5 p6 p7 p8) [3])))))))))))
   (.must z1
   (.must z3
   (.must z4
   (.must z6
   (.must (AF.fin z18)
   (.ask (Cm.run .lss (Prod.snd z19) p8)
   (.leaf (.done (Prod.snd z19, 0) []))
   (.leaf (.next (.n0 z0 p1 p2 p3 p4 p5 p6 p7 p8) [3]))))))))))))
   (.leaf (.done (p8, 0) []))

noncomputable def djuA (a0 : Bool) (a1 a2 a3 a4 : Int) (a5 : Nat) (a6 a7 : Nat → Int) (a8 : Nat) (a9 a10 a11 a12 : Nat → Int) (a13 : Nat) (a14 a15 : Nat → Int) : AF djuN djuR where
  code := djuCode
  base := 3
  nt := 83
  m := 400
  un := []
  W := []
  h0 := [(0, ⟨.arg a5 2 (fun i => [.int .i64 (.x (a6 i)), .int .i64 (.x (a7 i))]) (fun _ => ⟨rfl, rfl⟩), 2, true, none⟩), (1, ⟨.arg a8 4 (fun i => [.int .i64 (.x (a9 i)), .int .i64 (.x (a10 i)), .int .i64 (.x (a11 i)), .int .i64 (.x (a12 i))]) (fun _ => ⟨rfl, rfl⟩), 4, true, none⟩), (2, ⟨.arg a13 2 (fun i => [.int .i64 (.x (a14 i)), .int .i64 (.x (a15 i))]) (fun _ => ⟨rfl, rfl⟩), 2, true, none⟩)]
  args := [.agg [.bool (.x a0), .int .i64 (.x a1), .int .i64 (.x a2), .int .i64 (.x a3), .int .i64 (.x a4), .sla 0 2 0 a5], .sla 1 4 0 a8, .sla 2 2 0 a13]
  res := (Try.f34).results.toList
  path := fun a => match a with
   | .n0 p0 p1 p2 p3 p4 p5 p6 p7 p8 => [1, 1, 1, 1, 1, 1, 0, 1, 0]
  pd := fun a => match a with
   | .n0 p0 p1 p2 p3 p4 p5 p6 p7 p8 => ⟨[(2, .sla 2 2 0 a13), (8, .ptr (some (3, 0))), (42, .sla 2 2 0 a13), (43, .int .i64 (.x (↑a13))), (44, .int .i64 (.x p0))], [(3, ⟨.lit [.bool (.x p1), .int .i64 (.x p2), .int .i64 (.x p3), .int .i64 (.x p4), .int .i64 (.x p5), .sla 0 2 0 p6, .sla 1 4 0 p7, .int .i64 (.x p8)], 0, true, none⟩)], 4, []⟩
  D0 := djuD0 a0 a1 a2 a3 a4 a5 a6 a7 a8 a9 a10 a11 a12 a13 a14 a15
  D := djuD a0 a1 a2 a3 a4 a5 a6 a7 a8 a9 a10 a11 a12 a13 a14 a15
  rc := (fun v => .tup [.int .i64 (.x v.1), .int .i64 (.x v.2)])
  rh := (fun v => [])
  rn := (fun v => 3)
  rx := (fun v => [])
  rgo := (fun _ => none)
theorem djustart (a0 : Bool) (a1 a2 a3 a4 : Int) (a5 : Nat) (a6 a7 : Nat → Int) (a8 : Nat) (a9 a10 a11 a12 : Nat → Int) (a13 : Nat) (a14 a15 : Nat → Int) : AF.edgeOk (djuA a0 a1 a2 a3 a4 a5 a6 a7 a8 a9 a10 a11 a12 a13 a14 a15) (ctxOf Try.prog memo0) (djuD0 a0 a1 a2 a3 a4 a5 a6 a7 a8 a9 a10 a11 a12 a13 a14 a15) (AF.run0 (djuA a0 a1 a2 a3 a4 a5 a6 a7 a8 a9 a10 a11 a12 a13 a14 a15) (ctxOf Try.prog (memoS 75 dvpP dvpF dvpW dvpH 3 (memoS 67 drcP drcF drcW drcH 2 (memoP 63 dshP dshF dshW dshH 2 memo0))))) := by unfold AF.edgeOk; kernel_rfl
theorem djunode0 (a0 : Bool) (a1 a2 a3 a4 : Int) (a5 : Nat) (a6 a7 : Nat → Int) (a8 : Nat) (a9 a10 a11 a12 : Nat → Int) (a13 : Nat) (a14 a15 : Nat → Int) (p0 : Int) (p1 : Bool) (p2 p3 p4 p5 : Int) (p6 p7 : Nat) (p8 : Int) : AF.edgeOk (djuA a0 a1 a2 a3 a4 a5 a6 a7 a8 a9 a10 a11 a12 a13 a14 a15) (ctxOf Try.prog memo0) (djuD a0 a1 a2 a3 a4 a5 a6 a7 a8 a9 a10 a11 a12 a13 a14 a15 (.n0 p0 p1 p2 p3 p4 p5 p6 p7 p8)) (AF.runN (djuA a0 a1 a2 a3 a4 a5 a6 a7 a8 a9 a10 a11 a12 a13 a14 a15) (ctxOf Try.prog (memoS 75 dvpP dvpF dvpW dvpH 3 (memoS 67 drcP drcF drcW drcH 2 (memoP 63 dshP dshF dshW dshH 2 memo0)))) (.n0 p0 p1 p2 p3 p4 p5 p6 p7 p8)) := by unfold AF.edgeOk; kernel_rfl
theorem djuok (a0 : Bool) (a1 a2 a3 a4 : Int) (a5 : Nat) (a6 a7 : Nat → Int) (a8 : Nat) (a9 a10 a11 a12 : Nat → Int) (a13 : Nat) (a14 a15 : Nat → Int) : (djuA a0 a1 a2 a3 a4 a5 a6 a7 a8 a9 a10 a11 a12 a13 a14 a15).Ok Try.prog (ctxOf Try.prog (memoS 75 dvpP dvpF dvpW dvpH 3 (memoS 67 drcP drcF drcW drcH 2 (memoP 63 dshP dshF dshW dshH 2 memo0)))) where
  regs := by kernel_rfl
  h0 := by kernel_rfl
  start := djustart a0 a1 a2 a3 a4 a5 a6 a7 a8 a9 a10 a11 a12 a13 a14 a15
  node := fun a _ => match a with
   | .n0 p0 p1 p2 p3 p4 p5 p6 p7 p8 => djunode0 a0 a1 a2 a3 a4 a5 a6 a7 a8 a9 a10 a11 a12 a13 a14 a15 p0 p1 p2 p3 p4 p5 p6 p7 p8
  pd := fun a => match a with
   | .n0 p0 p1 p2 p3 p4 p5 p6 p7 p8 => ⟨(fa_cons rfl (fa_cons rfl (fa_cons rfl (fa_cons rfl (fa_cons rfl fa_nil))))), (fa_cons ⟨.inl (Nat.le_of_ble_eq_true rfl), rfl, rfl⟩ fa_nil), fa_nil, rfl⟩
  le := fun a => match a with
   | .n0 p0 p1 p2 p3 p4 p5 p6 p7 p8 => Nat.le_of_ble_eq_true rfl
  rd := fun v => ⟨⟨fa_nil, fa_nil, fa_nil, rfl⟩, rfl⟩
  wb := rfl
theorem djuhR {ρ : Env} (a0 : Bool) (a1 a2 a3 a4 : Int) (a5 : Nat) (a6 a7 : Nat → Int) (a8 : Nat) (a9 a10 a11 a12 : Nat → Int) (a13 : Nat) (a14 a15 : Nat → Int) (hM : MemoOk Try.prog (ctxOf Try.prog (memoS 75 dvpP dvpF dvpW dvpH 3 (memoS 67 drcP drcF drcW drcH 2 (memoP 63 dshP dshF dshW dshH 2 memo0)))) ρ) : ∀ X a q n D, FxOk ρ X → X.base = (djuA a0 a1 a2 a3 a4 a5 a6 a7 a8 a9 a10 a11 a12 a13 a14 a15).base → X.nt = (djuA a0 a1 a2 a3 a4 a5 a6 a7 a8 a9 a10 a11 a12 a13 a14 a15).nt → X.W = (djuA a0 a1 a2 a3 a4 a5 a6 a7 a8 a9 a10 a11 a12 a13 a14 a15).W → (djuA a0 a1 a2 a3 a4 a5 a6 a7 a8 a9 a10 a11 a12 a13 a14 a15).rgo a = some q → q n = some D → (djuA a0 a1 a2 a3 a4 a5 a6 a7 a8 a9 a10 a11 a12 a13 a14 a15).RangeOk Try.prog ρ X a D := AF.noRange rfl
theorem djuctr {ρ : Env} (a0 : Bool) (a1 a2 a3 a4 : Int) (a5 : Nat) (a6 a7 : Nat → Int) (a8 : Nat) (a9 a10 a11 a12 : Nat → Int) (a13 : Nat) (a14 a15 : Nat → Int) {n : Nat} {v : djuR} (hM : MemoOk Try.prog (ctxOf Try.prog (memoS 75 dvpP dvpF dvpW dvpH 3 (memoS 67 drcP drcF drcW drcH 2 (memoP 63 dshP dshF dshW dshH 2 memo0)))) ρ) (hv : (djuA a0 a1 a2 a3 a4 a5 a6 a7 a8 a9 a10 a11 a12 a13 a14 a15).run n = some v) :
    Ctr Try.prog ρ 34 (djuA a0 a1 a2 a3 a4 a5 a6 a7 a8 a9 a10 a11 a12 a13 a14 a15).args (djuA a0 a1 a2 a3 a4 a5 a6 a7 a8 a9 a10 a11 a12 a13 a14 a15).H0 (djuA a0 a1 a2 a3 a4 a5 a6 a7 a8 a9 a10 a11 a12 a13 a14 a15).base (djuA a0 a1 a2 a3 a4 a5 a6 a7 a8 a9 a10 a11 a12 a13 a14 a15).W ((djuA a0 a1 a2 a3 a4 a5 a6 a7 a8 a9 a10 a11 a12 a13 a14 a15).rc v) (putH (djuA a0 a1 a2 a3 a4 a5 a6 a7 a8 a9 a10 a11 a12 a13 a14 a15).H0 ((djuA a0 a1 a2 a3 a4 a5 a6 a7 a8 a9 a10 a11 a12 a13 a14 a15).rh v ++ (djuA a0 a1 a2 a3 a4 a5 a6 a7 a8 a9 a10 a11 a12 a13 a14 a15).rx v)) ((djuA a0 a1 a2 a3 a4 a5 a6 a7 a8 a9 a10 a11 a12 a13 a14 a15).rn v) :=
  AF.ctr try_ok hM (djuok a0 a1 a2 a3 a4 a5 a6 a7 a8 a9 a10 a11 a12 a13 a14 a15) (fn := Try.f34) Try.func34 rfl rfl (Nat.le_of_ble_eq_true rfl) rfl (djuhR a0 a1 a2 a3 a4 a5 a6 a7 a8 a9 a10 a11 a12 a13 a14 a15 hM) hv
theorem djumem {ρ : Env} : MemoOk Try.prog (ctxOf Try.prog (memoS 75 dvpP dvpF dvpW dvpH 3 (memoS 67 drcP drcF drcW drcH 2 (memoP 63 dshP dshF dshW dshH 2 memo0)))) ρ := (memoS_ok (dvpknown dvpmem) (memoS_ok (drcknown drcmem) (memoP_ok (dshknown dshmem) memo0_ok)))
abbrev djuP : List AQ := [.agg [.bool, .int .i64, .int .i64, .int .i64, .int .i64, .rows [some .i64, some .i64]], .rows [some .i64, some .i64, some .i64, some .i64], .rows [some .i64, some .i64]]
noncomputable def djuF (v : AW) : AF djuN djuR := djuA (v.b.getD 0 false) (v.i.getD 0 0) (v.i.getD 1 0) (v.i.getD 2 0) (v.i.getD 3 0) (v.t.getD 0 .none).n ((v.t.getD 0 .none).c 0) ((v.t.getD 0 .none).c 1) (v.t.getD 1 .none).n ((v.t.getD 1 .none).c 0) ((v.t.getD 1 .none).c 1) ((v.t.getD 1 .none).c 2) ((v.t.getD 1 .none).c 3) (v.t.getD 2 .none).n ((v.t.getD 2 .none).c 0) ((v.t.getD 2 .none).c 1)
noncomputable def djuW : djuR → CV := fun v => .tup [.int .i64 (.x v.1), .int .i64 (.x v.2)]
noncomputable def djuH : djuR → List (Nat × Blk) := fun v => []
instance : Inhabited djuR := ⟨(0, 0)⟩
theorem djuknown {ρ : Env} (hM : MemoOk Try.prog (ctxOf Try.prog (memoS 75 dvpP dvpF dvpW dvpH 3 (memoS 67 drcP drcF drcW drcH 2 (memoP 63 dshP dshF dshW dshH 2 memo0)))) ρ) : KnownS Try.prog ρ 34 djuP djuF djuW djuH 3 where
  fn := ⟨Try.f34, Try.func34, rfl⟩
  le := Nat.le_of_ble_eq_true rfl
  full := fun r => rfl
  rg := fun r => rfl
  hg := fun r => fa_nil
  ctr := fun v n r h => djuctr (v.b.getD 0 false) (v.i.getD 0 0) (v.i.getD 1 0) (v.i.getD 2 0) (v.i.getD 3 0) (v.t.getD 0 .none).n ((v.t.getD 0 .none).c 0) ((v.t.getD 0 .none).c 1) (v.t.getD 1 .none).n ((v.t.getD 1 .none).c 0) ((v.t.getD 1 .none).c 1) ((v.t.getD 1 .none).c 2) ((v.t.getD 1 .none).c 3) (v.t.getD 2 .none).n ((v.t.getD 2 .none).c 0) ((v.t.getD 2 .none).c 1) hM h
end Go.Proofs.Ythagjhadjpangaa.Cx

/- acme/acmeref07.Judge as an automaton. Made by tools/cxauto.py. -/
namespace Go.Proofs.Ythagjhadjpangaa.Cx
set_option linter.unusedVariables false
set_option linter.unusedSimpArgs false
set_option maxRecDepth 100000
open Go Go.Proofs Go.RowKit
abbrev rdjR := Int
instance : Inhabited rdjR := ⟨0⟩
end Go.Proofs.Ythagjhadjpangaa.Cx

/- Package die: Judge, the program's and the reference's. -/
namespace Go.Proofs.Ythagjhadjpangaa.Cx
set_option linter.unusedVariables false
set_option linter.unusedSimpArgs false
set_option maxRecDepth 100000
set_option maxHeartbeats 4000000
open Go Go.RowKit
/-- The piece p is sure with the setting before it. -/
def SureW (tl th : Int → Nat → Int) (n : Nat) (F G : Nat → Int) (p : Int) : Prop :=
  ∃ i : Nat, i < n ∧ F i ≤ p ∧ (i + 1 < n → p < F (i + 1)) ∧ tl (F i) (p - F i).toNat ≤ G i ∧ G i ≤ th (F i) (p - F i).toNat
theorem same_setting {n : Nat} {F : Nat → Int} {T p : Int} (ho : OrdS n F T) {i j : Nat} (hi : i < n) (hj : j < n) (h1 : F i ≤ p) (h2 : i + 1 < n → p < F (i + 1)) (h3 : F j ≤ p) (h4 : j + 1 < n → p < F (j + 1)) : i = j := by
  rcases Nat.lt_trichotomy i j with q | q | q
  · have a := h2 (by omega)
    by_cases he : i + 1 = j
    · rw [he] at a; omega
    · have := ho.asc (i := i + 1) j (by omega) hj
      omega
  · exact q
  · have a := h4 (by omega)
    by_cases he : j + 1 = i
    · rw [he] at a; omega
    · have := ho.asc (i := j + 1) i (by omega) hi
      omega
theorem just_pairs {t : Int} {tl th : Nat → Int} {m : Nat} : LoM t tl m ≤ HiM t th m ↔ ∀ j, j < m → tl j ≤ t ∧ t ≤ th j := by
  have a := LoM_mono (t := t) (tl := tl) (i := 0) m (by omega)
  have b := HiM_mono (t := t) (th := th) (i := 0) m (by omega)
  have c := LoM_le (t := t) (x := t) (tl := tl) m
  have d := HiM_ge (t := t) (x := t) (th := th) m
  simp only [LoM] at a
  simp only [HiM] at b
  constructor
  · intro h j hj
    exact ⟨(c.1 (by omega)).2 j hj, (d.1 (by omega)).2 j hj⟩
  · intro h
    have c' := c.2 ⟨Int.le_refl _, fun j hj => (h j hj).1⟩
    have d' := d.2 ⟨Int.le_refl _, fun j hj => (h j hj).2⟩
    omega
/-- A setting that goes over J pieces. -/
theorem just_reach {t : Int} {tl th : Nat → Int} {J : Nat} {d : Int} (j1 : (J : Int) ≤ d) (j2 : (J : Int) < d → LoM t tl (J + 1) > HiM t th (J + 1)) (j3 : 0 < J → LoM t tl J ≤ HiM t th J) : (∀ j, j < J → tl j ≤ t ∧ t ≤ th j) ∧ ((J : Int) < d → ¬ (tl J ≤ t ∧ t ≤ th J)) := by
  have a : ∀ j, j < J → tl j ≤ t ∧ t ≤ th j := fun j hj => just_pairs.1 (j3 (by omega)) j hj
  refine ⟨a, fun hd hx => ?_⟩
  have b := j2 hd
  have c := (just_pairs (t := t) (tl := tl) (th := th) (m := J + 1)).2 fun j hj => by
    by_cases he : j < J
    · exact a j he
    · obtain rfl : j = J := by omega
      exact hx
  omega
section
variable {a0 : Bool} {a1 a2 a3 a4 : Int} {a5 : Nat} {a6 a7 : Nat → Int} {a8 : Nat} {a9 a10 a11 a12 : Nat → Int} {a13 : Nat} {a14 a15 : Nat → Int}
/-- What Judge yields. -/
def JudE (a0 : Bool) (a1 a2 a3 a4 : Int) (a5 : Nat) (a6 a7 : Nat → Int) (a8 : Nat) (a9 a10 a11 a12 : Nat → Int) (a13 : Nat) (a14 a15 : Nat → Int) (v : Int × Int) : Prop :=
  ∃ e, CkS a5 a8 (ToolOk a5 a6 a7 a1 a2 a3 a4) a9 a10 a11 a12 e ∧ (e ≠ 0 ∧ v = (0, e) ∨ e = 0 ∧ (a13 > 1000 ∧ v = (0, 5) ∨ a13 ≤ 1000 ∧ (¬ SetS a13 a14 a15 (PS a9 a8) ∧ v = (0, 2) ∨
    SetS a13 a14 a15 (PS a9 a8) ∧ ∃ r, FstN (SureW (tlP a0 a1 a3 a6 a7 a10 a9 a11 a8) (thP a0 a2 a4 a6 a7 a10 a9 a12 a8) a13 a14 a15) (PS a9 a8) r ∧ v = (r, 0))))
theorem dju_val (hn : a5 ≤ 10000) (hm : a8 ≤ 10000) (hk : a13 ≤ 10000) : AF.fin (djuA a0 a1 a2 a3 a4 a5 a6 a7 a8 a9 a10 a11 a12 a13 a14 a15) = true ∧ JudE a0 a1 a2 a3 a4 a5 a6 a7 a8 a9 a10 a11 a12 a13 a14 a15 (AF.val (djuA a0 a1 a2 a3 a4 a5 a6 a7 a8 a9 a10 a11 a12 a13 a14 a15)) := by
  obtain ⟨hf, e, hC, hv⟩ := dsh_val (a0 := a0) (a1 := a1) (a2 := a2) (a3 := a3) (a4 := a4) (a5 := a5) (a6 := a6) (a7 := a7) (a8 := a8) (a9 := a9) (a10 := a10) (a11 := a11) (a12 := a12) hn hm
  refine AF.val_sat (E := JudE a0 a1 a2 a3 a4 a5 a6 a7 a8 a9 a10 a11 a12 a13 a14 a15) (Inv := fun b => match b with | .n0 p p0 p1 p2 p3 p4 p5 p6 p7 => (p0 = a0 ∧ p1 = a1 ∧ p2 = a2 ∧ p3 = a3 ∧ p4 = a4 ∧ p5 = a5 ∧ p6 = a8 ∧ p7 = PS a9 a8) ∧ e = 0 ∧ a13 ≤ 1000 ∧ SetS a13 a14 a15 (PS a9 a8) ∧ 0 ≤ p ∧ p ≤ a13 ∧ ∀ q, 0 ≤ q → q < (if p < a13 then a14 p.toNat else PS a9 a8) → SureW (tlP a0 a1 a3 a6 a7 a10 a9 a11 a8) (thP a0 a2 a4 a6 a7 a10 a9 a12 a8) a13 a14 a15 q)
    (fun b => match b with | .n0 p p0 p1 p2 p3 p4 p5 p6 p7 => (a13 - p).toNat) (fun _ => rfl) (fun a hI => ?_) ?_
  · cases a with
    | n0 p p0 p1 p2 p3 p4 p5 p6 p7 =>
      obtain ⟨⟨rfl, rfl, rfl, rfl, rfl, rfl, rfl, rfl⟩, rfl, hk', ho, g0, g1, g2⟩ := hI
      have job := hC.job
      have r := PS_rng job.pc p6 (Nat.le_refl _)
      have few := job.few
      have ans : ∀ r, FstN (SureW (tlP p0 p1 p3 a6 a7 a10 a9 a11 p6) (thP p0 p2 p4 a6 a7 a10 a9 a12 p6) a13 a14 a15) (PS a9 p6) r → JudE p0 p1 p2 p3 p4 p5 a6 a7 p6 a9 a10 a11 a12 a13 a14 a15 (r, 0) := fun r hr => ⟨0, hC, .inr ⟨rfl, .inr ⟨hk', .inr ⟨ho, r, hr, rfl⟩⟩⟩⟩
      show DD.sat _ _ (djuD p0 p1 p2 p3 p4 p5 a6 a7 p6 a9 a10 a11 a12 a13 a14 a15 (.n0 p p0 p1 p2 p3 p4 p5 p6 (PS a9 p6)))
      unfold djuD
      by_cases hq : p < a13
      · have e1 : Ar.run .add .i64 p 1 = p + 1 := arAdd (by omega)
        have b1 := ho.1.1 p.toNat (by omega)
        rw [if_pos hq] at g2
        have e2 : (p + 1).toNat = p.toNat + 1 := by omega
        have go : ∀ nx, a14 p.toNat ≤ nx → nx ≤ PS a9 p6 → (nx = if p + 1 < a13 then a14 (p + 1).toNat else PS a9 p6) → AF.fin (drcA p0 p1 p2 p3 p4 p5 a6 a7 p6 a9 a10 a11 a12 (PS a9 p6) (a15 p.toNat) (a15 p.toNat) (a14 p.toNat) nx) = true ∧ ∃ x y z, AF.val (drcA p0 p1 p2 p3 p4 p5 (fun i => a6 i) (fun i => a7 i) p6 (fun i => a9 i) (fun i => a10 i) (fun i => a11 i) (fun i => a12 i) (PS a9 p6) (a15 p.toNat) (a15 p.toNat) (a14 p.toNat) nx) = (x, y, z) ∧
            (z < nx → FstN (SureW (tlP p0 p1 p3 a6 a7 a10 a9 a11 p6) (thP p0 p2 p4 a6 a7 a10 a9 a12 p6) a13 a14 a15) (PS a9 p6) z) ∧ (nx ≤ z → ∀ q, 0 ≤ q → q < nx → SureW (tlP p0 p1 p3 a6 a7 a10 a9 a11 p6) (thP p0 p2 p4 a6 a7 a10 a9 a12 p6) a13 a14 a15 q) := fun nx n1 n2 hnx => by
          obtain ⟨rf, x, y, z, rv, J, j1, j2, j3, rfl, rfl, rfl⟩ := drc_gen (a0 := p0) (a13 := PS a9 p6) (a14 := a15 p.toNat) (a15 := a15 p.toNat) (a16 := a14 p.toNat) (a17 := nx) job b1.1 n1 n2
          obtain ⟨s1, s2⟩ := just_reach j1 j2 j3
          have lim : ∀ q, q < nx → p.toNat + 1 < a13 → q < a14 (p.toNat + 1) := fun q hq1 hx => by
            rw [if_pos (by omega), e2] at hnx
            omega
          have sure : ∀ q, 0 ≤ q → q < a14 p.toNat + J → q < nx → SureW (tlP p0 p1 p3 a6 a7 a10 a9 a11 p6) (thP p0 p2 p4 a6 a7 a10 a9 a12 p6) a13 a14 a15 q := fun q q0 q1 q2 => by
            by_cases hl : q < a14 p.toNat
            · exact g2 q q0 hl
            · have s := s1 (q - a14 p.toNat).toNat (by omega)
              exact ⟨p.toNat, by omega, by omega, lim q q2, s.1, s.2⟩
          refine ⟨rf, _, _, _, rv, fun hz => ⟨by omega, by omega, fun q q0 q1 => sure q q0 q1 (by omega), fun hz2 => ?_⟩, fun hz q q0 q1 => sure q q0 (by omega) q1⟩
          rintro ⟨i, i1, i2, i3, i4, i5⟩
          obtain rfl := same_setting ho.1 (i := p.toNat) (j := i) (p := a14 p.toNat + J) (by omega) i1 (by omega) (lim _ hz) i2 i3
          have e3 : (a14 p.toNat + J - a14 p.toNat).toNat = J := by omega
          rw [e3] at i4 i5
          exact s2 (by omega) ⟨i4, i5⟩
        by_cases hq2 : p + 1 < a13
        · have b2 := ho.1.1 (p.toNat + 1) (by omega)
          have b3 := ho.1.2 p.toNat (by omega)
          obtain ⟨rf, x, y, z, rv, z1, z2⟩ := go (a14 (p.toNat + 1)) (by omega) (by omega) (by rw [if_pos hq2, e2])
          simp only [DD.sat, Nat.zero_add, cmLss, cmLssF, cmLeq, cmLeqF, cmGtr, cmGtrF, cmGeq, cmGeqF, cmEql, cmEqlF, cmNeq, cmNeqF, decide_eq_true_eq, Bool.not_eq_true', Bool.not_eq_false', e1, e2, rv]
          refine ⟨fun _ => ⟨g0, hq, by omega, fun _ => ⟨by omega, hq2, by omega, Nat.le_refl _, shape_ok fun i _ => rfl, Nat.le_refl _, shape_ok fun i _ => rfl, rf, fun hz => ans z (z1 hz), fun hz => ⟨⟨(by repeat' (first | trivial | exact rfl | apply And.intro)), trivial, hk', ho, by omega, by omega, ?_⟩, by omega⟩⟩, fun hx => by omega⟩, fun hx => by omega⟩
          rw [if_pos hq2]
          exact z2 hz
        · obtain ⟨rf, x, y, z, rv, z1, z2⟩ := go (PS a9 p6) (by omega) (Int.le_refl _) (by rw [if_neg hq2])
          simp only [DD.sat, Nat.zero_add, cmLss, cmLssF, cmLeq, cmLeqF, cmGtr, cmGtrF, cmGeq, cmGeqF, cmEql, cmEqlF, cmNeq, cmNeqF, decide_eq_true_eq, Bool.not_eq_true', Bool.not_eq_false', e1, e2, rv]
          refine ⟨fun _ => ⟨g0, hq, by omega, fun hx => by omega, fun _ => ⟨Nat.le_refl _, shape_ok fun i _ => rfl, Nat.le_refl _, shape_ok fun i _ => rfl, rf, fun hz => ans z (z1 hz), fun hz => ⟨⟨(by repeat' (first | trivial | exact rfl | apply And.intro)), trivial, hk', ho, by omega, by omega, ?_⟩, by omega⟩⟩⟩, fun hx => by omega⟩
          rw [if_neg hq2]
          exact z2 hz
      · rw [if_neg hq] at g2
        simp only [DD.sat, Nat.zero_add, cmLss, cmLssF, cmLeq, cmLeqF, cmGtr, cmGtrF, cmGeq, cmGeqF, cmEql, cmEqlF, cmNeq, cmNeqF, decide_eq_true_eq, Bool.not_eq_true', Bool.not_eq_false']
        exact ⟨fun hx => by omega, fun _ => ans (PS a9 p6) ⟨by omega, Int.le_refl _, g2, fun hx => by omega⟩⟩
  · show DD.sat _ _ (djuD0 a0 a1 a2 a3 a4 a5 a6 a7 a8 a9 a10 a11 a12 a13 a14 a15)
    unfold djuD0
    rcases hv with ⟨he, hv⟩ | ⟨rfl, hv⟩
    · have hv' : AF.val (dshA a0 a1 a2 a3 a4 a5 (fun i => a6 i) (fun i => a7 i) a8 (fun i => a9 i) (fun i => a10 i) (fun i => a11 i) (fun i => a12 i)) = .r0 e := hv
      simp only [DD.sat, Nat.zero_add, cmLss, cmLssF, cmLeq, cmLeqF, cmGtr, cmGtrF, cmGeq, cmGeqF, cmEql, cmEqlF, cmNeq, cmNeqF, decide_eq_true_eq, Bool.not_eq_true', Bool.not_eq_false', hv', dshw8]
      refine ⟨Nat.le_refl _, shape_ok fun i _ => rfl, Nat.le_refl _, shape_ok fun i _ => rfl, hf, fun _ => ⟨e, hC, .inl ⟨he, rfl⟩⟩, fun hx => absurd hx he⟩
    · have hv' : AF.val (dshA a0 a1 a2 a3 a4 a5 (fun i => a6 i) (fun i => a7 i) a8 (fun i => a9 i) (fun i => a10 i) (fun i => a11 i) (fun i => a12 i)) = .r1 a0 a1 a2 a3 a4 a5 a8 (PS a9 a8) := hv
      have job := hC.job
      have r := PS_rng job.pc a8 (Nat.le_refl _)
      have few := job.few
      simp only [DD.sat, Nat.zero_add, cmLss, cmLssF, cmLeq, cmLeqF, cmGtr, cmGtrF, cmGeq, cmGeqF, cmEql, cmEqlF, cmNeq, cmNeqF, decide_eq_true_eq, Bool.not_eq_true', Bool.not_eq_false', hv', dshw0, dshw1, dshw2, dshw3, dshw4, dshw5, dshw6, dshw7, dshw8]
      refine ⟨Nat.le_refl _, shape_ok fun i _ => rfl, Nat.le_refl _, shape_ok fun i _ => rfl, hf, fun hx => absurd rfl hx, fun _ => ⟨fun h => ⟨0, hC, .inr ⟨rfl, .inl ⟨by omega, rfl⟩⟩⟩, fun h1 => ?_⟩⟩
      obtain ⟨of, ov⟩ := dvp_val (a0 := a0) (a1 := a1) (a2 := a2) (a3 := a3) (a4 := a4) (a5 := a5) (a6 := a6) (a7 := a7) (a8 := a8) (a9 := a9) (a10 := a10) (a11 := a11) (a12 := a12) (a13 := PS a9 a8) (a14 := a13) (a15 := a14) (a16 := a15) (by omega) (by omega)
      have ovE : AF.val (dvpA a0 a1 a2 a3 a4 a5 (fun i => a6 i) (fun i => a7 i) a8 (fun i => a9 i) (fun i => a10 i) (fun i => a11 i) (fun i => a12 i) (PS a9 a8) a13 (fun i => a14 i) (fun i => a15 i)) = true ↔ SetS a13 a14 a15 (PS a9 a8) := ov
      have none : AF.val (dvpA a0 a1 a2 a3 a4 a5 (fun i => a6 i) (fun i => a7 i) a8 (fun i => a9 i) (fun i => a10 i) (fun i => a11 i) (fun i => a12 i) (PS a9 a8) a13 (fun i => a14 i) (fun i => a15 i)) = true → (a13 = 0 ∨ 0 < a13 ∧ a14 0 > 0) → JudE a0 a1 a2 a3 a4 a5 a6 a7 a8 a9 a10 a11 a12 a13 a14 a15 (0, 0) := fun hb hz => ⟨0, hC, .inr ⟨rfl, .inr ⟨by omega, .inr ⟨ovE.1 hb, 0, ⟨Int.le_refl _, by omega, fun k k0 k1 => by omega, fun _ => ?_⟩, rfl⟩⟩⟩⟩
      · refine ⟨Nat.le_refl _, shape_ok fun i _ => rfl, Nat.le_refl _, shape_ok fun i _ => rfl, Nat.le_refl _, shape_ok fun i _ => rfl, of, fun hb => ⟨0, hC, .inr ⟨rfl, .inr ⟨by omega, .inl ⟨fun k => ?_, rfl⟩⟩⟩⟩, fun hb => ⟨fun hz => none hb (.inl (by omega)), fun hz => ⟨trivial, by omega, by omega, fun h0 => none hb (.inr ⟨by omega, h0⟩), fun h0 => ⟨(by repeat' (first | trivial | exact rfl | apply And.intro)), trivial, by omega, ovE.1 hb, Int.le_refl _, by omega, fun q q0 q1 => ?_⟩⟩⟩⟩
        · rw [ovE.2 k] at hb
          cases hb
        · rw [if_pos (by omega)] at q1
          have e0 : (0 : Int).toNat = 0 := rfl
          rw [e0] at q1 h0
          omega
      · rintro ⟨i, i1, i2, i3, i4, i5⟩
        rcases hz with hz | ⟨hz, h0⟩
        · omega
        · by_cases he : i = 0
          · subst he; omega
          · have := (ovE.1 hb).1.asc (i := 0) i (by omega) i1
            omega
end
end Go.Proofs.Ythagjhadjpangaa.Cx

/- Package die: what chains of settings that go as far as they can make sure. -/
namespace Go.Proofs.Ythagjhadjpangaa.Cx
set_option linter.unusedVariables false
set_option linter.unusedSimpArgs false
set_option maxRecDepth 100000
set_option maxHeartbeats 4000000
open Go Go.RowKit
theorem Chn.at' {T : Int} {lo hi : Int → Nat → Int} {k : Nat} {f : Int} {F G : Nat → Int} (h : Chn T lo hi k f F G) : ∃ E : Nat → Int, E 0 = 0 ∧ E k = f ∧ (∀ i, i < k → F i = E i ∧ E i < E (i + 1) ∧ E (i + 1) ≤ T ∧ CanP lo hi (E i) (E (i + 1)) ∧ G i = lo (E i) (E (i + 1) - E i).toNat) ∧ ∀ i, i ≤ k → 0 ≤ E i := by
  obtain ⟨E, e0, ek, h⟩ := h
  have st : ∀ i, i < k → F i = E i ∧ E i < E (i + 1) ∧ E (i + 1) ≤ T ∧ CanP lo hi (E i) (E (i + 1)) ∧ G i = lo (E i) (E (i + 1) - E i).toNat := fun i hi => by
    obtain ⟨a, J, j0, r, e, g⟩ := h i hi
    have en : (E (i + 1) - E i).toNat = J := by omega
    have r1 := r.1
    refine ⟨a, by omega, by omega, ?_, ?_⟩
    · unfold CanP; rw [en]; exact r.2.2 j0
    · rw [en]; exact g
  refine ⟨E, e0, ek, st, fun i => ?_⟩
  induction i with
  | zero => intro _; omega
  | succ i ih =>
    intro hi
    have a := ih (by omega)
    have b := (st i (by omega)).2.1
    omega
section
variable {b : Bool} {s1 s2 c1 c2 : Int} {n : Nat} {w1 w2 : Nat → Int} {m : Nat} {pc st zl zh : Nat → Int} {f : Int} {j k : Nat} {F G : Nat → Int}
theorem JobOk.first (h : JobOk s1 s2 c1 c2 n w1 w2 m pc st zl zh) (h0 : 0 ≤ f) (h1 : f < PS pc m) : -2000000 ≤ tlP b s1 c1 w1 w2 st pc zl m f 0 ∧ thP b s2 c2 w1 w2 st pc zh m f 0 ≤ 10002000000 := by
  have t := (h.at' (x := f) h0 h1).2.2.1
  obtain ⟨_, _, q1, q2⟩ := h.tool
  unfold VOk at q1 q2
  unfold tlP thP gL gH
  simp only [WSum]
  rw [show f + ((0 : Nat) : Int) = f by omega]
  cases b <;> simp only [cond_true, cond_false] <;> omega
theorem JobOk.lobd (h : JobOk s1 s2 c1 c2 n w1 w2 m pc st zl zh) (h0 : 0 ≤ f) (hk : 0 < k) (h1 : f + k ≤ PS pc m) : (-2000000 ≤ (loJ b s1 c1 w1 w2 m pc st zl) f k ∧ (loJ b s1 c1 w1 w2 m pc st zl) f k ≤ 100000000000) ∧ (-100000000000 ≤ (hiJ b s2 c2 w1 w2 m pc st zh) f k ∧ (hiJ b s2 c2 w1 w2 m pc st zh) f k ≤ 10002000000) := by
  have a := h.first (b := b) h0 (by omega)
  have e1 := ((LoM_le (t := -1152921504606846976) (tl := tlP b s1 c1 w1 w2 st pc zl m f) k).1 (Int.le_refl _)).2 0 hk
  have e2 := ((HiM_ge (t := 1152921504606846976) (th := thP b s2 c2 w1 w2 st pc zh m f) k).1 (Int.le_refl _)).2 0 hk
  have b1 := (LoM_le (t := -1152921504606846976) (x := 100000000000) (tl := tlP b s1 c1 w1 w2 st pc zl m f) k).2 ⟨by omega, fun j hj => (h.tbd (a0 := b) (j := j) h0 (by omega)).1.2⟩
  have b2 := (HiM_ge (t := 1152921504606846976) (x := -100000000000) (th := thP b s2 c2 w1 w2 st pc zh m f) k).2 ⟨by omega, fun j hj => (h.tbd (a0 := b) (j := j) h0 (by omega)).2.1⟩
  unfold loJ hiJ
  omega
theorem chn_set (h : JobOk s1 s2 c1 c2 n w1 w2 m pc st zl zh) (hc : Chn (PS pc m) (loJ b s1 c1 w1 w2 m pc st zl) (hiJ b s2 c2 w1 w2 m pc st zh) k (PS pc m) F G) : SetS k F G (PS pc m) := by
  obtain ⟨E, e0, ek, st, nn⟩ := hc.at'
  refine ⟨⟨fun i hi => ?_, fun i hi => ?_⟩, fun i hi => ?_⟩
  · have a := st i hi
    have b := nn i (by omega)
    omega
  · have a := st i (by omega)
    have b := st (i + 1) hi
    omega
  · obtain ⟨a1, a2, a3, a4, a5⟩ := st i (by omega)
    have b1 := nn i (by omega)
    have d := h.lobd (b := b) (f := E i) (k := (E (i + 1) - E i).toNat) b1 (by omega) (by omega)
    unfold CanP at a4
    rw [a5]
    omega
end
end Go.Proofs.Ythagjhadjpangaa.Cx

/- acme/die.Most as an automaton. Made by tools/cxauto.py. -/
namespace Go.Proofs.Ythagjhadjpangaa.Cx
set_option linter.unusedVariables false
set_option linter.unusedSimpArgs false
set_option maxRecDepth 100000
open Go Go.Proofs Go.RowKit
noncomputable abbrev dmoCode : Code := funcCode Try.f30
noncomputable abbrev dmos0Code : Code := funcCode Try.f92
inductive dmos0N where
  | n0 (q0 q1 : Int)
inductive dmos0R where
  | r0 (q0 q1 : Int)
  | r1 (q0 q1 : Int)
noncomputable def dmos0D0 (a0 : Bool) (a1 a2 a3 a4 : Int) (a5 : Nat) (a6 a7 : Nat → Int) (a8 : Nat) (a9 a10 a11 a12 : Nat → Int) (a13 : Int) (p0 : Bool) (p1 p2 p3 p4 : Int) (p5 p6 : Nat) (p7 : Int) : DD (Lf dmos0N dmos0R) :=
 .leaf (.next (.n0 0 a13) [])

noncomputable def dmos0D (a0 : Bool) (a1 a2 a3 a4 : Int) (a5 : Nat) (a6 a7 : Nat → Int) (a8 : Nat) (a9 a10 a11 a12 : Nat → Int) (a13 : Int) (p0 : Bool) (p1 p2 p3 p4 : Int) (p5 p6 : Nat) (p7 : Int) : dmos0N → DD (Lf dmos0N dmos0R)
 | .n0 q0 q1 =>
 let z0 := fun i => [CV.int IntKind.i64 (IE.x (a6 (0 + i))), CV.int IntKind.i64 (IE.x (a7 (0 + i)))]
 let z1 := fun i => [CV.int IntKind.i64 (IE.x (a9 (0 + i))), CV.int IntKind.i64 (IE.x (a10 (0 + i))), CV.int IntKind.i64 (IE.x (a11 (0 + i))), CV.int IntKind.i64 (IE.x (a12 (0 + i)))]
 let z2 := drcA p0 p1 p2 p3 p4 p5 (fun i => a6 (0 + i)) (fun i => a7 (0 + i)) p6 (fun i => a9 (0 + i)) (fun i => a10 (0 + i)) (fun i => a11 (0 + i)) (fun i => a12 (0 + i)) p7 (-10000000000) 20000000000 q0 p7
 let z3 := Prod.snd (Prod.snd (AF.val z2))
 .ask (Cm.run .lss q0 p7)
   (.must (decide (0 + p5 ≤ a5))
   (.must (ShapeOk [some IntKind.i64, some IntKind.i64] (tabOf p5 z0) z0)
   (.must (decide (0 + p6 ≤ a8))
   (.must (ShapeOk [some IntKind.i64, some IntKind.i64, some IntKind.i64, some IntKind.i64] (tabOf p6 z1) z1)
   (.must (AF.fin z2)
   (.ask (Cm.run .eql z3 q0)
   (.leaf (.done (.r0 q1 q0) []))
   (.ask (Cm.run .eql q1 0)
   (.leaf (.done (.r1 q1 q0) []))
   (.leaf (.next (.n0 z3 (Ar.run .sub .i64 q1 1)) [])))))))))
   (.leaf (.done (.r0 q1 q0) []))

noncomputable def dmos0A (a0 : Bool) (a1 a2 a3 a4 : Int) (a5 : Nat) (a6 a7 : Nat → Int) (a8 : Nat) (a9 a10 a11 a12 : Nat → Int) (a13 : Int) (p0 : Bool) (p1 p2 p3 p4 : Int) (p5 p6 : Nat) (p7 : Int) : AF dmos0N dmos0R where
  code := dmos0Code
  base := 6
  nt := 33
  m := 400
  un := []
  W := [2, 3, 5]
  h0 := ((5, recB (mkT [(5, .ptr (some (2, 0))), (10, .ptr (some (3, 0))), (27, .fn (.func 92) [] [.ptr (some (4, 0))])]) 36 (rgP (codeAt dmoCode [1, 1, 1, 1, 1, 0, 1, 0])) (rgA (codeAt dmoCode [1, 1, 1, 1, 1, 0, 1, 0])) (rgB (codeAt dmoCode [1, 1, 1, 1, 1, 0, 1, 0]))) :: (([(2, ⟨.lit [.int .i64 (.x a13)], 0, true, none⟩), (3, ⟨.lit [.int .i64 (.x 0)], 0, true, none⟩), (4, ⟨.lit [.bool (.x p0), .int .i64 (.x p1), .int .i64 (.x p2), .int .i64 (.x p3), .int .i64 (.x p4), .sla 0 2 0 p5, .sla 1 4 0 p6, .int .i64 (.x p7)], 0, true, none⟩)] ++ []) ++ [(0, ⟨.arg a5 2 (fun i => [.int .i64 (.x (a6 i)), .int .i64 (.x (a7 i))]) (fun _ => ⟨rfl, rfl⟩), 2, true, none⟩), (1, ⟨.arg a8 4 (fun i => [.int .i64 (.x (a9 i)), .int .i64 (.x (a10 i)), .int .i64 (.x (a11 i)), .int .i64 (.x (a12 i))]) (fun _ => ⟨rfl, rfl⟩), 4, true, none⟩)]))
  args := [.yld 5, .ptr (some (4, 0))]
  res := (Try.f92).results.toList
  path := fun a => match a with
   | .n0 q0 q1 => [1, 0]
  pd := fun a => match a with
   | .n0 q0 q1 => ⟨[(0, .yld 5), (1, .ptr (some (4, 0))), (3, .int .i64 (.x q0))], [(2, ⟨.lit [.int .i64 (.x q1)], 0, true, none⟩), (3, ⟨.lit [.int .i64 (.x q0)], 0, true, none⟩)], 6, [(5, recS (mkT [(5, .ptr (some (2, 0))), (10, .ptr (some (3, 0))), (27, .fn (.func 92) [] [.ptr (some (4, 0))])]) 36 (rgP (codeAt dmoCode [1, 1, 1, 1, 1, 0, 1, 0])) (rgA (codeAt dmoCode [1, 1, 1, 1, 1, 0, 1, 0])) (rgB (codeAt dmoCode [1, 1, 1, 1, 1, 0, 1, 0])) (.ready) (.none))]⟩
  D0 := dmos0D0 a0 a1 a2 a3 a4 a5 a6 a7 a8 a9 a10 a11 a12 a13 p0 p1 p2 p3 p4 p5 p6 p7
  D := dmos0D a0 a1 a2 a3 a4 a5 a6 a7 a8 a9 a10 a11 a12 a13 p0 p1 p2 p3 p4 p5 p6 p7
  rc := (fun v => match v with
 | .r0 q0 q1 => .tup []
 | .r1 q0 q1 => .tup [])
  rh := (fun v => match v with
 | .r0 q0 q1 => [(2, ⟨.lit [.int .i64 (.x q0)], 0, true, none⟩), (3, ⟨.lit [.int .i64 (.x q1)], 0, true, none⟩)]
 | .r1 q0 q1 => [(2, ⟨.lit [.int .i64 (.x q0)], 0, true, none⟩), (3, ⟨.lit [.int .i64 (.x q1)], 0, true, none⟩)])
  rn := (fun v => match v with
 | .r0 q0 q1 => 6
 | .r1 q0 q1 => 6)
  rx := (fun v => match v with
 | .r0 q0 q1 => [(5, recS (mkT [(5, .ptr (some (2, 0))), (10, .ptr (some (3, 0))), (27, .fn (.func 92) [] [.ptr (some (4, 0))])]) 36 (rgP (codeAt dmoCode [1, 1, 1, 1, 1, 0, 1, 0])) (rgA (codeAt dmoCode [1, 1, 1, 1, 1, 0, 1, 0])) (rgB (codeAt dmoCode [1, 1, 1, 1, 1, 0, 1, 0])) (.ready) (.none))]
 | .r1 q0 q1 => [(5, recS (mkT [(5, .ptr (some (2, 0))), (10, .ptr (some (3, 0))), (27, .fn (.func 92) [] [.ptr (some (4, 0))])]) 36 (rgP (codeAt dmoCode [1, 1, 1, 1, 1, 0, 1, 0])) (rgA (codeAt dmoCode [1, 1, 1, 1, 1, 0, 1, 0])) (rgB (codeAt dmoCode [1, 1, 1, 1, 1, 0, 1, 0])) (.done) ((.some (.exit 0))))])
  rgo := (fun _ => none)
theorem dmos0start (a0 : Bool) (a1 a2 a3 a4 : Int) (a5 : Nat) (a6 a7 : Nat → Int) (a8 : Nat) (a9 a10 a11 a12 : Nat → Int) (a13 : Int) (p0 : Bool) (p1 p2 p3 p4 : Int) (p5 p6 : Nat) (p7 : Int) : AF.edgeOk (dmos0A a0 a1 a2 a3 a4 a5 a6 a7 a8 a9 a10 a11 a12 a13 p0 p1 p2 p3 p4 p5 p6 p7) (ctxOf Try.prog memo0) (dmos0D0 a0 a1 a2 a3 a4 a5 a6 a7 a8 a9 a10 a11 a12 a13 p0 p1 p2 p3 p4 p5 p6 p7) (AF.run0 (dmos0A a0 a1 a2 a3 a4 a5 a6 a7 a8 a9 a10 a11 a12 a13 p0 p1 p2 p3 p4 p5 p6 p7) (ctxOf Try.prog (memoS 67 drcP drcF drcW drcH 2 (memoP 63 dshP dshF dshW dshH 2 memo0)))) := by unfold AF.edgeOk; kernel_rfl
theorem dmos0node0 (a0 : Bool) (a1 a2 a3 a4 : Int) (a5 : Nat) (a6 a7 : Nat → Int) (a8 : Nat) (a9 a10 a11 a12 : Nat → Int) (a13 : Int) (p0 : Bool) (p1 p2 p3 p4 : Int) (p5 p6 : Nat) (p7 q0 q1 : Int) : AF.edgeOk (dmos0A a0 a1 a2 a3 a4 a5 a6 a7 a8 a9 a10 a11 a12 a13 p0 p1 p2 p3 p4 p5 p6 p7) (ctxOf Try.prog memo0) (dmos0D a0 a1 a2 a3 a4 a5 a6 a7 a8 a9 a10 a11 a12 a13 p0 p1 p2 p3 p4 p5 p6 p7 (.n0 q0 q1)) (AF.runN (dmos0A a0 a1 a2 a3 a4 a5 a6 a7 a8 a9 a10 a11 a12 a13 p0 p1 p2 p3 p4 p5 p6 p7) (ctxOf Try.prog (memoS 67 drcP drcF drcW drcH 2 (memoP 63 dshP dshF dshW dshH 2 memo0))) (.n0 q0 q1)) := by unfold AF.edgeOk; kernel_rfl
theorem dmos0ok (a0 : Bool) (a1 a2 a3 a4 : Int) (a5 : Nat) (a6 a7 : Nat → Int) (a8 : Nat) (a9 a10 a11 a12 : Nat → Int) (a13 : Int) (p0 : Bool) (p1 p2 p3 p4 : Int) (p5 p6 : Nat) (p7 : Int) : (dmos0A a0 a1 a2 a3 a4 a5 a6 a7 a8 a9 a10 a11 a12 a13 p0 p1 p2 p3 p4 p5 p6 p7).Ok Try.prog (ctxOf Try.prog (memoS 67 drcP drcF drcW drcH 2 (memoP 63 dshP dshF dshW dshH 2 memo0))) where
  regs := by kernel_rfl
  h0 := by kernel_rfl
  start := dmos0start a0 a1 a2 a3 a4 a5 a6 a7 a8 a9 a10 a11 a12 a13 p0 p1 p2 p3 p4 p5 p6 p7
  node := fun a _ => match a with
   | .n0 q0 q1 => dmos0node0 a0 a1 a2 a3 a4 a5 a6 a7 a8 a9 a10 a11 a12 a13 p0 p1 p2 p3 p4 p5 p6 p7 q0 q1
  pd := fun a => match a with
   | .n0 q0 q1 => ⟨(fa_cons rfl (fa_cons rfl (fa_cons rfl fa_nil))), (fa_cons ⟨.inr (memW rfl), rfl, rfl⟩ (fa_cons ⟨.inr (memW rfl), rfl, rfl⟩ fa_nil)), (fa_cons ⟨memW rfl, RecOk.of rfl⟩ fa_nil), rfl⟩
  le := fun a => match a with
   | .n0 q0 q1 => Nat.le_of_ble_eq_true rfl
  rd := fun v => match v with
   | .r0 q0 q1 => ⟨⟨fa_nil, (fa_cons ⟨.inr (memW rfl), rfl, rfl⟩ (fa_cons ⟨.inr (memW rfl), rfl, rfl⟩ fa_nil)), (fa_cons ⟨memW rfl, RecOk.of rfl⟩ fa_nil), rfl⟩, rfl⟩
   | .r1 q0 q1 => ⟨⟨fa_nil, (fa_cons ⟨.inr (memW rfl), rfl, rfl⟩ (fa_cons ⟨.inr (memW rfl), rfl, rfl⟩ fa_nil)), (fa_cons ⟨memW rfl, RecOk.of rfl⟩ fa_nil), rfl⟩, rfl⟩
  wb := rfl
theorem dmos0hR {ρ : Env} (a0 : Bool) (a1 a2 a3 a4 : Int) (a5 : Nat) (a6 a7 : Nat → Int) (a8 : Nat) (a9 a10 a11 a12 : Nat → Int) (a13 : Int) (p0 : Bool) (p1 p2 p3 p4 : Int) (p5 p6 : Nat) (p7 : Int) (hM : MemoOk Try.prog (ctxOf Try.prog (memoS 67 drcP drcF drcW drcH 2 (memoP 63 dshP dshF dshW dshH 2 memo0))) ρ) : ∀ X a q n D, FxOk ρ X → X.base = (dmos0A a0 a1 a2 a3 a4 a5 a6 a7 a8 a9 a10 a11 a12 a13 p0 p1 p2 p3 p4 p5 p6 p7).base → X.nt = (dmos0A a0 a1 a2 a3 a4 a5 a6 a7 a8 a9 a10 a11 a12 a13 p0 p1 p2 p3 p4 p5 p6 p7).nt → X.W = (dmos0A a0 a1 a2 a3 a4 a5 a6 a7 a8 a9 a10 a11 a12 a13 p0 p1 p2 p3 p4 p5 p6 p7).W → (dmos0A a0 a1 a2 a3 a4 a5 a6 a7 a8 a9 a10 a11 a12 a13 p0 p1 p2 p3 p4 p5 p6 p7).rgo a = some q → q n = some D → (dmos0A a0 a1 a2 a3 a4 a5 a6 a7 a8 a9 a10 a11 a12 a13 p0 p1 p2 p3 p4 p5 p6 p7).RangeOk Try.prog ρ X a D := AF.noRange rfl
inductive dmoN where
  | n0 (p0 : Bool) (p1 p2 p3 p4 : Int) (p5 p6 : Nat) (p7 : Int)
abbrev dmoR := Int × Int
noncomputable def dmoD0 (a0 : Bool) (a1 a2 a3 a4 : Int) (a5 : Nat) (a6 a7 : Nat → Int) (a8 : Nat) (a9 a10 a11 a12 : Nat → Int) (a13 : Int) : DD (Lf dmoN dmoR) :=
 let z0 := fun i => [CV.int IntKind.i64 (IE.x (a6 (0 + i))), CV.int IntKind.i64 (IE.x (a7 (0 + i)))]
 let z1 := fun i => [CV.int IntKind.i64 (IE.x (a9 (0 + i))), CV.int IntKind.i64 (IE.x (a10 (0 + i))), CV.int IntKind.i64 (IE.x (a11 (0 + i))), CV.int IntKind.i64 (IE.x (a12 (0 + i)))]
 let z2 := dshA a0 a1 a2 a3 a4 a5 (fun i => a6 (0 + i)) (fun i => a7 (0 + i)) a8 (fun i => a9 (0 + i)) (fun i => a10 (0 + i)) (fun i => a11 (0 + i)) (fun i => a12 (0 + i))
 let z3 := AF.val z2
 .must (decide (0 + a5 ≤ a5))
   (.must (ShapeOk [some IntKind.i64, some IntKind.i64] (tabOf a5 z0) z0)
   (.must (decide (0 + a8 ≤ a8))
   (.must (ShapeOk [some IntKind.i64, some IntKind.i64, some IntKind.i64, some IntKind.i64] (tabOf a8 z1) z1)
   (.must (AF.fin z2)
   (.ask (Cm.run .neq (dshw8 z3) 0)
   (.leaf (.done (0, dshw8 z3) []))
   (.ask (Cm.run .lss a13 0)
   (.leaf (.done (0, 3) []))
   (.ask (Cm.run .gtr a13 1000)
   (.leaf (.done (0, 3) []))
   (.leaf (.next (.n0 (dshw0 z3) (dshw1 z3) (dshw2 z3) (dshw3 z3) (dshw4 z3) (dshw5 z3) (dshw6 z3) (dshw7 z3)) [3, 8, 9])))))))))

noncomputable def dmoD (a0 : Bool) (a1 a2 a3 a4 : Int) (a5 : Nat) (a6 a7 : Nat → Int) (a8 : Nat) (a9 a10 a11 a12 : Nat → Int) (a13 : Int) : dmoN → DD (Lf dmoN dmoR)
 | .n0 p0 p1 p2 p3 p4 p5 p6 p7 =>
 .dead

noncomputable def dmoRg0 (a0 : Bool) (a1 a2 a3 a4 : Int) (a5 : Nat) (a6 a7 : Nat → Int) (a8 : Nat) (a9 a10 a11 a12 : Nat → Int) (a13 : Int) (p0 : Bool) (p1 p2 p3 p4 : Int) (p5 p6 : Nat) (p7 : Int) : dmos0R → DD (Lf dmoN dmoR)
 | .r0 q0 q1 =>
 .leaf (.done (q1, 0) [])
 | .r1 q0 q1 =>
 .leaf (.done (q1, 0) [])

noncomputable def dmoA (a0 : Bool) (a1 a2 a3 a4 : Int) (a5 : Nat) (a6 a7 : Nat → Int) (a8 : Nat) (a9 a10 a11 a12 : Nat → Int) (a13 : Int) : AF dmoN dmoR where
  code := dmoCode
  base := 2
  nt := 36
  m := 400
  un := [1000008]
  W := []
  h0 := [(0, ⟨.arg a5 2 (fun i => [.int .i64 (.x (a6 i)), .int .i64 (.x (a7 i))]) (fun _ => ⟨rfl, rfl⟩), 2, true, none⟩), (1, ⟨.arg a8 4 (fun i => [.int .i64 (.x (a9 i)), .int .i64 (.x (a10 i)), .int .i64 (.x (a11 i)), .int .i64 (.x (a12 i))]) (fun _ => ⟨rfl, rfl⟩), 4, true, none⟩)]
  args := [.agg [.bool (.x a0), .int .i64 (.x a1), .int .i64 (.x a2), .int .i64 (.x a3), .int .i64 (.x a4), .sla 0 2 0 a5], .sla 1 4 0 a8, .int .i64 (.x a13)]
  res := (Try.f30).results.toList
  path := fun a => match a with
   | .n0 p0 p1 p2 p3 p4 p5 p6 p7 => [1, 1, 1, 1, 1, 0, 1, 0]
  pd := fun a => match a with
   | .n0 p0 p1 p2 p3 p4 p5 p6 p7 => ⟨[(5, .ptr (some (2, 0))), (10, .ptr (some (3, 0))), (27, .fn (.func 92) [] [.ptr (some (4, 0))])], [(2, ⟨.lit [.int .i64 (.x a13)], 0, true, none⟩), (3, ⟨.lit [.int .i64 (.x 0)], 0, true, none⟩), (4, ⟨.lit [.bool (.x p0), .int .i64 (.x p1), .int .i64 (.x p2), .int .i64 (.x p3), .int .i64 (.x p4), .sla 0 2 0 p5, .sla 1 4 0 p6, .int .i64 (.x p7)], 0, true, none⟩)], 5, []⟩
  D0 := dmoD0 a0 a1 a2 a3 a4 a5 a6 a7 a8 a9 a10 a11 a12 a13
  D := dmoD a0 a1 a2 a3 a4 a5 a6 a7 a8 a9 a10 a11 a12 a13
  rc := (fun v => .tup [.int .i64 (.x v.1), .int .i64 (.x v.2)])
  rh := (fun v => [])
  rn := (fun v => 2)
  rx := (fun v => [])
  rgo := (fun a => match a with
   | .n0 p0 p1 p2 p3 p4 p5 p6 p7 => some (fun n => (AF.run (dmos0A a0 a1 a2 a3 a4 a5 a6 a7 a8 a9 a10 a11 a12 a13 p0 p1 p2 p3 p4 p5 p6 p7) n).map (dmoRg0 a0 a1 a2 a3 a4 a5 a6 a7 a8 a9 a10 a11 a12 a13 p0 p1 p2 p3 p4 p5 p6 p7)))
theorem dmostart (a0 : Bool) (a1 a2 a3 a4 : Int) (a5 : Nat) (a6 a7 : Nat → Int) (a8 : Nat) (a9 a10 a11 a12 : Nat → Int) (a13 : Int) : AF.edgeOk (dmoA a0 a1 a2 a3 a4 a5 a6 a7 a8 a9 a10 a11 a12 a13) (ctxOf Try.prog memo0) (dmoD0 a0 a1 a2 a3 a4 a5 a6 a7 a8 a9 a10 a11 a12 a13) (AF.run0 (dmoA a0 a1 a2 a3 a4 a5 a6 a7 a8 a9 a10 a11 a12 a13) (ctxOf Try.prog (memoS 67 drcP drcF drcW drcH 2 (memoP 63 dshP dshF dshW dshH 2 memo0)))) := by unfold AF.edgeOk; kernel_rfl
theorem dmook (a0 : Bool) (a1 a2 a3 a4 : Int) (a5 : Nat) (a6 a7 : Nat → Int) (a8 : Nat) (a9 a10 a11 a12 : Nat → Int) (a13 : Int) : (dmoA a0 a1 a2 a3 a4 a5 a6 a7 a8 a9 a10 a11 a12 a13).Ok Try.prog (ctxOf Try.prog (memoS 67 drcP drcF drcW drcH 2 (memoP 63 dshP dshF dshW dshH 2 memo0))) where
  regs := by kernel_rfl
  h0 := by kernel_rfl
  start := dmostart a0 a1 a2 a3 a4 a5 a6 a7 a8 a9 a10 a11 a12 a13
  node := fun a h => match a, h with
   | .n0 p0 p1 p2 p3 p4 p5 p6 p7, h => someNe h
  pd := fun a => match a with
   | .n0 p0 p1 p2 p3 p4 p5 p6 p7 => ⟨(fa_cons rfl (fa_cons rfl (fa_cons rfl fa_nil))), (fa_cons ⟨.inl (Nat.le_of_ble_eq_true rfl), rfl, rfl⟩ (fa_cons ⟨.inl (Nat.le_of_ble_eq_true rfl), rfl, rfl⟩ (fa_cons ⟨.inl (Nat.le_of_ble_eq_true rfl), rfl, rfl⟩ fa_nil))), fa_nil, rfl⟩
  le := fun a => match a with
   | .n0 p0 p1 p2 p3 p4 p5 p6 p7 => Nat.le_of_ble_eq_true rfl
  rd := fun v => ⟨⟨fa_nil, fa_nil, fa_nil, rfl⟩, rfl⟩
  wb := rfl
theorem dmorg0_0 (a0 : Bool) (a1 a2 a3 a4 : Int) (a5 : Nat) (a6 a7 : Nat → Int) (a8 : Nat) (a9 a10 a11 a12 : Nat → Int) (a13 : Int) (p0 : Bool) (p1 p2 p3 p4 : Int) (p5 p6 : Nat) (p7 q0 q1 : Int) : AF.edgeOk (dmoA a0 a1 a2 a3 a4 a5 a6 a7 a8 a9 a10 a11 a12 a13) (ctxOf Try.prog memo0) (dmoRg0 a0 a1 a2 a3 a4 a5 a6 a7 a8 a9 a10 a11 a12 a13 p0 p1 p2 p3 p4 p5 p6 p7 (.r0 q0 q1)) (AF.runR (dmoA a0 a1 a2 a3 a4 a5 a6 a7 a8 a9 a10 a11 a12 a13) (ctxOf Try.prog (memoS 67 drcP drcF drcW drcH 2 (memoP 63 dshP dshF dshW dshH 2 memo0))) (.n0 p0 p1 p2 p3 p4 p5 p6 p7) (putH (dmos0A a0 a1 a2 a3 a4 a5 a6 a7 a8 a9 a10 a11 a12 a13 p0 p1 p2 p3 p4 p5 p6 p7).H0 ((dmos0A a0 a1 a2 a3 a4 a5 a6 a7 a8 a9 a10 a11 a12 a13 p0 p1 p2 p3 p4 p5 p6 p7).rh (.r0 q0 q1) ++ (dmos0A a0 a1 a2 a3 a4 a5 a6 a7 a8 a9 a10 a11 a12 a13 p0 p1 p2 p3 p4 p5 p6 p7).rx (.r0 q0 q1))) ((dmos0A a0 a1 a2 a3 a4 a5 a6 a7 a8 a9 a10 a11 a12 a13 p0 p1 p2 p3 p4 p5 p6 p7).rn (.r0 q0 q1)) ⟨mkT [(5, .ptr (some (2, 0))), (10, .ptr (some (3, 0))), (27, .fn (.func 92) [] [.ptr (some (4, 0))])], 36, rgP (codeAt dmoCode [1, 1, 1, 1, 1, 0, 1, 0]), rgA (codeAt dmoCode [1, 1, 1, 1, 1, 0, 1, 0]), rgB (codeAt dmoCode [1, 1, 1, 1, 1, 0, 1, 0]), .ready, .none⟩ .normal) := by unfold AF.edgeOk; kernel_rfl
theorem dmorg0_1 (a0 : Bool) (a1 a2 a3 a4 : Int) (a5 : Nat) (a6 a7 : Nat → Int) (a8 : Nat) (a9 a10 a11 a12 : Nat → Int) (a13 : Int) (p0 : Bool) (p1 p2 p3 p4 : Int) (p5 p6 : Nat) (p7 q0 q1 : Int) : AF.edgeOk (dmoA a0 a1 a2 a3 a4 a5 a6 a7 a8 a9 a10 a11 a12 a13) (ctxOf Try.prog memo0) (dmoRg0 a0 a1 a2 a3 a4 a5 a6 a7 a8 a9 a10 a11 a12 a13 p0 p1 p2 p3 p4 p5 p6 p7 (.r1 q0 q1)) (AF.runR (dmoA a0 a1 a2 a3 a4 a5 a6 a7 a8 a9 a10 a11 a12 a13) (ctxOf Try.prog (memoS 67 drcP drcF drcW drcH 2 (memoP 63 dshP dshF dshW dshH 2 memo0))) (.n0 p0 p1 p2 p3 p4 p5 p6 p7) (putH (dmos0A a0 a1 a2 a3 a4 a5 a6 a7 a8 a9 a10 a11 a12 a13 p0 p1 p2 p3 p4 p5 p6 p7).H0 ((dmos0A a0 a1 a2 a3 a4 a5 a6 a7 a8 a9 a10 a11 a12 a13 p0 p1 p2 p3 p4 p5 p6 p7).rh (.r1 q0 q1) ++ (dmos0A a0 a1 a2 a3 a4 a5 a6 a7 a8 a9 a10 a11 a12 a13 p0 p1 p2 p3 p4 p5 p6 p7).rx (.r1 q0 q1))) ((dmos0A a0 a1 a2 a3 a4 a5 a6 a7 a8 a9 a10 a11 a12 a13 p0 p1 p2 p3 p4 p5 p6 p7).rn (.r1 q0 q1)) ⟨mkT [(5, .ptr (some (2, 0))), (10, .ptr (some (3, 0))), (27, .fn (.func 92) [] [.ptr (some (4, 0))])], 36, rgP (codeAt dmoCode [1, 1, 1, 1, 1, 0, 1, 0]), rgA (codeAt dmoCode [1, 1, 1, 1, 1, 0, 1, 0]), rgB (codeAt dmoCode [1, 1, 1, 1, 1, 0, 1, 0]), .done, (.some (.exit 0))⟩ (.exit 0)) := by unfold AF.edgeOk; kernel_rfl
theorem dmorg0 (a0 : Bool) (a1 a2 a3 a4 : Int) (a5 : Nat) (a6 a7 : Nat → Int) (a8 : Nat) (a9 a10 a11 a12 : Nat → Int) (a13 : Int) (p0 : Bool) (p1 p2 p3 p4 : Int) (p5 p6 : Nat) (p7 : Int) : AF.Rg (dmoA a0 a1 a2 a3 a4 a5 a6 a7 a8 a9 a10 a11 a12 a13) (dmos0A a0 a1 a2 a3 a4 a5 a6 a7 a8 a9 a10 a11 a12 a13 p0 p1 p2 p3 p4 p5 p6 p7) Try.prog (ctxOf Try.prog (memoS 67 drcP drcF drcW drcH 2 (memoP 63 dshP dshF dshW dshH 2 memo0))) (ctxOf Try.prog (memoS 67 drcP drcF drcW drcH 2 (memoP 63 dshP dshF dshW dshH 2 memo0))) (.n0 p0 p1 p2 p3 p4 p5 p6 p7) (rgF (codeAt dmoCode [1, 1, 1, 1, 1, 0, 1, 0])) (rgP (codeAt dmoCode [1, 1, 1, 1, 1, 0, 1, 0])) (rgA (codeAt dmoCode [1, 1, 1, 1, 1, 0, 1, 0])) (rgB (codeAt dmoCode [1, 1, 1, 1, 1, 0, 1, 0])) 92 Try.f92 [] [.ptr (some (4, 0))] (fun v => match v with
   | .r0 q0 q1 => ⟨mkT [(5, .ptr (some (2, 0))), (10, .ptr (some (3, 0))), (27, .fn (.func 92) [] [.ptr (some (4, 0))])], 36, rgP (codeAt dmoCode [1, 1, 1, 1, 1, 0, 1, 0]), rgA (codeAt dmoCode [1, 1, 1, 1, 1, 0, 1, 0]), rgB (codeAt dmoCode [1, 1, 1, 1, 1, 0, 1, 0]), .ready, .none⟩
   | .r1 q0 q1 => ⟨mkT [(5, .ptr (some (2, 0))), (10, .ptr (some (3, 0))), (27, .fn (.func 92) [] [.ptr (some (4, 0))])], 36, rgP (codeAt dmoCode [1, 1, 1, 1, 1, 0, 1, 0]), rgA (codeAt dmoCode [1, 1, 1, 1, 1, 0, 1, 0]), rgB (codeAt dmoCode [1, 1, 1, 1, 1, 0, 1, 0]), .done, (.some (.exit 0))⟩) (fun v => match v with
   | .r0 q0 q1 => .normal
   | .r1 q0 q1 => (.exit 0)) (dmoRg0 a0 a1 a2 a3 a4 a5 a6 a7 a8 a9 a10 a11 a12 a13 p0 p1 p2 p3 p4 p5 p6 p7) where
  code := by kernel_rfl
  fn := by kernel_rfl
  args := rfl
  base := rfl
  h0 := rfl
  W := rfl
  gfn := Try.func92
  body := rfl
  nt := rfl
  len := Nat.le_of_ble_eq_true rfl
  res := rfl
  ok := dmos0ok a0 a1 a2 a3 a4 a5 a6 a7 a8 a9 a10 a11 a12 a13 p0 p1 p2 p3 p4 p5 p6 p7
  le := fun v => match v with
   | .r0 q0 q1 => Nat.le_of_ble_eq_true rfl
   | .r1 q0 q1 => Nat.le_of_ble_eq_true rfl
  lt := fun v => match v with
   | .r0 q0 q1 => rfl
   | .r1 q0 q1 => rfl
  rcd := fun v => match v with
   | .r0 q0 q1 => rfl
   | .r1 q0 q1 => rfl
  st := fun v => match v with
   | .r0 q0 q1 => (fun h => LoopState.noConfusion h)
   | .r1 q0 q1 => (fun h => LoopState.noConfusion h)
  exd := fun v => match v with
   | .r0 q0 q1 => rfl
   | .r1 q0 q1 => rfl
  D := fun v => match v with
   | .r0 q0 q1 => dmorg0_0 a0 a1 a2 a3 a4 a5 a6 a7 a8 a9 a10 a11 a12 a13 p0 p1 p2 p3 p4 p5 p6 p7 q0 q1
   | .r1 q0 q1 => dmorg0_1 a0 a1 a2 a3 a4 a5 a6 a7 a8 a9 a10 a11 a12 a13 p0 p1 p2 p3 p4 p5 p6 p7 q0 q1
theorem dmohR {ρ : Env} (a0 : Bool) (a1 a2 a3 a4 : Int) (a5 : Nat) (a6 a7 : Nat → Int) (a8 : Nat) (a9 a10 a11 a12 : Nat → Int) (a13 : Int) (hM : MemoOk Try.prog (ctxOf Try.prog (memoS 67 drcP drcF drcW drcH 2 (memoP 63 dshP dshF dshW dshH 2 memo0))) ρ) : ∀ X a q n D, FxOk ρ X → X.base = (dmoA a0 a1 a2 a3 a4 a5 a6 a7 a8 a9 a10 a11 a12 a13).base → X.nt = (dmoA a0 a1 a2 a3 a4 a5 a6 a7 a8 a9 a10 a11 a12 a13).nt → X.W = (dmoA a0 a1 a2 a3 a4 a5 a6 a7 a8 a9 a10 a11 a12 a13).W → (dmoA a0 a1 a2 a3 a4 a5 a6 a7 a8 a9 a10 a11 a12 a13).rgo a = some q → q n = some D → (dmoA a0 a1 a2 a3 a4 a5 a6 a7 a8 a9 a10 a11 a12 a13).RangeOk Try.prog ρ X a D := by
  intro X a q n D h1 h2 h3 h4 hq hD
  cases a with
  | n0 p0 p1 p2 p3 p4 p5 p6 p7 =>
    have e := Option.some.inj hq
    subst e
    exact AF.range_ok (n := n) try_ok hM hM (dmook a0 a1 a2 a3 a4 a5 a6 a7 a8 a9 a10 a11 a12 a13) (dmorg0 a0 a1 a2 a3 a4 a5 a6 a7 a8 a9 a10 a11 a12 a13 p0 p1 p2 p3 p4 p5 p6 p7) (dmos0hR a0 a1 a2 a3 a4 a5 a6 a7 a8 a9 a10 a11 a12 a13 p0 p1 p2 p3 p4 p5 p6 p7 hM) h1 h2 h3 h4 hD
theorem dmoctr {ρ : Env} (a0 : Bool) (a1 a2 a3 a4 : Int) (a5 : Nat) (a6 a7 : Nat → Int) (a8 : Nat) (a9 a10 a11 a12 : Nat → Int) (a13 : Int) {n : Nat} {v : dmoR} (hM : MemoOk Try.prog (ctxOf Try.prog (memoS 67 drcP drcF drcW drcH 2 (memoP 63 dshP dshF dshW dshH 2 memo0))) ρ) (hv : (dmoA a0 a1 a2 a3 a4 a5 a6 a7 a8 a9 a10 a11 a12 a13).run n = some v) :
    Ctr Try.prog ρ 30 (dmoA a0 a1 a2 a3 a4 a5 a6 a7 a8 a9 a10 a11 a12 a13).args (dmoA a0 a1 a2 a3 a4 a5 a6 a7 a8 a9 a10 a11 a12 a13).H0 (dmoA a0 a1 a2 a3 a4 a5 a6 a7 a8 a9 a10 a11 a12 a13).base (dmoA a0 a1 a2 a3 a4 a5 a6 a7 a8 a9 a10 a11 a12 a13).W ((dmoA a0 a1 a2 a3 a4 a5 a6 a7 a8 a9 a10 a11 a12 a13).rc v) (putH (dmoA a0 a1 a2 a3 a4 a5 a6 a7 a8 a9 a10 a11 a12 a13).H0 ((dmoA a0 a1 a2 a3 a4 a5 a6 a7 a8 a9 a10 a11 a12 a13).rh v ++ (dmoA a0 a1 a2 a3 a4 a5 a6 a7 a8 a9 a10 a11 a12 a13).rx v)) ((dmoA a0 a1 a2 a3 a4 a5 a6 a7 a8 a9 a10 a11 a12 a13).rn v) :=
  AF.ctr try_ok hM (dmook a0 a1 a2 a3 a4 a5 a6 a7 a8 a9 a10 a11 a12 a13) (fn := Try.f30) Try.func30 rfl rfl (Nat.le_of_ble_eq_true rfl) rfl (dmohR a0 a1 a2 a3 a4 a5 a6 a7 a8 a9 a10 a11 a12 a13 hM) hv
theorem dmomem {ρ : Env} : MemoOk Try.prog (ctxOf Try.prog (memoS 67 drcP drcF drcW drcH 2 (memoP 63 dshP dshF dshW dshH 2 memo0))) ρ := (memoS_ok (drcknown drcmem) (memoP_ok (dshknown dshmem) memo0_ok))
abbrev dmoP : List AQ := [.agg [.bool, .int .i64, .int .i64, .int .i64, .int .i64, .rows [some .i64, some .i64]], .rows [some .i64, some .i64, some .i64, some .i64], .int .i64]
noncomputable def dmoF (v : AW) : AF dmoN dmoR := dmoA (v.b.getD 0 false) (v.i.getD 0 0) (v.i.getD 1 0) (v.i.getD 2 0) (v.i.getD 3 0) (v.t.getD 0 .none).n ((v.t.getD 0 .none).c 0) ((v.t.getD 0 .none).c 1) (v.t.getD 1 .none).n ((v.t.getD 1 .none).c 0) ((v.t.getD 1 .none).c 1) ((v.t.getD 1 .none).c 2) ((v.t.getD 1 .none).c 3) (v.i.getD 4 0)
noncomputable def dmoW : dmoR → CV := fun v => .tup [.int .i64 (.x v.1), .int .i64 (.x v.2)]
noncomputable def dmoH : dmoR → List (Nat × Blk) := fun v => []
instance : Inhabited dmoR := ⟨(0, 0)⟩
theorem dmoknown {ρ : Env} (hM : MemoOk Try.prog (ctxOf Try.prog (memoS 67 drcP drcF drcW drcH 2 (memoP 63 dshP dshF dshW dshH 2 memo0))) ρ) : KnownS Try.prog ρ 30 dmoP dmoF dmoW dmoH 2 where
  fn := ⟨Try.f30, Try.func30, rfl⟩
  le := Nat.le_of_ble_eq_true rfl
  full := fun r => rfl
  rg := fun r => rfl
  hg := fun r => fa_nil
  ctr := fun v n r h => dmoctr (v.b.getD 0 false) (v.i.getD 0 0) (v.i.getD 1 0) (v.i.getD 2 0) (v.i.getD 3 0) (v.t.getD 0 .none).n ((v.t.getD 0 .none).c 0) ((v.t.getD 0 .none).c 1) (v.t.getD 1 .none).n ((v.t.getD 1 .none).c 0) ((v.t.getD 1 .none).c 1) ((v.t.getD 1 .none).c 2) ((v.t.getD 1 .none).c 3) (v.i.getD 4 0) hM h
end Go.Proofs.Ythagjhadjpangaa.Cx

/- acme/acmeref07.Fewest as an automaton. Made by tools/cxauto.py. -/
namespace Go.Proofs.Ythagjhadjpangaa.Cx
set_option linter.unusedVariables false
set_option linter.unusedSimpArgs false
set_option maxRecDepth 100000
open Go Go.Proofs Go.RowKit
noncomputable abbrev rdfCode : Code := funcCode Try.f74
inductive rdfN where
  | n0 (p0 : Nat) (p1 : Int) (p2 : Nat → Int)
  | n1 (p0 p1 : Nat) (p2 p3 p4 : Int) (p5 : Nat) (p6 : Nat → Int)
abbrev rdfR := Nat × (Nat → Int)
noncomputable def rdfD0 (a0 : Bool) (a1 a2 a3 a4 : Int) (a5 : Nat) (a6 a7 : Nat → Int) (a8 : Nat) (a9 a10 a11 a12 : Nat → Int) : DD (Lf rdfN rdfR) :=
 .leaf (.next (.n0 1 1 (fun i => 0)) [2, 3])

noncomputable def rdfD (a0 : Bool) (a1 a2 a3 a4 : Int) (a5 : Nat) (a6 a7 : Nat → Int) (a8 : Nat) (a9 a10 a11 a12 : Nat → Int) : rdfN → DD (Lf rdfN rdfR)
 | .n0 p0 p1 p2 =>
 let z0 := fun i => [CV.int IntKind.i64 (IE.x (a9 (0 + i))), CV.int IntKind.i64 (IE.x (a10 (0 + i))), CV.int IntKind.i64 (IE.x (a11 (0 + i))), CV.int IntKind.i64 (IE.x (a12 (0 + i)))]
 let z1 := rdaA a8 (fun i => a9 (0 + i)) (fun i => a10 (0 + i)) (fun i => a11 (0 + i)) (fun i => a12 (0 + i))
 .must (decide (0 + a8 ≤ a8))
   (.must (ShapeOk [some IntKind.i64, some IntKind.i64, some IntKind.i64, some IntKind.i64] (tabOf a8 z0) z0)
   (.must (AF.fin z1)
   (.ask (Cm.run .leq p1 (AF.val z1))
   (.leaf (.next (.n1 p0 p0 p1 1000000 (Ar.run .sub .i64 p1 1) p0 (fun i => p2 i)) [2, 3]))
   (.leaf (.done (p0, (fun i => p2 i)) [3])))))
 | .n1 p0 p1 p2 p3 p4 p5 p6 =>
 let z0 := decide (0 ≤ p4)
 let z1 := decide (0 + Int.toNat p4 < p5)
 let z2 := p6 (0 + Int.toNat p4)
 let z3 := fun i => [CV.int IntKind.i64 (IE.x (a6 (0 + i))), CV.int IntKind.i64 (IE.x (a7 (0 + i)))]
 let z4 := fun i => [CV.int IntKind.i64 (IE.x (a9 (0 + i))), CV.int IntKind.i64 (IE.x (a10 (0 + i))), CV.int IntKind.i64 (IE.x (a11 (0 + i))), CV.int IntKind.i64 (IE.x (a12 (0 + i)))]
 let z5 := rdtA a0 a1 a2 a3 a4 a5 (fun i => a6 (0 + i)) (fun i => a7 (0 + i)) a8 (fun i => a9 (0 + i)) (fun i => a10 (0 + i)) (fun i => a11 (0 + i)) (fun i => a12 (0 + i)) p4 p2
 let z6 := AF.val z5
 let z7 := Ar.run .sub .i64 p4 1
 .ask (Cm.run .geq p4 0)
   (.must z0
   (.must (decide (p4 < (↑p0 : Int)))
   (.must z1
   (.ask (Cm.run .lss z2 1000000)
   (.must (decide (0 + a5 ≤ a5))
   (.must (ShapeOk [some IntKind.i64, some IntKind.i64] (tabOf a5 z3) z3)
   (.must (decide (0 + a8 ≤ a8))
   (.must (ShapeOk [some IntKind.i64, some IntKind.i64, some IntKind.i64, some IntKind.i64] (tabOf a8 z4) z4)
   (.must (AF.fin z5)
   (.ask (Cm.run .leq (Prod.fst z6) (Prod.snd z6))
   (.must z0
   (.must (decide (p4 < (↑p0 : Int)))
   (.must z1
   (.leaf (.next (.n1 p0 p1 p2 (Ar.run .mn .i64 p3 (Ar.run .add .i64 z2 1)) z7 p5 (fun i => p6 i)) [2, 3])))))
   (.leaf (.next (.n1 p0 p1 p2 p3 z7 p5 (fun i => p6 i)) [2, 3]))))))))
   (.leaf (.next (.n1 p0 p1 p2 p3 z7 p5 (fun i => p6 i)) [2, 3]))))))
   (.must (decide (0 + p0 ≤ p5))
   (.must (decide (p0 + 1 ≤ 10000))
   (.leaf (.next (.n0 (p0 + 1) (Ar.run .add .i64 p2 1) (fun i => bif Nat.blt i p0 then p6 (0 + i) else p3)) [2, 5]))))

noncomputable def rdfA (a0 : Bool) (a1 a2 a3 a4 : Int) (a5 : Nat) (a6 a7 : Nat → Int) (a8 : Nat) (a9 a10 a11 a12 : Nat → Int) : AF rdfN rdfR where
  code := rdfCode
  base := 2
  nt := 46
  m := 400
  un := []
  W := []
  h0 := [(0, ⟨.arg a5 2 (fun i => [.int .i64 (.x (a6 i)), .int .i64 (.x (a7 i))]) (fun _ => ⟨rfl, rfl⟩), 2, true, none⟩), (1, ⟨.arg a8 4 (fun i => [.int .i64 (.x (a9 i)), .int .i64 (.x (a10 i)), .int .i64 (.x (a11 i)), .int .i64 (.x (a12 i))]) (fun _ => ⟨rfl, rfl⟩), 4, true, none⟩)]
  args := [.agg [.bool (.x a0), .int .i64 (.x a1), .int .i64 (.x a2), .int .i64 (.x a3), .int .i64 (.x a4), .sla 0 2 0 a5], .sla 1 4 0 a8]
  res := (Try.f74).results.toList
  path := fun a => match a with
   | .n0 p0 p1 p2 => [1, 1, 0, 1, 0]
   | .n1 p0 p1 p2 p3 p4 p5 p6 => [1, 1, 0, 1, 0, 0, 1, 0, 0, 1, 0, 1, 0]
  pd := fun a => match a with
   | .n0 p0 p1 p2 => ⟨[(1, .sla 1 4 0 a8), (2, .ptr (some (2, 0))), (5, .slx 3 1 0 p0 p0), (6, .int .i64 (.x p1))], [(2, ⟨.lit [.bool (.x a0), .int .i64 (.x a1), .int .i64 (.x a2), .int .i64 (.x a3), .int .i64 (.x a4), .sla 0 2 0 a5], 0, true, none⟩), (3, ⟨.rows p0 1 (fun i => [.int .i64 (.x (p2 i))]) (fun _ => ⟨rfl, rfl⟩), 1, true, none⟩)], 4, []⟩
   | .n1 p0 p1 p2 p3 p4 p5 p6 => ⟨[(1, .sla 1 4 0 a8), (2, .ptr (some (2, 0))), (5, .slx 3 1 0 p0 p1), (6, .int .i64 (.x p2)), (7, .int .i64 (.x p3)), (8, .int .i64 (.x p4))], [(2, ⟨.lit [.bool (.x a0), .int .i64 (.x a1), .int .i64 (.x a2), .int .i64 (.x a3), .int .i64 (.x a4), .sla 0 2 0 a5], 0, true, none⟩), (3, ⟨.rows p5 1 (fun i => [.int .i64 (.x (p6 i))]) (fun _ => ⟨rfl, rfl⟩), 1, true, none⟩)], 4, []⟩
  D0 := rdfD0 a0 a1 a2 a3 a4 a5 a6 a7 a8 a9 a10 a11 a12
  D := rdfD a0 a1 a2 a3 a4 a5 a6 a7 a8 a9 a10 a11 a12
  rc := (fun v => .slx 2 1 0 v.1 v.1)
  rh := (fun v => [(2, ⟨.rows v.1 1 (fun i => [.int .i64 (.x (v.2 i))]) (fun _ => ⟨rfl, rfl⟩), 1, true, none⟩)])
  rn := (fun v => 3)
  rx := (fun v => [])
  rgo := (fun _ => none)
instance : Inhabited rdfR := ⟨(0, fun _ => 0)⟩
end Go.Proofs.Ythagjhadjpangaa.Cx

/- acme/acmeref07.Most as an automaton. Made by tools/cxauto.py. -/
namespace Go.Proofs.Ythagjhadjpangaa.Cx
set_option linter.unusedVariables false
set_option linter.unusedSimpArgs false
set_option maxRecDepth 100000
open Go Go.Proofs Go.RowKit
abbrev rdmR := Int
instance : Inhabited rdmR := ⟨0⟩
end Go.Proofs.Ythagjhadjpangaa.Cx

/- A CALL THAT IS KNOWN BY A RUN OF ITS OWN: the evaluator runs it once, in a small memory that holds its arguments' blocks; wherever the same arguments come up, with blocks that hold the same, it yields the same. So a long run is many short ones, each a theorem of its own. -/
namespace Go.Proofs.Ythagjhadjpangaa.Cx
set_option linter.unusedSimpArgs false
set_option linter.unusedVariables false
open Go Go.RowKit
mutual
/-- The same value, where block b is called β b. -/
def CV.eqv (β : Nat → Nat) (N : Nat) : CV → CV → Bool
  | .bool (.c a), .bool (.c b) => (a && b) || (!a && !b)
  | .int k (.c n), .int k' (.c m) => decide (k = k') && decide (n = m)
  | .ptr none, .ptr none => true
  | .ptr (some (b, o)), .ptr (some (b', o')) => Nat.blt b N && (Nat.beq (β b) b' && Nat.beq o o')
  | .slc none n c, .slc none n' c' => Nat.beq n n' && Nat.beq c c'
  | .slc (some (b, o)) n c, .slc (some (b', o')) n' c' => Nat.blt b N && (Nat.beq (β b) b' && (Nat.beq o o' && (Nat.beq n n' && Nat.beq c c')))
  | .emp, .emp => true
  | .agg l, .agg m => CV.eqvl β N l m
  | .tup l, .tup m => CV.eqvl β N l m
  | _, _ => false
def CV.eqvl (β : Nat → Nat) (N : Nat) : List CV → List CV → Bool
  | [], [] => true
  | c :: l, d :: m => CV.eqv β N c d && CV.eqvl β N l m
  | _, _ => false
end
section
variable {P : Program} {ρ : Env}
mutual
theorem CV.eqv_ok {β : Nat → Nat} {N : Nat} {σ τ : Mp} (hβ : ∀ b, b < N → τ b = σ (β b)) : ∀ (c d : CV) {v : Value}, CV.eqv β N c d = true → VR ρ σ d v → VR ρ τ c v := by
  intro c d v h hv
  unfold CV.eqv at h
  split at h
  · rename_i a b
    obtain rfl := hv.bool_inv
    have e : a = b := by cases a <;> cases b <;> first | rfl | cases h
    subst e
    exact .bool (.c a)
  · simp only [Bool.and_eq_true, decide_eq_true_eq] at h
    obtain ⟨rfl, rfl⟩ := h
    obtain rfl := hv.int_inv
    exact .int _ (.c _)
  · cases hv; exact .ptr0
  · rename_i b o b' o'
    simp only [Bool.and_eq_true] at h
    obtain ⟨h1, h2, h3⟩ := h
    obtain rfl := Nat.eq_of_beq_eq_true h2
    obtain rfl := Nat.eq_of_beq_eq_true h3
    cases hv with
    | ptr hl => exact .ptr ((hβ b (blt_lt h1)).trans hl)
  · simp only [Bool.and_eq_true] at h
    obtain ⟨h1, h2⟩ := h
    obtain rfl := Nat.eq_of_beq_eq_true h1
    obtain rfl := Nat.eq_of_beq_eq_true h2
    cases hv; exact .slc0
  · rename_i b o n c b' o' n' c'
    simp only [Bool.and_eq_true] at h
    obtain ⟨h1, h2, h3, h4, h5⟩ := h
    obtain rfl := Nat.eq_of_beq_eq_true h2
    obtain rfl := Nat.eq_of_beq_eq_true h3
    obtain rfl := Nat.eq_of_beq_eq_true h4
    obtain rfl := Nat.eq_of_beq_eq_true h5
    cases hv with
    | slc hl hc hs => exact .slc ((hβ b (blt_lt h1)).trans hl) hc hs
  · cases hv; exact .emp _ _
  · rename_i l m
    obtain ⟨cs, rfl, h1⟩ := hv.agg_inv
    exact .agg (CV.eqvl_ok hβ l m h h1)
  · rename_i l m
    obtain ⟨cs, rfl, h1⟩ := hv.tup_inv
    exact .tup (CV.eqvl_ok hβ l m h h1)
  · cases h
theorem CV.eqvl_ok {β : Nat → Nat} {N : Nat} {σ τ : Mp} (hβ : ∀ b, b < N → τ b = σ (β b)) : ∀ (l m : List CV) {vs : List Value}, CV.eqvl β N l m = true → VRl ρ σ m vs → VRl ρ τ l vs
  | [], [], _, _, hv => by cases hv; exact .nil
  | [], d :: m, _, h, _ => by unfold CV.eqvl at h; cases h
  | c :: l, [], _, h, _ => by unfold CV.eqvl at h; cases h
  | c :: l, d :: m, _, h, hv => by
    unfold CV.eqvl at h
    simp only [Bool.and_eq_true] at h
    cases hv with
    | cons h1 t1 => exact .cons (CV.eqv_ok hβ c d h.1 h1) (CV.eqvl_ok hβ l m h.2 t1)
end
abbrev KBlk := List CV × Nat
def KBlk.blk (x : KBlk) : Blk := ⟨.lit x.1, x.2, true, none⟩
noncomputable def hB : List KBlk → Nat → Tr Blk
  | [], _ => .nil
  | x :: l, q => (hB l (q + 1)).set q (KBlk.blk x)
theorem hB_get (i : Nat) : ∀ (l : List KBlk) (q : Nat) (k : Blk), (hB l q).get i = some k → ∃ j x, i = q + j ∧ l[j]? = some x ∧ k = KBlk.blk x
  | [], q, k, h => by simp [hB, Tr.get_nil] at h
  | x :: l, q, k, h => by
    simp only [hB, Tr.get_set] at h
    by_cases hi : i = q
    · rw [if_pos hi] at h
      cases h
      exact ⟨0, x, by omega, rfl, rfl⟩
    · rw [if_neg hi] at h
      obtain ⟨j, x', h1, h2, h3⟩ := hB_get i l (q + 1) k h
      exact ⟨j + 1, x', by omega, by simpa using h2, h3⟩
def nodB : List Nat → Bool
  | [] => true
  | b :: l => !(l.any (Nat.beq b)) && nodB l
theorem nodB_ok : ∀ {l : List Nat}, nodB l = true → ∀ (i j b : Nat), l[i]? = some b → l[j]? = some b → i = j
  | [], _, i, j, b, h, _ => by simp at h
  | c :: l, h, i, j, b, hi, hj => by
    unfold nodB at h
    simp only [Bool.and_eq_true, Bool.not_eq_true'] at h
    have no : ∀ j : Nat, l[j]? = some c → False := fun j hj => by
      have := List.any_eq_false.1 h.1 c (List.mem_of_getElem? hj)
      exact this (Nat.beq_refl c)
    cases i with
    | zero =>
      cases j with
      | zero => rfl
      | succ j =>
        have e0 : c = b := by simpa using hi
        subst e0
        exact (no j (by simpa using hj)).elim
    | succ i =>
      cases j with
      | zero =>
        have e0 : c = b := by simpa using hj
        subst e0
        exact (no i (by simpa using hi)).elim
      | succ j => exact congrArg Nat.succ (nodB_ok h.2 i j b (by simpa using hi) (by simpa using hj))
/-- A call: its arguments, their blocks, what it yields, the blocks that it makes and that matter (how the run calls them): they are numbered behind the arguments' blocks. -/
structure KCall where
  g : Nat
  args : List CV
  blks : List KBlk
  c : CV
  new : List (Nat × KBlk)
def KCall.n1 (K : KCall) : Nat := K.blks.length + K.new.length
/-- What the run calls a block. -/
def KCall.old (K : KCall) (b : Nat) : Nat := bif Nat.blt b K.blks.length then b else match K.new[b - K.blks.length]? with | some x => x.1 | none => 0
noncomputable def KCall.h1 (K : KCall) : Tr Blk := hB (K.new.map (·.2)) K.blks.length
/-- The run says so. -/
noncomputable def KCall.says (K : KCall) : Option Out → Bool
  | some ⟨.val c', s1, _, []⟩ => (match s1.pc with | [] => true | _ => false) && (CV.eqv K.old K.n1 K.c c' && ((K.new.all fun x => (Nat.ble K.blks.length x.1 && Nat.blt x.1 s1.next) && match s1.heap.get x.1 with | some ⟨.lit l, e, true, none⟩ => CV.eqvl K.old K.n1 x.2.1 l && Nat.beq e x.2.2 | _ => false) && (nodB (K.new.map (·.1)) && K.blks.all fun x => CV.eqvl id K.blks.length x.1 x.1)))
  | _ => false
structure KCall.Ok (K : KCall) (P : Program) (ρ : Env) : Prop where
  fn : ∃ fn, P.funcs[K.g]? = some fn ∧ fn.body.isSome = true
  rg : K.c.rng K.blks.length K.n1 = true
  hg : ∀ x ∈ K.new, CV.rngl K.blks.length K.n1 x.2.1 = true
  ctr : Ctr P ρ K.g K.args (hB K.blks 0) K.blks.length [] K.c K.h1 K.n1
theorem KCall.of_run {K : KCall} (hP : progOk P = true) {memo : Memo} (hM : MemoOk P (ctxOf P memo) ρ) {m : Nat} (hf : (match P.funcs[K.g]? with | some fn => fn.body.isSome | none => false) = true)
    (h2 : K.c.rng K.blks.length K.n1 = true) (h3 : (K.new.all fun x => CV.rngl K.blks.length K.n1 x.2.1) = true)
    (h : K.says (eval (ctxOf P memo) m K.blks.length (.call K.g K.args) ⟨hB K.blks 0, K.blks.length, [], []⟩) = true) : K.Ok P ρ := by
  refine ⟨?_, h2, fun x hx => List.all_eq_true.1 h3 x hx, ?_, ?_⟩
  · split at hf
    · rename_i fn hfn; exact ⟨fn, hfn, hf⟩
    · cases hf
  · split at hf
    · rename_i fn hfn; exact ⟨fn, hfn, hf⟩
    · cases hf
  · intro n σ w args' ha hH hN
    generalize he : eval (ctxOf P memo) m K.blks.length (.call K.g K.args) ⟨hB K.blks 0, K.blks.length, [], []⟩ = r at h
    unfold KCall.says at h
    split at h
    · rename_i c' s1 R
      simp only [Bool.and_eq_true] at h
      obtain ⟨q1, q3, q4, q5, q6⟩ := h
      have hpc : s1.pc = [] := by
        split at q1
        · assumption
        · cases q1
      have k := (eval_ok (ρ := ρ) (ctxOf_ok hP memo) hM m).call _ _ _ _ _ _ _ _ he
      have := k.run n σ (curOf (hB K.blks 0) K.blks.length) w args' (by rw [hpc]; intro p hp; cases hp) ha hH (fun b hb => by
        rcases hb with hb | hb
        · have : b < K.blks.length := k.lt.1 b hb
          exact if_pos this
        · cases hb) (fun b hb _ => hN b hb)
      refine this.mono ?_
      rintro e' w' ⟨v, rfl, σ1, x1, x2, x3, x4, x5⟩
      have x1 : Ext σ σ1 K.blks.length s1.next := x1
      have x3 : HR ρ σ1 (upd (curOf (hB K.blks 0) K.blks.length) K.blks.length s1.next s1.heap []) w' := x3
      have x5 : Fresh σ σ1 K.blks.length s1.next K.blks.length [] w := x5
      have old0 : ∀ b, b < K.blks.length → K.old b = b := fun b hb => by
        unfold KCall.old
        rw [show Nat.blt b K.blks.length = true from Nat.ble_eq_true_of_le hb, cond_true]
      have old1 : ∀ b, ¬ b < K.blks.length → b < K.n1 → ∃ x, K.new[b - K.blks.length]? = some x ∧ K.old b = x.1 := fun b hb hb2 => by
        have hl : b - K.blks.length < K.new.length := by unfold KCall.n1 at hb2; omega
        refine ⟨_, List.getElem?_eq_getElem hl, ?_⟩
        unfold KCall.old
        have hbf : Nat.blt b K.blks.length = false := by
          cases hbb : Nat.blt b K.blks.length with
          | false => rfl
          | true => exact absurd (blt_lt hbb) hb
        rw [hbf, cond_false, List.getElem?_eq_getElem hl]
      have newOk : ∀ x ∈ K.new, (K.blks.length ≤ x.1 ∧ x.1 < s1.next) ∧ ∃ l, s1.heap.get x.1 = some ⟨.lit l, x.2.2, true, none⟩ ∧ CV.eqvl K.old K.n1 x.2.1 l = true := fun x hx => by
        have := List.all_eq_true.1 q4 x hx
        simp only [Bool.and_eq_true] at this
        obtain ⟨⟨g1, g2⟩, g3⟩ := this
        refine ⟨⟨Nat.le_of_ble_eq_true g1, blt_lt g2⟩, ?_⟩
        split at g3
        · rename_i l e hl
          simp only [Bool.and_eq_true] at g3
          obtain rfl := Nat.eq_of_beq_eq_true g3.2
          exact ⟨l, hl, g3.1⟩
        · cases g3
      obtain ⟨σ2, hσ2⟩ : ∃ σ2 : Mp, σ2 = fun b => if b < K.n1 then σ1 (K.old b) else none := ⟨_, rfl⟩
      have hβ : ∀ b, b < K.n1 → σ2 b = σ1 (K.old b) := fun b hb => by rw [hσ2]; exact if_pos hb
      have hle : K.blks.length ≤ K.n1 := by unfold KCall.n1; omega
      have hlow : ∀ b, b < K.blks.length → σ2 b = σ1 b := fun b hb => by rw [hβ b (by omega), old0 b hb]
      have get : ∀ b k, upd (curOf (hB K.blks 0) K.blks.length) K.blks.length K.n1 K.h1 [] b = some k → b < K.n1 ∧ (∃ k1, upd (curOf (hB K.blks 0) K.blks.length) K.blks.length s1.next s1.heap [] (K.old b) = some k1 ∧ k.live = k1.live ∧ k.esz = k1.esz ∧ k.ext = none ∧ k1.ro = false ∧ ∀ us, VRl ρ σ1 k1.cells us → VRl ρ σ2 k.cells us) := by
        intro b k hk
        by_cases hb : b < K.blks.length
        · refine ⟨by omega, ?_⟩
          unfold upd at hk ⊢
          rw [old0 b hb]
          rw [if_neg (by simp; omega)] at hk ⊢
          have hk2 : curOf (hB K.blks 0) K.blks.length b = some k := hk
          unfold curOf at hk2
          rw [if_pos hb] at hk2
          obtain ⟨j, x, rfl, g1, rfl⟩ := hB_get b K.blks 0 k hk2
          exact ⟨_, hk, rfl, rfl, rfl, rfl, fun us hus => CV.eqvl_ok (fun b hb => hlow b hb) _ _ (List.all_eq_true.1 q6 x (List.mem_of_getElem? g1)) hus⟩
        · by_cases hb2 : b < K.n1
          · refine ⟨hb2, ?_⟩
            unfold upd at hk
            rw [if_pos (.inr ⟨by omega, hb2⟩)] at hk
            have hk : (hB (K.new.map (·.2)) K.blks.length).get b = some k := hk
            obtain ⟨j, x, rfl, g1, rfl⟩ := hB_get b _ _ k hk
            rw [List.getElem?_map] at g1
            obtain ⟨y, hy, hyo⟩ := old1 (K.blks.length + j) hb hb2
            rw [Nat.add_sub_cancel_left] at hy
            rw [hy] at g1
            obtain rfl : y.2 = x := Option.some.inj g1
            obtain ⟨⟨r1, r2⟩, l, r3, r4⟩ := newOk y (List.mem_of_getElem? hy)
            refine ⟨⟨.lit l, y.2.2, true, none⟩, ?_, rfl, rfl, rfl, rfl, fun us hus => CV.eqvl_ok hβ _ _ r4 hus⟩
            unfold upd
            rw [hyo, if_pos (.inr ⟨r1, r2⟩)]
            exact r3
          · unfold upd at hk
            rw [if_neg (by simp; omega)] at hk
            unfold curOf at hk
            rw [if_neg hb] at hk
            cases hk
      have inj : ∀ b b', b < K.n1 → b' < K.n1 → K.old b = K.old b' → b = b' := by
        intro b b' hb hb' he
        by_cases h1 : b < K.blks.length
        · rw [old0 b h1] at he
          by_cases h2 : b' < K.blks.length
          · rw [old0 b' h2] at he; exact he
          · obtain ⟨y, hy, hyo⟩ := old1 b' h2 hb'
            have := (newOk y (List.mem_of_getElem? hy)).1.1
            omega
        · obtain ⟨x, hx, hxo⟩ := old1 b h1 hb
          by_cases h2 : b' < K.blks.length
          · rw [old0 b' h2] at he
            have := (newOk x (List.mem_of_getElem? hx)).1.1
            omega
          · obtain ⟨y, hy, hyo⟩ := old1 b' h2 hb'
            have := nodB_ok q5 (b - K.blks.length) (b' - K.blks.length) x.1 (by rw [List.getElem?_map, hx]; rfl) (by rw [List.getElem?_map, hy]; show some y.1 = some x.1; rw [← hyo, ← he, hxo])
            omega
      refine ⟨v, rfl, σ2, fun b hb => ?_, CV.eqv_ok hβ _ _ q3 x2, ?_, x4, fun b l b1 b2 b3 => ?_⟩
      · have hb : b < K.blks.length ∨ K.n1 ≤ b := hb
        rcases hb with hb | hb
        · rw [hlow b hb]; exact x1 b (.inl hb)
        · rw [hσ2, hN b (by omega)]; exact if_neg (by omega)
      · refine ⟨fun b k l a1 a2 a3 => ?_, fun b b' k k' l l' a1 a2 a3 a4 a5 a6 a7 a8 => ?_, fun b k x l a1 a2 a3 => ?_, fun b b' k k' x x' l l' a1 a2 a3 a4 a5 a6 a7 => ?_, fun y hy => ⟨(x3.glob y hy).1, fun b k l a1 a2 ar a3 => ?_⟩⟩
        · obtain ⟨hb, k1, g1, g2, g3, _, _, g5⟩ := get b k a1
          rw [hβ b hb] at a3
          obtain ⟨cs, t, p, r1, r2, r3, r4, r5, r6⟩ := x3.cell _ k1 l g1 (g2 ▸ a2) a3
          have r7 := g5 _ r6
          have hln : k.cells.length = k1.cells.length := r7.length.symm.trans r6.length
          exact ⟨cs, t, p, r1, fun _ => r2 (by assumption), r3, g3.trans r4, by rw [hln]; exact r5, by rw [hln]; exact r7⟩
        · obtain ⟨hb, k1, g1, g2, _, _, g4, _⟩ := get b k a1
          obtain ⟨hb', k1', g1', g2', _, _, g4', _⟩ := get b' k' a4
          rw [hβ b hb] at a3
          rw [hβ b' hb'] at a6
          exact inj b b' hb hb' (x3.inj _ _ k1 k1' l l' g1 (g2 ▸ a2) a3 g1' (g2' ▸ a5) a6 a7 (.inl g4))
        · obtain ⟨_, _, _, _, _, g, _⟩ := get b k a1
          rw [g] at a2; cases a2
        · obtain ⟨_, _, _, _, _, g, _⟩ := get b k a1
          rw [g] at a2; cases a2
        · obtain ⟨hb, k1, g1, g2, _, _, g4, _⟩ := get b k a1
          rw [hβ b hb] at a3
          exact (x3.glob y hy).2 _ k1 l g1 (g2 ▸ a2) g4 a3
      · have b2 : b < K.n1 := b2
        have hnb : ¬ b < K.blks.length := by have b1 : K.blks.length ≤ b := b1; omega
        rw [hβ b b2] at b3
        obtain ⟨y, hy, hyo⟩ := old1 b hnb b2
        obtain ⟨⟨r1, r2⟩, _⟩ := newOk y (List.mem_of_getElem? hy)
        rw [hyo] at b3
        exact x5 y.1 l r1 r2 b3
    · cases h
/-- The new blocks, by the numbers that they get. -/
def newL (q : Nat) : List (Nat × KBlk) → List (Nat × Blk)
  | [] => []
  | x :: l => (q, KBlk.blk x.2) :: newL (q + 1) l
def KCall.newB (K : KCall) : List (Nat × Blk) := newL K.blks.length K.new
theorem newL_mem : ∀ {l : List (Nat × KBlk)} {q : Nat} {y : Nat × Blk}, y ∈ newL q l → (q ≤ y.1 ∧ y.1 < q + l.length) ∧ ∃ x ∈ l, y.2 = KBlk.blk x.2
  | [], q, y, h => by cases h
  | x :: l, q, y, h => by
    rcases List.mem_cons.1 h with rfl | h
    · exact ⟨⟨Nat.le_refl _, by simp⟩, x, List.mem_cons_self .., rfl⟩
    · obtain ⟨⟨h1, h2⟩, z, hz, e⟩ := newL_mem h
      exact ⟨⟨by omega, by simp only [List.length_cons]; omega⟩, z, List.mem_cons_of_mem _ hz, e⟩
theorem newL_find : ∀ (l : List (Nat × KBlk)) (q b : Nat), (newL q l).find? (fun x => x.1 == b) = if q ≤ b then (l[b - q]?).map (fun x => (b, KBlk.blk x.2)) else none
  | [], q, b => by simp [newL]
  | x :: l, q, b => by
    rw [newL, List.find?_cons]
    by_cases h : q = b
    · subst h; simp
    · have hf : (q == b) = false := by simpa using h
      rw [hf, newL_find l (q + 1) b]
      by_cases h2 : q + 1 ≤ b
      · rw [if_pos h2, if_pos (by omega), show b - q = (b - (q + 1)) + 1 by omega, List.getElem?_cons_succ]
      · rw [if_neg h2, if_neg (by omega)]
theorem hB_at : ∀ (l : List KBlk) (q b : Nat), (hB l q).get b = if q ≤ b then (l[b - q]?).map KBlk.blk else none
  | [], q, b => by simp [hB, Tr.get_nil]
  | x :: l, q, b => by
    rw [hB, Tr.get_set]
    by_cases h : b = q
    · subst h; simp
    · rw [if_neg h, hB_at l (q + 1) b]
      by_cases h2 : q + 1 ≤ b
      · rw [if_pos h2, if_pos (by omega), show b - q = (b - (q + 1)) + 1 by omega, List.getElem?_cons_succ]
      · rw [if_neg h2, if_neg (by omega)]
/-! ## The memo -/
def insM (b b' : Nat) (m : List (Nat × Nat)) : List (Nat × Nat) := bif m.any (fun x => Nat.beq x.1 b) then m else (b, b') :: m
mutual
def CV.uni : CV → CV → List (Nat × Nat) → List (Nat × Nat)
  | .ptr (some (b, _)), .ptr (some (b', _)), m => insM b b' m
  | .slc (some (b, _)) _ _, .slc (some (b', _)) _ _, m => insM b b' m
  | .agg l, .agg l', m => CV.unil l l' m
  | .tup l, .tup l', m => CV.unil l l' m
  | _, _, m => m
def CV.unil : List CV → List CV → List (Nat × Nat) → List (Nat × Nat)
  | c :: l, d :: l', m => CV.unil l l' (CV.uni c d m)
  | _, _, m => m
end
def lookM (m : List (Nat × Nat)) (b : Nat) : Nat := match m.find? (fun x => Nat.beq x.1 b) with | some x => x.2 | none => 0
noncomputable def uniB (s : St) : List KBlk → Nat → List (Nat × Nat) → List (Nat × Nat)
  | [], _, m => m
  | x :: l, i, m => uniB s l (i + 1) (match s.heap.get (lookM m i) with | some ⟨.lit k, _, _, _⟩ => CV.unil x.1 k m | _ => m)
noncomputable def chkB (s : St) (β : Nat → Nat) (N : Nat) : List KBlk → Nat → Bool
  | [], _ => true
  | x :: l, i => (match s.heap.get (β i) with | some ⟨.lit k, e, true, none⟩ => CV.eqvl β N x.1 k && (Nat.beq e x.2 && Nat.blt (β i) s.next) | _ => false) && chkB s β N l (i + 1)
theorem chkB_ok {s : St} {β : Nat → Nat} {N : Nat} : ∀ {l : List KBlk} {q : Nat}, chkB s β N l q = true → ∀ j x, l[j]? = some x → ∃ k e, s.heap.get (β (q + j)) = some ⟨.lit k, e, true, none⟩ ∧ CV.eqvl β N x.1 k = true ∧ e = x.2 ∧ β (q + j) < s.next
  | [], q, _, j, x, h => by simp at h
  | y :: l, q, h, j, x, hx => by
    unfold chkB at h
    simp only [Bool.and_eq_true] at h
    obtain ⟨h1, h2⟩ := h
    cases j with
    | zero =>
      have e0 : y = x := by simpa using hx
      subst e0
      split at h1
      · rename_i k e hk
        simp only [Bool.and_eq_true] at h1
        exact ⟨k, e, hk, h1.1, Nat.eq_of_beq_eq_true h1.2.1, blt_lt h1.2.2⟩
      · cases h1
    | succ j =>
      have := chkB_ok h2 j x (by simpa using hx)
      rw [show q + 1 + j = q + (j + 1) by omega] at this
      exact this
/-- The names that the blocks have. -/
noncomputable def KCall.bs (K : KCall) (s : St) (args : List CV) : List Nat := (List.range K.blks.length).map (lookM (uniB s K.blks 0 (CV.unil K.args args [])))
def bOf (bs : List Nat) (i : Nat) : Nat := (bs[i]?).getD 0
noncomputable def KCall.fits (K : KCall) (s : St) (args : List CV) (bs : List Nat) : Bool :=
  CV.eqvl (bOf bs) K.blks.length K.args args && (chkB s (bOf bs) K.blks.length K.blks 0 && (nodB bs && Nat.beq bs.length K.blks.length))
noncomputable def memoK (K : KCall) (inner : Memo) : Memo := fun f args s =>
  bif Nat.beq f K.g && K.fits s args (K.bs s args) then
    some (K.c.ren (liftName K.blks.length s.next), { s with heap := putNew K.blks.length s.next s.heap K.newB, next := s.next + (K.n1 - K.blks.length) }, K.bs s args, [])
  else inner f args s
theorem memoK_ok {K : KCall} {inner : Memo} (hK : K.Ok P ρ) (hi : MemoOk P (ctxOf P inner) ρ) : MemoOk P (ctxOf P (memoK K inner)) ρ := by
  have lift : ∀ {f args s c s' R' W}, CallOk P (ctxOf P inner) ρ f args s c s' R' W → CallOk P (ctxOf P (memoK K inner)) ρ f args s c s' R' W := fun h => ⟨h.fn, h.frm, h.lt, h.run⟩
  intro f args s c s' R' W h0
  have h : memoK K inner f args s = some (c, s', R', W) := h0
  clear h0
  unfold memoK at h
  generalize hbs : K.bs s args = bs at h
  cases hf : (Nat.beq f K.g && K.fits s args bs) with
  | false => rw [hf, cond_false] at h; exact lift (hi _ _ _ _ _ _ _ h)
  | true =>
    rw [hf, cond_true] at h
    cases h
    simp only [Bool.and_eq_true, KCall.fits] at hf
    obtain ⟨f1, f2, f3, f4, f5⟩ := hf
    obtain rfl := Nat.eq_of_beq_eq_true f1
    have hlen := Nat.eq_of_beq_eq_true f5
    have hblk := chkB_ok f3
    have at' : ∀ i, i < K.blks.length → R'[i]? = some (bOf R' i) := fun i hi => by
      unfold bOf
      rw [List.getElem?_eq_getElem (by omega)]
      rfl
    have rngw : ∀ x ∈ K.newB, K.blks.length ≤ x.1 ∧ x.1 < K.n1 := fun x hx => (newL_mem hx).1
    refine Ctr.callS (base := K.blks.length) (n1 := K.n1) (args := K.args) (h0 := hB K.blks 0) (h1 := K.h1) (K := fun _ => hK.ctr) hK.fn (by unfold KCall.n1; omega) rfl ⟨[], rfl⟩ (fun b hb => ?_) (fun j hj kb hk => ?_) (fun b hb => ?_) (fun σ cur w l hp hl hH hcur => ?_) (fun σ σ2 v hl h => VR.lift hl h hK.rg)
    · show (putNew _ _ _ _).get b = _
      rw [get_putNew]
      split
      · rename_i x hx
        have h1 := List.find?_some hx
        have h2 := List.mem_of_find?_eq_some hx
        simp only [beq_iff_eq] at h1
        obtain ⟨q1, q2⟩ := rngw _ h2
        refine absurd ?_ hb
        show s.next ≤ b ∧ b < s.next + (K.n1 - K.blks.length)
        unfold liftName at h1
        omega
      · rfl
    · have hk : (putNew K.blks.length s.next s.heap K.newB).get (s.next + j) = some kb := hk
      rw [get_putNew] at hk
      have e : ∀ x ∈ K.newB, (liftName K.blks.length s.next x.1 == s.next + j) = (x.1 == K.blks.length + j) := fun x hx => by
        obtain ⟨q1, q2⟩ := rngw x hx
        unfold liftName
        rw [Bool.eq_iff_iff]
        simp only [beq_iff_eq]
        omega
      have hcg := find_congr e
      rw [hcg] at hk
      have hjl : j < K.new.length := by unfold KCall.n1 at hj; omega
      have hfd : K.newB.find? (fun x => x.1 == K.blks.length + j) = some (K.blks.length + j, KBlk.blk K.new[j].2) := by
        unfold KCall.newB
        rw [newL_find, if_pos (by omega), Nat.add_sub_cancel_left, List.getElem?_eq_getElem hjl]
        rfl
      rw [hfd] at hk
      cases hk
      have hmem : K.new[j] ∈ K.new := List.getElem_mem hjl
      have g1 := hK.hg _ hmem
      refine ⟨KBlk.blk K.new[j].2, ?_, rfl, rfl, rfl, fun h => rfl, fun σ σ2 us hl h => Blk.lift (k := KBlk.blk K.new[j].2) hl g1 h⟩
      unfold KCall.h1
      rw [hB_at, if_pos (by omega), Nat.add_sub_cancel_left, List.getElem?_map, List.getElem?_eq_getElem hjl]
      rfl
    · obtain ⟨i, hi'⟩ := List.getElem?_of_mem hb
      have hil : i < K.blks.length := by
        have := (List.getElem?_eq_some_iff.1 hi').1
        omega
      obtain ⟨k, e, _, _, _, q⟩ := hblk i _ (List.getElem?_eq_getElem hil)
      rw [Nat.zero_add] at q
      have := at' i hil
      rw [hi'] at this
      rw [Option.some.inj this]; exact q
    · have hτ : ∀ b, b < K.blks.length → (fun i => if i < K.blks.length then σ (bOf R' i) else none) b = σ (bOf R' b) := fun b hb => if_pos hb
      refine ⟨fun i => if i < K.blks.length then σ (bOf R' i) else none, CV.eqvl_ok hτ _ _ f2 hl, ?_, fun b hb => if_neg (by omega)⟩
      have get : ∀ b k, curOf (hB K.blks 0) K.blks.length b = some k → ∃ x k1, b < K.blks.length ∧ k = KBlk.blk x ∧ cur (bOf R' b) = some ⟨.lit k1, x.2, true, none⟩ ∧ ∀ us, VRl ρ σ k1 us → VRl ρ (fun i => if i < K.blks.length then σ (bOf R' i) else none) x.1 us := by
        intro b k hk
        unfold curOf at hk
        split at hk
        · rename_i hb
          obtain ⟨j, x, rfl, g1, rfl⟩ := hB_get b K.blks 0 k hk
          obtain ⟨k1, e, c1, c2, rfl, c4⟩ := hblk j x g1
          have hm : bOf R' (0 + j) ∈ R' := List.mem_of_getElem? (at' _ hb)
          exact ⟨x, k1, hb, rfl, (hcur _ hm).trans c1, fun us hus => CV.eqvl_ok hτ _ _ c2 hus⟩
        · cases hk
      refine ⟨fun b k l a1 a2 a3 => ?_, fun b b' k k' l l' a1 a2 a3 a4 a5 a6 a7 a8 => ?_, fun b k x l a1 a2 a3 => ?_, fun b b' k k' x x' l l' a1 a2 a3 a4 a5 a6 a7 => ?_, fun y hy => ⟨(hH.glob y hy).1, fun b k l a1 a2 ar a3 => ?_⟩⟩
      · obtain ⟨x, k1, hb, rfl, q1, q2⟩ := get b k a1
        have a3 : (if b < K.blks.length then σ (bOf R' b) else none) = some l := a3
        rw [if_pos hb] at a3
        obtain ⟨cs, t, p, r1, r2, r3, r4, r5, r6⟩ := hH.cell _ _ l q1 rfl a3
        have r7 := q2 _ r6
        have r6l := r6.length
        have r7l := r7.length
        have e1 : Blk.cells ⟨.lit k1, x.2, true, none⟩ = k1 := rfl
        have e2 : Blk.cells (KBlk.blk x) = x.1 := rfl
        rw [e1] at r5 r6 r7 r7l r6l
        have hln : x.1.length = k1.length := r7l.symm.trans r6l
        exact ⟨cs, t, p, r1, fun _ => r2 rfl, r3, r4, by rw [e2, hln]; exact r5, by rw [e2, hln]; exact r7⟩
      · obtain ⟨x, k1, hb, rfl, q1, _⟩ := get b k a1
        obtain ⟨x', k1', hb', rfl, q1', _⟩ := get b' k' a4
        have a3 : (if b < K.blks.length then σ (bOf R' b) else none) = some l := a3
        have a6 : (if b' < K.blks.length then σ (bOf R' b') else none) = some l' := a6
        rw [if_pos hb] at a3
        rw [if_pos hb'] at a6
        have := hH.inj _ _ _ _ l l' q1 rfl a3 q1' rfl a6 a7 (.inl rfl)
        exact nodB_ok f4 b b' _ (at' b hb) (by rw [this]; exact at' b' hb')
      · obtain ⟨x', k1, hb, rfl, _⟩ := get b k a1
        cases a2
      · obtain ⟨x', k1, hb, rfl, _⟩ := get b k a1
        cases a2
      · obtain ⟨x', k1, hb, rfl, q1, _⟩ := get b k a1
        have a3 : (if b < K.blks.length then σ (bOf R' b) else none) = some l := a3
        rw [if_pos hb] at a3
        exact (hH.glob y hy).2 _ _ l q1 rfl rfl a3
end
end Go.Proofs.Ythagjhadjpangaa.Cx

/- Calls that acme/acmelaw07.known makes, each known by a run of its own. Made by tools/cxkcalls.py. -/
namespace Go.Proofs.Ythagjhadjpangaa.Cx
set_option maxRecDepth 100000
set_option linter.unusedVariables false
open Go Go.Proofs Go.RowKit
def CxKn07K0 : KCall := ⟨18, [.agg [.bool (.c false), .int .i64 (.c (-1000)), .int .i64 (.c 1000), .int .i64 (.c (-500)), .int .i64 (.c 500), .slc (some (0, 0)) 2 2], .slc (some (1, 0)) 2 2, .int .i64 (.c 0), .int .i64 (.c 200)], [([.int .i64 (.c 10), .int .i64 (.c 20), .int .i64 (.c 50), .int .i64 (.c 100)], 2), ([.int .i64 (.c 200), .int .i64 (.c 0), .int .i64 (.c 100000), .int .i64 (.c 110000), .int .i64 (.c 100), .int .i64 (.c 1), .int .i64 (.c 100000), .int .i64 (.c 110000)], 4)], .tup [.agg [.int .i64 (.c 2000), .int .i64 (.c 4000)], .int .i64 (.c 0)], []⟩
theorem CxKn07K0_run : CxKn07K0.says (eval (ctxOf Try.prog memo0) 1000 CxKn07K0.blks.length (.call CxKn07K0.g CxKn07K0.args) ⟨hB CxKn07K0.blks 0, CxKn07K0.blks.length, [], []⟩) = true := by kernel_rfl
theorem CxKn07K0_ok {ρ : Env} : CxKn07K0.Ok Try.prog ρ := KCall.of_run try_ok memo0_ok (by kernel_rfl) (by kernel_rfl) (by kernel_rfl) CxKn07K0_run
def CxKn07K1 : KCall := ⟨19, [.agg [.bool (.c false), .int .i64 (.c (-1000)), .int .i64 (.c 1000), .int .i64 (.c (-500)), .int .i64 (.c 500), .slc (some (0, 0)) 2 2], .slc (some (1, 0)) 2 2, .int .i64 (.c 0), .int .i64 (.c 200)], [([.int .i64 (.c 10), .int .i64 (.c 20), .int .i64 (.c 50), .int .i64 (.c 100)], 2), ([.int .i64 (.c 200), .int .i64 (.c 0), .int .i64 (.c 100000), .int .i64 (.c 110000), .int .i64 (.c 100), .int .i64 (.c 1), .int .i64 (.c 100000), .int .i64 (.c 110000)], 4)], .tup [.agg [.int .i64 (.c 101500), .int .i64 (.c 104520)], .int .i64 (.c 0)], []⟩
theorem CxKn07K1_run : CxKn07K1.says (eval (ctxOf Try.prog memo0) 1000 CxKn07K1.blks.length (.call CxKn07K1.g CxKn07K1.args) ⟨hB CxKn07K1.blks 0, CxKn07K1.blks.length, [], []⟩) = true := by kernel_rfl
theorem CxKn07K1_ok {ρ : Env} : CxKn07K1.Ok Try.prog ρ := KCall.of_run try_ok memo0_ok (by kernel_rfl) (by kernel_rfl) (by kernel_rfl) CxKn07K1_run
end Go.Proofs.Ythagjhadjpangaa.Cx

/- Calls that acme/acmelaw07.known makes, each known by a run of its own. Made by tools/cxkcalls.py. -/
namespace Go.Proofs.Ythagjhadjpangaa.Cx
set_option maxRecDepth 100000
set_option linter.unusedVariables false
open Go Go.Proofs Go.RowKit
def CxKn07K2 : KCall := ⟨25, [.agg [.bool (.c false), .int .i64 (.c (-1000)), .int .i64 (.c 1000), .int .i64 (.c (-500)), .int .i64 (.c 500), .slc (some (0, 0)) 2 2], .slc (some (1, 0)) 2 2, .int .i64 (.c 0)], [([.int .i64 (.c 10), .int .i64 (.c 20), .int .i64 (.c 50), .int .i64 (.c 100)], 2), ([.int .i64 (.c 200), .int .i64 (.c 0), .int .i64 (.c 100000), .int .i64 (.c 110000), .int .i64 (.c 100), .int .i64 (.c 1), .int .i64 (.c 100000), .int .i64 (.c 110000)], 4)], .tup [.int .i64 (.c 231), .int .i64 (.c 0)], []⟩
theorem CxKn07K2_run : CxKn07K2.says (eval (ctxOf Try.prog memo0) 1000 CxKn07K2.blks.length (.call CxKn07K2.g CxKn07K2.args) ⟨hB CxKn07K2.blks 0, CxKn07K2.blks.length, [], []⟩) = true := by kernel_rfl
theorem CxKn07K2_ok {ρ : Env} : CxKn07K2.Ok Try.prog ρ := KCall.of_run try_ok memo0_ok (by kernel_rfl) (by kernel_rfl) (by kernel_rfl) CxKn07K2_run
def CxKn07K3 : KCall := ⟨26, [.agg [.bool (.c false), .int .i64 (.c (-1000)), .int .i64 (.c 1000), .int .i64 (.c (-500)), .int .i64 (.c 500), .slc (some (0, 0)) 2 2], .slc (some (1, 0)) 2 2], [([.int .i64 (.c 10), .int .i64 (.c 20), .int .i64 (.c 50), .int .i64 (.c 100)], 2), ([.int .i64 (.c 200), .int .i64 (.c 0), .int .i64 (.c 100000), .int .i64 (.c 110000), .int .i64 (.c 100), .int .i64 (.c 1), .int .i64 (.c 100000), .int .i64 (.c 110000)], 4)], .tup [.slc (some (2, 0)) 2 2, .int .i64 (.c 0)], [(725, ([.int .i64 (.c 0), .int .i64 (.c 101500), .int .i64 (.c 231), .int .i64 (.c 101500)], 2))]⟩
theorem CxKn07K3_run : CxKn07K3.says (eval (ctxOf Try.prog memo0) 1000 CxKn07K3.blks.length (.call CxKn07K3.g CxKn07K3.args) ⟨hB CxKn07K3.blks 0, CxKn07K3.blks.length, [], []⟩) = true := by kernel_rfl
theorem CxKn07K3_ok {ρ : Env} : CxKn07K3.Ok Try.prog ρ := KCall.of_run try_ok memo0_ok (by kernel_rfl) (by kernel_rfl) (by kernel_rfl) CxKn07K3_run
end Go.Proofs.Ythagjhadjpangaa.Cx

/- Calls that acme/acmelaw07.known makes, each known by a run of its own. Made by tools/cxkcalls.py. -/
namespace Go.Proofs.Ythagjhadjpangaa.Cx
set_option maxRecDepth 100000
set_option linter.unusedVariables false
open Go Go.Proofs Go.RowKit
def CxKn07K4 : KCall := ⟨30, [.agg [.bool (.c false), .int .i64 (.c (-1000)), .int .i64 (.c 1000), .int .i64 (.c (-500)), .int .i64 (.c 500), .slc (some (0, 0)) 2 2], .slc (some (1, 0)) 2 2, .int .i64 (.c 1)], [([.int .i64 (.c 10), .int .i64 (.c 20), .int .i64 (.c 50), .int .i64 (.c 100)], 2), ([.int .i64 (.c 200), .int .i64 (.c 0), .int .i64 (.c 100000), .int .i64 (.c 110000), .int .i64 (.c 100), .int .i64 (.c 1), .int .i64 (.c 100000), .int .i64 (.c 110000)], 4)], .tup [.int .i64 (.c 231), .int .i64 (.c 0)], []⟩
theorem CxKn07K4_run : CxKn07K4.says (eval (ctxOf Try.prog memo0) 1000 CxKn07K4.blks.length (.call CxKn07K4.g CxKn07K4.args) ⟨hB CxKn07K4.blks 0, CxKn07K4.blks.length, [], []⟩) = true := by kernel_rfl
theorem CxKn07K4_ok {ρ : Env} : CxKn07K4.Ok Try.prog ρ := KCall.of_run try_ok memo0_ok (by kernel_rfl) (by kernel_rfl) (by kernel_rfl) CxKn07K4_run
def CxKn07K5 : KCall := ⟨34, [.agg [.bool (.c false), .int .i64 (.c (-1000)), .int .i64 (.c 1000), .int .i64 (.c (-500)), .int .i64 (.c 500), .slc (some (0, 0)) 2 2], .slc (some (1, 0)) 2 2, .slc (some (2, 0)) 1 1], [([.int .i64 (.c 10), .int .i64 (.c 20), .int .i64 (.c 50), .int .i64 (.c 100)], 2), ([.int .i64 (.c 200), .int .i64 (.c 0), .int .i64 (.c 100000), .int .i64 (.c 110000), .int .i64 (.c 100), .int .i64 (.c 1), .int .i64 (.c 100000), .int .i64 (.c 110000)], 4), ([.int .i64 (.c 0), .int .i64 (.c 102000)], 2)], .tup [.int .i64 (.c 226), .int .i64 (.c 0)], []⟩
theorem CxKn07K5_run : CxKn07K5.says (eval (ctxOf Try.prog memo0) 1000 CxKn07K5.blks.length (.call CxKn07K5.g CxKn07K5.args) ⟨hB CxKn07K5.blks 0, CxKn07K5.blks.length, [], []⟩) = true := by kernel_rfl
theorem CxKn07K5_ok {ρ : Env} : CxKn07K5.Ok Try.prog ρ := KCall.of_run try_ok memo0_ok (by kernel_rfl) (by kernel_rfl) (by kernel_rfl) CxKn07K5_run
end Go.Proofs.Ythagjhadjpangaa.Cx

/- Calls that acme/acmelaw07.known makes, each known by a run of its own. Made by tools/cxkcalls.py. -/
namespace Go.Proofs.Ythagjhadjpangaa.Cx
set_option maxRecDepth 100000
set_option linter.unusedVariables false
open Go Go.Proofs Go.RowKit
def CxKn07K6 : KCall := ⟨35, [.agg [.bool (.c false), .int .i64 (.c (-1000)), .int .i64 (.c 1000), .int .i64 (.c (-500)), .int .i64 (.c 500), .slc (some (0, 0)) 2 2], .slc (some (1, 0)) 2 2, .slc (some (2, 0)) 2 2], [([.int .i64 (.c 10), .int .i64 (.c 20), .int .i64 (.c 50), .int .i64 (.c 100)], 2), ([.int .i64 (.c 200), .int .i64 (.c 0), .int .i64 (.c 100000), .int .i64 (.c 110000), .int .i64 (.c 100), .int .i64 (.c 1), .int .i64 (.c 100000), .int .i64 (.c 110000)], 4), ([.int .i64 (.c 0), .int .i64 (.c 231)], 1)], .tup [.int .i64 (.c (-1)), .int .i64 (.c 0)], []⟩
theorem CxKn07K6_run : CxKn07K6.says (eval (ctxOf Try.prog memo0) 1000 CxKn07K6.blks.length (.call CxKn07K6.g CxKn07K6.args) ⟨hB CxKn07K6.blks 0, CxKn07K6.blks.length, [], []⟩) = true := by kernel_rfl
theorem CxKn07K6_ok {ρ : Env} : CxKn07K6.Ok Try.prog ρ := KCall.of_run try_ok memo0_ok (by kernel_rfl) (by kernel_rfl) (by kernel_rfl) CxKn07K6_run
def CxKn07K7 : KCall := ⟨35, [.agg [.bool (.c false), .int .i64 (.c (-1000)), .int .i64 (.c 1000), .int .i64 (.c (-500)), .int .i64 (.c 500), .slc (some (0, 0)) 2 2], .slc (some (1, 0)) 2 2, .slc (some (2, 0)) 2 2], [([.int .i64 (.c 10), .int .i64 (.c 20), .int .i64 (.c 50), .int .i64 (.c 100)], 2), ([.int .i64 (.c 200), .int .i64 (.c 0), .int .i64 (.c 100000), .int .i64 (.c 110000), .int .i64 (.c 100), .int .i64 (.c 1), .int .i64 (.c 100000), .int .i64 (.c 110000)], 4), ([.int .i64 (.c 0), .int .i64 (.c 230)], 1)], .tup [.int .i64 (.c 0), .int .i64 (.c 0)], []⟩
theorem CxKn07K7_run : CxKn07K7.says (eval (ctxOf Try.prog memo0) 1000 CxKn07K7.blks.length (.call CxKn07K7.g CxKn07K7.args) ⟨hB CxKn07K7.blks 0, CxKn07K7.blks.length, [], []⟩) = true := by kernel_rfl
theorem CxKn07K7_ok {ρ : Env} : CxKn07K7.Ok Try.prog ρ := KCall.of_run try_ok memo0_ok (by kernel_rfl) (by kernel_rfl) (by kernel_rfl) CxKn07K7_run
end Go.Proofs.Ythagjhadjpangaa.Cx

/- Calls that acme/acmelaw07.known makes, each known by a run of its own. Made by tools/cxkcalls.py. -/
namespace Go.Proofs.Ythagjhadjpangaa.Cx
set_option maxRecDepth 100000
set_option linter.unusedVariables false
open Go Go.Proofs Go.RowKit
def CxKn07K8 : KCall := ⟨41, [.agg [.bool (.c false), .int .i64 (.c (-1000)), .int .i64 (.c 1000), .int .i64 (.c (-500)), .int .i64 (.c 500), .slc (some (0, 0)) 2 2], .agg [.int .i64 (.c 102400), .int .i64 (.c 103600)], .int .i64 (.c 1), .agg [.int .i64 (.c 100000), .int .i64 (.c 110000)]], [([.int .i64 (.c 10), .int .i64 (.c 20), .int .i64 (.c 50), .int .i64 (.c 100)], 2)], .tup [.int .i64 (.c 60), .int .i64 (.c 0)], []⟩
theorem CxKn07K8_run : CxKn07K8.says (eval (ctxOf Try.prog memo0) 1000 CxKn07K8.blks.length (.call CxKn07K8.g CxKn07K8.args) ⟨hB CxKn07K8.blks 0, CxKn07K8.blks.length, [], []⟩) = true := by kernel_rfl
theorem CxKn07K8_ok {ρ : Env} : CxKn07K8.Ok Try.prog ρ := KCall.of_run try_ok memo0_ok (by kernel_rfl) (by kernel_rfl) (by kernel_rfl) CxKn07K8_run
end Go.Proofs.Ythagjhadjpangaa.Cx

/- acme/acmelaw07.known returns true, in every world that holds what the listed variables hold: by the evaluator, its heavy calls by runs of their own. Made by tools/cxkcalls.py. -/
namespace Go.Proofs.Ythagjhadjpangaa.Cx
set_option maxRecDepth 100000
set_option linter.unusedVariables false
open Go Go.Proofs Go.RowKit
noncomputable def CxKn07C : Ctx := ctxOf Try.prog (memoK CxKn07K0 (memoK CxKn07K1 (memoK CxKn07K2 (memoK CxKn07K3 (memoK CxKn07K4 (memoK CxKn07K5 (memoK CxKn07K6 (memoK CxKn07K7 (memoK CxKn07K8 memo0)))))))))
theorem CxKn07_run : isTrue (eval CxKn07C 1000 0 (.call 14 []) .empty) = true := by kernel_rfl
theorem CxKn07_known : KnownB Try.prog 14 := known_of try_ok (memoK_ok CxKn07K0_ok (memoK_ok CxKn07K1_ok (memoK_ok CxKn07K2_ok (memoK_ok CxKn07K3_ok (memoK_ok CxKn07K4_ok (memoK_ok CxKn07K5_ok (memoK_ok CxKn07K6_ok (memoK_ok CxKn07K7_ok (memoK_ok CxKn07K8_ok memo0_ok))))))))) (by kernel_rfl) CxKn07_run
end Go.Proofs.Ythagjhadjpangaa.Cx

/- acme/acmelaw07.DieMosts as an automaton. Made by tools/cxauto.py. -/
namespace Go.Proofs.Ythagjhadjpangaa.Cx
set_option linter.unusedVariables false
set_option linter.unusedSimpArgs false
set_option maxRecDepth 100000
open Go Go.Proofs Go.RowKit
abbrev dlmR := Bool
instance : Inhabited dlmR := ⟨false⟩
end Go.Proofs.Ythagjhadjpangaa.Cx

/- Package die: Most, the program's and the reference's; DieMosts: the law's run. -/
namespace Go.Proofs.Ythagjhadjpangaa.Cx
set_option linter.unusedVariables false
set_option linter.unusedSimpArgs false
set_option maxRecDepth 100000
set_option maxHeartbeats 4000000
open Go Go.RowKit
section
variable {a0 : Bool} {a1 a2 a3 a4 : Int} {a5 : Nat} {a6 a7 : Nat → Int} {a8 : Nat} {a9 a10 a11 a12 : Nat → Int} {a13 : Int}
theorem rdf_val (h : JobOk a1 a2 a3 a4 a5 a6 a7 a8 a9 a10 a11 a12) (hT : 0 < PS a9 a8) (h3 : PS a9 a8 ≤ 9000) : AF.fin (rdfA a0 a1 a2 a3 a4 a5 a6 a7 a8 a9 a10 a11 a12) = true ∧ ((AF.val (rdfA a0 a1 a2 a3 a4 a5 a6 a7 a8 a9 a10 a11 a12)).1 : Int) = PS a9 a8 + 1 ∧ FewS (PS a9 a8) (loJ a0 a1 a3 a6 a7 a8 a9 a10 a11) (hiJ a0 a2 a4 a6 a7 a8 a9 a10 a12) (AF.val (rdfA a0 a1 a2 a3 a4 a5 a6 a7 a8 a9 a10 a11 a12)).1 (AF.val (rdfA a0 a1 a2 a3 a4 a5 a6 a7 a8 a9 a10 a11 a12)).2 := by
  obtain ⟨af, av⟩ := rda_val (a0 := a8) (a1 := a9) (a2 := a10) (a3 := a11) (a4 := a12) h.few h.pc
  have avE : AF.val (rdaA a8 (fun i => a9 i) (fun i => a10 i) (fun i => a11 i) (fun i => a12 i)) = _ := av
  have late := h.late (a0 := a0)
  refine AF.val_sat (A := rdfA a0 a1 a2 a3 a4 a5 a6 a7 a8 a9 a10 a11 a12) (E := fun v => (v.1 : Int) = PS a9 a8 + 1 ∧ FewS (PS a9 a8) (loJ a0 a1 a3 a6 a7 a8 a9 a10 a11) (hiJ a0 a2 a4 a6 a7 a8 a9 a10 a12) v.1 v.2)
    (Inv := fun b => match b with
      | .n0 p0 p1 p2 => p1 = p0 ∧ 1 ≤ p1 ∧ p1 ≤ PS a9 a8 + 1 ∧ FewS (PS a9 a8) (loJ a0 a1 a3 a6 a7 a8 a9 a10 a11) (hiJ a0 a2 a4 a6 a7 a8 a9 a10 a12) p0 p2
      | .n1 p0 p1 p2 p3 p4 p5 p6 => (p1 = p0 ∧ p5 = p0 ∧ p2 = p0) ∧ 1 ≤ p2 ∧ p2 ≤ PS a9 a8 ∧ -1 ≤ p4 ∧ p4 < p2 ∧ FewS (PS a9 a8) (loJ a0 a1 a3 a6 a7 a8 a9 a10 a11) (hiJ a0 a2 a4 a6 a7 a8 a9 a10 a12) p0 p6 ∧ BestS (loJ a0 a1 a3 a6 a7 a8 a9 a10 a11) (hiJ a0 a2 a4 a6 a7 a8 a9 a10 a12) p0 p6 p4 p3)
    (fun b => match b with | .n0 p0 p1 p2 => (PS a9 a8 + 1 - p1).toNat * 10000 | .n1 p0 p1 p2 p3 p4 p5 p6 => (PS a9 a8 - p2).toNat * 10000 + (p4 + 2).toNat) (fun b => rfl) (fun a hI => ?_) ?_
  · cases a with
    | n0 p0 p1 p2 =>
      obtain ⟨g0, g1, g2, g3⟩ := hI
      show DD.sat _ _ (rdfD a0 a1 a2 a3 a4 a5 a6 a7 a8 a9 a10 a11 a12 (.n0 p0 p1 p2))
      unfold rdfD
      have es : Ar.run .sub .i64 p1 1 = p1 - 1 := arSub (by omega)
      simp only [DD.sat, Nat.zero_add, cmLss, cmLssF, cmLeq, cmLeqF, cmGtr, cmGtrF, cmGeq, cmGeqF, cmEql, cmEqlF, cmNeq, cmNeqF, decide_eq_true_eq, Bool.not_eq_true', Bool.not_eq_false', avE, es]
      refine ⟨Nat.le_refl _, shape_ok fun i _ => rfl, af, fun hp => ⟨⟨⟨trivial, trivial, g0⟩, g1, hp, by omega, by omega, g3, ⟨by omega, by omega⟩, fun f f1 f2 => by omega, .inl rfl⟩, ?_⟩, fun hp => ⟨by omega, g3⟩⟩
      have e : (PS a9 a8 + 1 - p1).toNat = (PS a9 a8 - p1).toNat + 1 := by omega
      rw [e, Nat.add_mul]
      omega
    | n1 p0 p1 p2 p3 p4 p5 p6 =>
      obtain ⟨⟨rfl, rfl, rfl⟩, g1, g2, g3, g4, g5, ⟨b0, b1, b2⟩⟩ := hI
      show DD.sat _ _ (rdfD a0 a1 a2 a3 a4 a5 a6 a7 a8 a9 a10 a11 a12 (.n1 _ _ _ p3 p4 _ p6))
      unfold rdfD
      by_cases hq : 0 ≤ p4
      · have es : Ar.run .sub .i64 p4 1 = p4 - 1 := arSub (by omega)
        obtain ⟨tf, tv⟩ := rdt_val (a0 := a0) (a13 := p4) (a14 := p5) h hq (by omega) (by omega)
        have tvE : AF.val (rdtA a0 a1 a2 a3 a4 a5 (fun i => a6 i) (fun i => a7 i) a8 (fun i => a9 i) (fun i => a10 i) (fun i => a11 i) (fun i => a12 i) p4 p5) = _ := tv
        have fe := (g5 p4.toNat (by omega)).1
        have ea : Ar.run .add .i64 (p6 p4.toNat) 1 = p6 p4.toNat + 1 := arAdd (by omega)
        have e4 : ((p4.toNat : Nat) : Int) = p4 := Int.toNat_of_nonneg hq
        have skip : (p6 p4.toNat < 1000000 → CanP (loJ a0 a1 a3 a6 a7 a8 a9 a10 a11) (hiJ a0 a2 a4 a6 a7 a8 a9 a10 a12) p4 p5 → p3 ≤ p6 p4.toNat + 1) → BestS (loJ a0 a1 a3 a6 a7 a8 a9 a10 a11) (hiJ a0 a2 a4 a6 a7 a8 a9 a10 a12) p5 p6 (p4 - 1) p3 := fun hs => ⟨b0, fun f f1 f2 f3 f4 => by
          by_cases he : p4 < f
          · exact b1 f he f2 f3 f4
          · obtain rfl : f = p4.toNat := by omega
            rw [e4] at f4
            exact hs f3 f4, b2⟩
        simp only [DD.sat, Nat.zero_add, cmLss, cmLssF, cmLeq, cmLeqF, cmGtr, cmGtrF, cmGeq, cmGeqF, cmEql, cmEqlF, cmNeq, cmNeqF, decide_eq_true_eq, Bool.not_eq_true', Bool.not_eq_false', tvE, es, ea, arMn]
        refine ⟨fun _ => ⟨hq, by omega, by omega, fun hn => ⟨Nat.le_refl _, shape_ok fun i _ => rfl, Nat.le_refl _, shape_ok fun i _ => rfl, tf, fun hc => ⟨hq, by omega, by omega, ⟨⟨trivial, trivial, trivial⟩, g1, g2, by omega, by omega, g5, ⟨by omega, by omega⟩, fun f f1 f2 f3 f4 => ?_, ?_⟩, by omega⟩, fun hc => ⟨⟨⟨trivial, trivial, trivial⟩, g1, g2, by omega, by omega, g5, skip fun _ hx => absurd hx (Int.not_le.2 hc)⟩, by omega⟩⟩, fun hn => ⟨⟨⟨trivial, trivial, trivial⟩, g1, g2, by omega, by omega, g5, skip fun hx => by omega⟩, by omega⟩⟩, fun hx => by omega⟩
        · show min p3 (p6 p4.toNat + 1) ≤ p6 f + 1
          by_cases he : p4 < f
          · have := b1 f he f2 f3 f4
            omega
          · obtain rfl : f = p4.toNat := by omega
            omega
        · rcases b2 with b2 | ⟨f, f1, f2, f3, f4⟩
          · exact .inr ⟨p4.toNat, by omega, hn, by rw [e4]; exact hc, (show min p3 (p6 p4.toNat + 1) = p6 p4.toNat + 1 by omega)⟩
          · by_cases hm : p3 ≤ p6 p4.toNat + 1
            · exact .inr ⟨f, f1, f2, f3, (show min p3 (p6 p4.toNat + 1) = p6 f + 1 by omega)⟩
            · exact .inr ⟨p4.toNat, by omega, hn, by rw [e4]; exact hc, (show min p3 (p6 p4.toNat + 1) = p6 p4.toNat + 1 by omega)⟩
      · obtain rfl : p4 = -1 := by omega
        have ea : Ar.run .add .i64 (p5 : Int) 1 = (p5 : Int) + 1 := arAdd (by omega)
        simp only [DD.sat, Nat.zero_add, cmLss, cmLssF, cmLeq, cmLeqF, cmGtr, cmGtrF, cmGeq, cmGeqF, cmEql, cmEqlF, cmNeq, cmNeqF, decide_eq_true_eq, Bool.not_eq_true', Bool.not_eq_false', ea]
        refine ⟨fun hx => by omega, fun _ => ⟨Nat.le_refl _, by omega, ⟨by omega, by omega, by omega, fun j hj => ?_⟩, ?_⟩⟩
        · dsimp only
          by_cases he : j < p5
          · rw [bif_lt he]
            exact g5 j he
          · obtain rfl : j = p5 := by omega
            rw [bif_ge]
            exact ⟨b0, few_next late (by omega) (by omega) g2 g5 ⟨b0, b1, b2⟩⟩
        · have e : (PS a9 a8 + 1 - ((p5 : Int) + 1)).toNat = (PS a9 a8 - p5).toNat := by omega
          rw [e]
          omega
  · refine ⟨rfl, Int.le_refl _, by omega, fun j hj => ?_⟩
    obtain rfl : j = 0 := by omega
    refine ⟨⟨Int.le_refl _, (by decide : (0 : Int) ≤ 1000000)⟩, fun k _ => ?_⟩
    have r := GE_rng late (by omega) k
    show (0 : Int) ≤ k ↔ _
    constructor <;> intro _ <;> omega
def DmsS (G : Int) : dmos0R → Prop
  | .r0 q0 q1 => q1 = G
  | .r1 q0 q1 => q1 = G
theorem dms_gen (h : JobOk a1 a2 a3 a4 a5 a6 a7 a8 a9 a10 a11 a12) (hs : 0 ≤ a13 ∧ a13 ≤ 1000) : ∃ n v, AF.run (dmos0A a0 a1 a2 a3 a4 a5 a6 a7 a8 a9 a10 a11 a12 a13 a0 a1 a2 a3 a4 a5 a8 (PS a9 a8)) n = some v ∧ DmsS (GE (PS a9 a8) (loJ a0 a1 a3 a6 a7 a8 a9 a10 a11) (hiJ a0 a2 a4 a6 a7 a8 a9 a10 a12) a13.toNat) v := by
  have late := h.late (a0 := a0)
  have r := PS_rng h.pc a8 (Nat.le_refl _)
  refine AF.run_sat (E := DmsS (GE (PS a9 a8) (loJ a0 a1 a3 a6 a7 a8 a9 a10 a11) (hiJ a0 a2 a4 a6 a7 a8 a9 a10 a12) a13.toNat)) (Inv := fun b => match b with | .n0 q0 q1 => 0 ≤ q1 ∧ q1 ≤ a13 ∧ q0 = GE (PS a9 a8) (loJ a0 a1 a3 a6 a7 a8 a9 a10 a11) (hiJ a0 a2 a4 a6 a7 a8 a9 a10 a12) (a13 - q1).toNat)
    (fun b => match b with | .n0 q0 q1 => q1.toNat) (fun b => rfl) (fun a hI => ?_) ?_
  · cases a with
    | n0 q0 q1 =>
      obtain ⟨g0, g1, g2⟩ := hI
      have gr := GE_rng late (by omega) (a13 - q1).toNat
      rw [← g2] at gr
      have stuck : JO (PS a9 a8) (loJ a0 a1 a3 a6 a7 a8 a9 a10 a11) (hiJ a0 a2 a4 a6 a7 a8 a9 a10 a12) q0 = 0 → q0 = GE (PS a9 a8) (loJ a0 a1 a3 a6 a7 a8 a9 a10 a11) (hiJ a0 a2 a4 a6 a7 a8 a9 a10 a12) a13.toNat := fun hj => by
        rw [g2] at hj
        have := GE_stuck late hj q1.toNat
        rw [show (a13 - q1).toNat + q1.toNat = a13.toNat by omega] at this
        rw [this, g2]
      show DD.sat _ _ (dmos0D a0 a1 a2 a3 a4 a5 a6 a7 a8 a9 a10 a11 a12 a13 a0 a1 a2 a3 a4 a5 a8 (PS a9 a8) (.n0 q0 q1))
      unfold dmos0D
      by_cases hq : q0 < PS a9 a8
      · obtain ⟨rf, x, y, z, rv, hR⟩ := drc_gen (a0 := a0) (a13 := PS a9 a8) (a14 := -10000000000) (a15 := 20000000000) (a16 := q0) (a17 := PS a9 a8) h gr.1 (by omega) (Int.le_refl _)
        obtain ⟨J, hJ, rfl, _⟩ := rj_of h gr.1 hq hR
        have ej := JO_of late gr.1 gr.2 hJ
        have rvE : AF.val (drcA a0 a1 a2 a3 a4 a5 (fun i => a6 i) (fun i => a7 i) a8 (fun i => a9 i) (fun i => a10 i) (fun i => a11 i) (fun i => a12 i) (PS a9 a8) (-10000000000) 20000000000 q0 (PS a9 a8)) = _ := rv
        have es : Ar.run .sub .i64 q1 1 = q1 - 1 := arSub (by omega)
        simp only [DD.sat, Nat.zero_add, cmLss, cmLssF, cmLeq, cmLeqF, cmGtr, cmGtrF, cmGeq, cmGeqF, cmEql, cmEqlF, cmNeq, cmNeqF, decide_eq_true_eq, Bool.not_eq_true', Bool.not_eq_false', rvE, es]
        refine ⟨fun _ => ⟨Nat.le_refl _, shape_ok fun i _ => rfl, Nat.le_refl _, shape_ok fun i _ => rfl, rf, fun hx => stuck (by omega), fun hx => ⟨fun hz => ?_, fun hz => ⟨⟨by omega, by omega, ?_⟩, by omega⟩⟩⟩, fun hx => by omega⟩
        · rw [hz, show (a13 - 0).toNat = a13.toNat by omega] at g2
          exact g2
        · rw [show (a13 - (q1 - 1)).toNat = (a13 - q1).toNat + 1 by omega, GE, ← g2, ej]
      · simp only [DD.sat, Nat.zero_add, cmLss, cmLssF, cmLeq, cmLeqF, cmGtr, cmGtrF, cmGeq, cmGeqF, cmEql, cmEqlF, cmNeq, cmNeqF, decide_eq_true_eq, Bool.not_eq_true', Bool.not_eq_false']
        refine ⟨fun hx => by omega, fun _ => stuck ?_⟩
        have := (JO_spec late gr.1 gr.2).1
        omega
  · show 0 ≤ a13 ∧ a13 ≤ a13 ∧ (0 : Int) = GE _ _ _ (a13 - a13).toNat
    rw [show (a13 - a13).toNat = 0 by omega]
    exact ⟨hs.1, Int.le_refl _, rfl⟩
def MosE (a0 : Bool) (a1 a2 a3 a4 : Int) (a5 : Nat) (a6 a7 : Nat → Int) (a8 : Nat) (a9 a10 a11 a12 : Nat → Int) (a13 : Int) (v : Int × Int) : Prop :=
  ∃ e, CkS a5 a8 (ToolOk a5 a6 a7 a1 a2 a3 a4) a9 a10 a11 a12 e ∧ (e ≠ 0 ∧ v = (0, e) ∨ e = 0 ∧ (¬ (0 ≤ a13 ∧ a13 ≤ 1000) ∧ v = (0, 3) ∨
    (0 ≤ a13 ∧ a13 ≤ 1000) ∧ v = (GE (PS a9 a8) (loJ a0 a1 a3 a6 a7 a8 a9 a10 a11) (hiJ a0 a2 a4 a6 a7 a8 a9 a10 a12) a13.toNat, 0)))
theorem dmo_mono : AF.Mono (dmoA a0 a1 a2 a3 a4 a5 a6 a7 a8 a9 a10 a11 a12 a13) := AF.mono_map fun a => by
  cases a with
  | n0 p0 p1 p2 p3 p4 p5 p6 p7 => exact .inr ⟨_, _, _, _, AF.mono_none (fun _ => rfl), rfl⟩
theorem dmo_val (hn : a5 ≤ 10000) (hm : a8 ≤ 10000) : AF.fin (dmoA a0 a1 a2 a3 a4 a5 a6 a7 a8 a9 a10 a11 a12 a13) = true ∧ MosE a0 a1 a2 a3 a4 a5 a6 a7 a8 a9 a10 a11 a12 a13 (AF.val (dmoA a0 a1 a2 a3 a4 a5 a6 a7 a8 a9 a10 a11 a12 a13)) := by
  obtain ⟨hf, e, hC, hv⟩ := dsh_val (a0 := a0) (a1 := a1) (a2 := a2) (a3 := a3) (a4 := a4) (a5 := a5) (a6 := a6) (a7 := a7) (a8 := a8) (a9 := a9) (a10 := a10) (a11 := a11) (a12 := a12) hn hm
  refine AF.val_satR (A := dmoA a0 a1 a2 a3 a4 a5 a6 a7 a8 a9 a10 a11 a12 a13) (E := MosE a0 a1 a2 a3 a4 a5 a6 a7 a8 a9 a10 a11 a12 a13) (Inv := fun b => match b with | .n0 p0 p1 p2 p3 p4 p5 p6 p7 => (p0 = a0 ∧ p1 = a1 ∧ p2 = a2 ∧ p3 = a3 ∧ p4 = a4 ∧ p5 = a5 ∧ p6 = a8 ∧ p7 = PS a9 a8) ∧ e = 0 ∧ 0 ≤ a13 ∧ a13 ≤ 1000) dmo_mono (fun _ => 0) (fun a hI => .inr ?_) ?_
  · cases a with
    | n0 p0 p1 p2 p3 p4 p5 p6 p7 =>
      obtain ⟨⟨rfl, rfl, rfl, rfl, rfl, rfl, rfl, rfl⟩, rfl, g0, g1⟩ := hI
      obtain ⟨n, v, hv, hE⟩ := dms_gen (a0 := p0) hC.job ⟨g0, g1⟩
      refine ⟨_, n, dmoRg0 p0 p1 p2 p3 p4 p5 a6 a7 p6 a9 a10 a11 a12 a13 p0 p1 p2 p3 p4 p5 p6 (PS a9 p6) v, rfl, ?_, ?_⟩
      · show Option.map _ (AF.run _ n) = _
        rw [hv]; rfl
      · cases v with
        | r0 q0 q1 =>
          obtain rfl : q1 = _ := hE
          exact ⟨0, hC, .inr ⟨rfl, .inr ⟨⟨g0, g1⟩, rfl⟩⟩⟩
        | r1 q0 q1 =>
          obtain rfl : q1 = _ := hE
          exact ⟨0, hC, .inr ⟨rfl, .inr ⟨⟨g0, g1⟩, rfl⟩⟩⟩
  · show DD.sat _ _ (dmoD0 a0 a1 a2 a3 a4 a5 a6 a7 a8 a9 a10 a11 a12 a13)
    unfold dmoD0
    rcases hv with ⟨he, hv⟩ | ⟨rfl, hv⟩
    · have hv' : AF.val (dshA a0 a1 a2 a3 a4 a5 (fun i => a6 i) (fun i => a7 i) a8 (fun i => a9 i) (fun i => a10 i) (fun i => a11 i) (fun i => a12 i)) = .r0 e := hv
      simp only [DD.sat, Nat.zero_add, cmLss, cmLssF, cmLeq, cmLeqF, cmGtr, cmGtrF, cmGeq, cmGeqF, cmEql, cmEqlF, cmNeq, cmNeqF, decide_eq_true_eq, Bool.not_eq_true', Bool.not_eq_false', hv', dshw8]
      refine ⟨Nat.le_refl _, shape_ok fun i _ => rfl, Nat.le_refl _, shape_ok fun i _ => rfl, hf, fun _ => ⟨e, hC, .inl ⟨he, rfl⟩⟩, fun hx => absurd hx he⟩
    · have hv' : AF.val (dshA a0 a1 a2 a3 a4 a5 (fun i => a6 i) (fun i => a7 i) a8 (fun i => a9 i) (fun i => a10 i) (fun i => a11 i) (fun i => a12 i)) = .r1 a0 a1 a2 a3 a4 a5 a8 (PS a9 a8) := hv
      have bad : ¬ (0 ≤ a13 ∧ a13 ≤ 1000) → MosE a0 a1 a2 a3 a4 a5 a6 a7 a8 a9 a10 a11 a12 a13 (0, 3) := fun hb => ⟨0, hC, .inr ⟨rfl, .inl ⟨hb, rfl⟩⟩⟩
      simp only [DD.sat, Nat.zero_add, cmLss, cmLssF, cmLeq, cmLeqF, cmGtr, cmGtrF, cmGeq, cmGeqF, cmEql, cmEqlF, cmNeq, cmNeqF, decide_eq_true_eq, Bool.not_eq_true', Bool.not_eq_false', hv', dshw0, dshw1, dshw2, dshw3, dshw4, dshw5, dshw6, dshw7, dshw8]
      refine ⟨Nat.le_refl _, shape_ok fun i _ => rfl, Nat.le_refl _, shape_ok fun i _ => rfl, hf, fun hx => absurd rfl hx, fun _ => ⟨fun h => bad (by omega), fun h1 => ⟨fun h => bad (by omega), fun h2 => (by repeat' (first | trivial | omega | apply And.intro))⟩⟩⟩
end
end Go.Proofs.Ythagjhadjpangaa.Cx

/- Package die: no fewer settings will do, in plain Lean. -/
namespace Go.Proofs.Ythagjhadjpangaa.Cx
set_option linter.unusedVariables false
set_option linter.unusedSimpArgs false
set_option maxRecDepth 100000
set_option maxHeartbeats 4000000
open Go Go.RowKit
section
variable {T : Int} {lo hi : Int → Nat → Int} {k : Nat} {f : Int} {F G : Nat → Int}
theorem Chn.ge (m : Late T lo hi) (hT : 0 ≤ T) (h : Chn T lo hi k f F G) : GE T lo hi k = f ∧ ∀ i, i < k → F i = GE T lo hi i ∧ GE T lo hi i < GE T lo hi (i + 1) := by
  obtain ⟨E, e0, ek, h⟩ := h
  have ag : ∀ i, i ≤ k → GE T lo hi i = E i := by
    intro i
    induction i with
    | zero => intro _; rw [GE, e0]
    | succ i ih =>
      intro hq
      have a := ih (by omega)
      obtain ⟨_, J, j0, r, e, _⟩ := h i (by omega)
      have g := GE_rng m hT i
      rw [← a] at r e
      rw [GE, JO_of m g.1 g.2 r, e]
  refine ⟨by rw [ag k (Nat.le_refl _), ek], fun i hq => ?_⟩
  obtain ⟨a, J, j0, r, e, _⟩ := h i hq
  rw [ag i (by omega), ag (i + 1) (by omega)]
  exact ⟨a, by omega⟩
theorem Chn.proof (m : Late T lo hi) (hT : 0 ≤ T) (h : Chn T lo hi k T F G) : ProvS lo hi k F (-1) := by
  obtain ⟨_, g⟩ := h.ge m hT
  refine .inl ⟨rfl, fun i hq hc => ?_⟩
  obtain ⟨a1, a2⟩ := g i (by omega)
  obtain ⟨b1, b2⟩ := g (i + 1) hq
  have r := GE_rng m hT i
  have r2 := GE_rng m hT (i + 1 + 1)
  rw [a1, b1] at hc
  have c := (can_iff m r.1 (by omega) (by omega)).1 hc
  have e : GE T lo hi (i + 1) = GE T lo hi i + JO T lo hi (GE T lo hi i) := rfl
  omega
theorem Stk.less (m : Late T lo hi) (hT : 0 ≤ T) (h : Stk T lo hi) (j : Nat) : GE T lo hi j < T := by
  obtain ⟨k, f, F, G, c, hf, hs⟩ := h
  have e := (c.ge m hT).1
  have r := GE_rng m hT k
  have jo : JO T lo hi (GE T lo hi k) = 0 := by rw [e]; exact JO_of m (by omega) (by omega) hs
  by_cases hj : j ≤ k
  · have := GE_mono m (i := j) k hj
    omega
  · have := GE_stuck m jo (j - k)
    rw [show k + (j - k) = j by omega] at this
    omega
/-- With c settings no more pieces can be sure than those that go as far as they can reach. -/
theorem judge_le (m : Late T lo hi) (hT : 0 ≤ T) {tl th : Int → Nat → Int} {c : Nat} {F G : Nat → Int} (ho : OrdS c F T) {r : Int} (h0 : 0 ≤ r) (h1 : r ≤ T) (hs : ∀ p, 0 ≤ p → p < r → SureW tl th c F G p)
    (hcan : ∀ i, i < c → ∀ x, F i < x → x ≤ T → (∀ p, F i ≤ p → p < x → tl (F i) (p - F i).toNat ≤ G i ∧ G i ≤ th (F i) (p - F i).toNat) → CanP lo hi (F i) x) : r ≤ GE T lo hi c := by
  have one : ∀ i, i < c → ∀ x, F i < x → x ≤ r → (i + 1 < c → x ≤ F (i + 1)) → CanP lo hi (F i) x := fun i hq x x0 x1 x2 => by
    refine hcan i hq x x0 (by omega) fun p p0 p1 => ?_
    have b := ho.1 i hq
    obtain ⟨j, j1, j2, j3, j4, j5⟩ := hs p (by omega) (by omega)
    obtain rfl := same_setting ho hq j1 p0 (fun hx => by have := x2 hx; omega) j2 j3
    exact ⟨j4, j5⟩
  have nx : ∀ i x, F i ≤ GE T lo hi i → i < c → F i < x → x ≤ r → (i + 1 < c → x ≤ F (i + 1)) → x ≤ GE T lo hi (i + 1) := fun i x a hq x0 x1 x2 => by
    have g := GE_rng m hT i
    by_cases hx : x ≤ GE T lo hi i
    · have := GE_mono m (i := i) (i + 1) (by omega)
      omega
    · have cn := m.late (F i) (GE T lo hi i) x (ho.1 i hq).1 a (by omega) (by omega) (one i hq x x0 x1 x2)
      have := (can_iff m g.1 (by omega) (by omega)).1 cn
      rw [GE]
      exact this
  have A : ∀ i, i < c → F i ≤ r → F i ≤ GE T lo hi i := by
    intro i
    induction i with
    | zero =>
      intro hq hr
      have z : F 0 = 0 := by
        have b := (ho.1 0 hq).1
        by_cases hr0 : r = 0
        · omega
        · obtain ⟨j, j1, j2, _⟩ := hs 0 (by omega) (by omega)
          by_cases hj : j = 0
          · subst hj; omega
          · have := ho.asc (i := 0) j (by omega) j1
            omega
      rw [z, GE]
      exact Int.le_refl _
    | succ i ih =>
      intro hq hr
      have a := ho.2 i hq
      exact nx i (F (i + 1)) (ih (by omega) (by omega)) (by omega) a hr (fun _ => Int.le_refl _)
  by_cases hr0 : r = 0
  · have := GE_rng m hT c
    omega
  · obtain ⟨i, i1, i2, i3, _⟩ := hs (r - 1) (by omega) (by omega)
    have := nx i r (A i i1 (by omega)) i1 (by omega) (Int.le_refl _) (fun hx => by have := i3 hx; omega)
    have := GE_mono m (i := i + 1) c (by omega)
    omega
end
section
variable {b : Bool} {s1 s2 c1 c2 : Int} {n : Nat} {w1 w2 : Nat → Int} {m : Nat} {pc st zl zh : Nat → Int}
theorem can_of (h : JobOk s1 s2 c1 c2 n w1 w2 m pc st zl zh) {f x g : Int} (h0 : 0 ≤ f) (h1 : f < x) (h2 : x ≤ PS pc m) (hg : -10000000000 ≤ g ∧ g ≤ 20000000000) (hs : ∀ p, f ≤ p → p < x → tlP b s1 c1 w1 w2 st pc zl m f (p - f).toNat ≤ g ∧ g ≤ thP b s2 c2 w1 w2 st pc zh m f (p - f).toNat) : CanP (loJ b s1 c1 w1 w2 m pc st zl) (hiJ b s2 c2 w1 w2 m pc st zh) f x := by
  have a := (LoM_le (t := -1152921504606846976) (x := g) (tl := tlP b s1 c1 w1 w2 st pc zl m f) (x - f).toNat).2 ⟨by omega, fun j hj => by
    have := (hs (f + j) (by omega) (by omega)).1
    rw [show (f + j - f).toNat = j by omega] at this
    exact this⟩
  have b := (HiM_ge (t := 1152921504606846976) (x := g) (th := thP b s2 c2 w1 w2 st pc zh m f) (x - f).toNat).2 ⟨by omega, fun j hj => by
    have := (hs (f + j) (by omega) (by omega)).2
    rw [show (f + j - f).toNat = j by omega] at this
    exact this⟩
  exact Int.le_trans a b
end
end Go.Proofs.Ythagjhadjpangaa.Cx
