/- sort.Search as an automaton. Made by tools/cxauto.py. -/
import Derived.Test.YthagjhadjpangaaPkDTurned4

namespace Go.Proofs.Ythagjhadjpangaa.Cx
set_option linter.unusedVariables false
set_option linter.unusedSimpArgs false
set_option maxRecDepth 100000
open Go Go.Proofs Go.RowKit
noncomputable abbrev dseCode : Code := funcCode Try.f91
inductive dseN where
  | n0 (p0 p1 : Int)
abbrev dseR := Int
noncomputable def dseD0 (a0 a1 a2 : Int) (a3 : Bool) (a4 a5 a6 a7 : Int) (a8 : Nat) (a9 a10 : Nat → Int) (a11 : Nat) (a12 a13 a14 a15 : Nat → Int) (a16 a17 a18 a19 a20 a21 a22 a23 a24 : Int) : DD (Lf dseN dseR) :=
 .leaf (.next (.n0 0 a0) [])

noncomputable def dseD (a0 a1 a2 : Int) (a3 : Bool) (a4 a5 a6 a7 : Int) (a8 : Nat) (a9 a10 : Nat → Int) (a11 : Nat) (a12 a13 a14 a15 : Nat → Int) (a16 a17 a18 a19 a20 a21 a22 a23 a24 : Int) : dseN → DD (Lf dseN dseR)
 | .n0 p0 p1 =>
 let z0 := decide (0 + a8 ≤ a8)
 let z1 := fun i => [CV.int IntKind.i64 (IE.x (a9 (0 + i))), CV.int IntKind.i64 (IE.x (a10 (0 + i)))]
 let z2 := ShapeOk [some IntKind.i64, some IntKind.i64] (tabOf a8 z1) z1
 let z3 := decide (0 + a11 ≤ a11)
 let z4 := fun i => [CV.int IntKind.i64 (IE.x (a12 (0 + i))), CV.int IntKind.i64 (IE.x (a13 (0 + i))), CV.int IntKind.i64 (IE.x (a14 (0 + i))), CV.int IntKind.i64 (IE.x (a15 (0 + i)))]
 let z5 := ShapeOk [some IntKind.i64, some IntKind.i64, some IntKind.i64, some IntKind.i64] (tabOf a11 z4) z4
 let z6 := fun i => a9 (0 + i)
 let z7 := fun i => a10 (0 + i)
 let z8 := fun i => a12 (0 + i)
 let z9 := fun i => a13 (0 + i)
 let z10 := fun i => a14 (0 + i)
 let z11 := fun i => a15 (0 + i)
 let z12 := dtgA a3 a4 a5 a6 a7 a8 z6 z7 a11 z8 z9 z10 z11 a16 a19 a20 a23 a24
 let z13 := Ar.run .conv .i64 (Ar.run .shr .u64 (Ar.run .conv .u64 (Ar.run .add .i64 p0 p1) 0) 1) 0
 let z14 := dwoA a3 a4 a5 a6 a7 a8 z6 z7 a11 z8 z9 z10 z11 a16 a23 a24 a18 z13
 let z15 := AF.val z14
 let z16 := dtgA a3 a4 a5 a6 a7 a8 z6 z7 a11 z8 z9 z10 z11 a16 a19 a20 (Prod.fst z15) (Prod.snd z15)
 let z17 := AF.val z12
 let z18 := AF.val z16
 .ask (Cm.run .lss p0 p1)
   (.must z0
   (.must z2
   (.must z3
   (.must z5
   (.must (AF.fin z12)
   (.must z0
   (.must z2
   (.must z3
   (.must z5
   (.must (AF.fin z14)
   (.must z0
   (.must z2
   (.must z3
   (.must z5
   (.must (AF.fin z16)
   (.ask (Cm.run .gtr (Ar.run .mx .i64 (Ar.run .mx .i64 a1 (Prod.fst z17)) (Prod.fst z18)) (Ar.run .mn .i64 (Ar.run .mn .i64 a2 (Prod.snd z17)) (Prod.snd z18)))
   (.leaf (.next (.n0 p0 z13) []))
   (.leaf (.next (.n0 (Ar.run .add .i64 z13 1) p1) []))))))))))))))))))
   (.leaf (.done p0 []))

noncomputable def dseA (a0 a1 a2 : Int) (a3 : Bool) (a4 a5 a6 a7 : Int) (a8 : Nat) (a9 a10 : Nat → Int) (a11 : Nat) (a12 a13 a14 a15 : Nat → Int) (a16 a17 a18 a19 a20 a21 a22 a23 a24 : Int) : AF dseN dseR where
  code := dseCode
  base := 7
  nt := 26
  m := 400
  un := []
  W := []
  h0 := [(0, ⟨.arg 1 1 (fun i => [.fn (.func 88) [] [.ptr (some (1, 0)), .ptr (some (2, 0)), .ptr (some (5, 0)), .ptr (some (6, 0))]]) (fun _ => ⟨rfl, rfl⟩), 1, true, none⟩), (1, ⟨.arg 1 2 (fun i => [.int .i64 (.x a1), .int .i64 (.x a2)]) (fun _ => ⟨rfl, rfl⟩), 2, true, none⟩), (2, ⟨.arg 1 8 (fun i => [.bool (.x a3), .int .i64 (.x a4), .int .i64 (.x a5), .int .i64 (.x a6), .int .i64 (.x a7), .sla 3 2 0 a8, .sla 4 4 0 a11, .int .i64 (.x a16)]) (fun _ => ⟨rfl, rfl⟩), 8, true, none⟩), (3, ⟨.arg a8 2 (fun i => [.int .i64 (.x (a9 i)), .int .i64 (.x (a10 i))]) (fun _ => ⟨rfl, rfl⟩), 2, true, none⟩), (4, ⟨.arg a11 4 (fun i => [.int .i64 (.x (a12 i)), .int .i64 (.x (a13 i)), .int .i64 (.x (a14 i)), .int .i64 (.x (a15 i))]) (fun _ => ⟨rfl, rfl⟩), 4, true, none⟩), (5, ⟨.arg 1 6 (fun i => [.int .i64 (.x a17), .int .i64 (.x a18), .int .i64 (.x a19), .int .i64 (.x a20), .int .i64 (.x a21), .int .i64 (.x a22)]) (fun _ => ⟨rfl, rfl⟩), 6, true, none⟩), (6, ⟨.arg 1 2 (fun i => [.int .i64 (.x a23), .int .i64 (.x a24)]) (fun _ => ⟨rfl, rfl⟩), 2, true, none⟩)]
  args := [.int .i64 (.x a0), .fn (.func 90) [] [.ptr (some (0, 0))]]
  res := (Try.f91).results.toList
  path := fun a => match a with
   | .n0 p0 p1 => [1, 1, 0, 0]
  pd := fun a => match a with
   | .n0 p0 p1 => ⟨[(1, .fn (.func 90) [] [.ptr (some (0, 0))]), (5, .int .i64 (.x p0)), (6, .int .i64 (.x p1))], [], 7, []⟩
  D0 := dseD0 a0 a1 a2 a3 a4 a5 a6 a7 a8 a9 a10 a11 a12 a13 a14 a15 a16 a17 a18 a19 a20 a21 a22 a23 a24
  D := dseD a0 a1 a2 a3 a4 a5 a6 a7 a8 a9 a10 a11 a12 a13 a14 a15 a16 a17 a18 a19 a20 a21 a22 a23 a24
  rc := (fun v => .int .i64 (.x v))
  rh := (fun v => [])
  rn := (fun v => 7)
  rx := (fun v => [])
  rgo := (fun _ => none)
theorem dsestart (a0 a1 a2 : Int) (a3 : Bool) (a4 a5 a6 a7 : Int) (a8 : Nat) (a9 a10 : Nat → Int) (a11 : Nat) (a12 a13 a14 a15 : Nat → Int) (a16 a17 a18 a19 a20 a21 a22 a23 a24 : Int) : AF.edgeOk (dseA a0 a1 a2 a3 a4 a5 a6 a7 a8 a9 a10 a11 a12 a13 a14 a15 a16 a17 a18 a19 a20 a21 a22 a23 a24) (ctxOf Try.prog memo0) (dseD0 a0 a1 a2 a3 a4 a5 a6 a7 a8 a9 a10 a11 a12 a13 a14 a15 a16 a17 a18 a19 a20 a21 a22 a23 a24) (AF.run0 (dseA a0 a1 a2 a3 a4 a5 a6 a7 a8 a9 a10 a11 a12 a13 a14 a15 a16 a17 a18 a19 a20 a21 a22 a23 a24) (ctxOf Try.prog (memoS 65 dwoP dwoF dwoW dwoH 2 (memoS 89 dtgP dtgF dtgW dtgH 2 memo0)))) := by unfold AF.edgeOk; kernel_rfl
theorem dsenode0 (a0 a1 a2 : Int) (a3 : Bool) (a4 a5 a6 a7 : Int) (a8 : Nat) (a9 a10 : Nat → Int) (a11 : Nat) (a12 a13 a14 a15 : Nat → Int) (a16 a17 a18 a19 a20 a21 a22 a23 a24 p0 p1 : Int) : AF.edgeOk (dseA a0 a1 a2 a3 a4 a5 a6 a7 a8 a9 a10 a11 a12 a13 a14 a15 a16 a17 a18 a19 a20 a21 a22 a23 a24) (ctxOf Try.prog memo0) (dseD a0 a1 a2 a3 a4 a5 a6 a7 a8 a9 a10 a11 a12 a13 a14 a15 a16 a17 a18 a19 a20 a21 a22 a23 a24 (.n0 p0 p1)) (AF.runN (dseA a0 a1 a2 a3 a4 a5 a6 a7 a8 a9 a10 a11 a12 a13 a14 a15 a16 a17 a18 a19 a20 a21 a22 a23 a24) (ctxOf Try.prog (memoS 65 dwoP dwoF dwoW dwoH 2 (memoS 89 dtgP dtgF dtgW dtgH 2 memo0))) (.n0 p0 p1)) := by unfold AF.edgeOk; kernel_rfl
theorem dseok (a0 a1 a2 : Int) (a3 : Bool) (a4 a5 a6 a7 : Int) (a8 : Nat) (a9 a10 : Nat → Int) (a11 : Nat) (a12 a13 a14 a15 : Nat → Int) (a16 a17 a18 a19 a20 a21 a22 a23 a24 : Int) : (dseA a0 a1 a2 a3 a4 a5 a6 a7 a8 a9 a10 a11 a12 a13 a14 a15 a16 a17 a18 a19 a20 a21 a22 a23 a24).Ok Try.prog (ctxOf Try.prog (memoS 65 dwoP dwoF dwoW dwoH 2 (memoS 89 dtgP dtgF dtgW dtgH 2 memo0))) where
  regs := by kernel_rfl
  h0 := by kernel_rfl
  start := dsestart a0 a1 a2 a3 a4 a5 a6 a7 a8 a9 a10 a11 a12 a13 a14 a15 a16 a17 a18 a19 a20 a21 a22 a23 a24
  node := fun a _ => match a with
   | .n0 p0 p1 => dsenode0 a0 a1 a2 a3 a4 a5 a6 a7 a8 a9 a10 a11 a12 a13 a14 a15 a16 a17 a18 a19 a20 a21 a22 a23 a24 p0 p1
  pd := fun a => match a with
   | .n0 p0 p1 => ⟨(fa_cons rfl (fa_cons rfl (fa_cons rfl fa_nil))), fa_nil, fa_nil, rfl⟩
  le := fun a => match a with
   | .n0 p0 p1 => Nat.le_of_ble_eq_true rfl
  rd := fun v => ⟨⟨fa_nil, fa_nil, fa_nil, rfl⟩, rfl⟩
  wb := rfl
theorem dsehR {ρ : Env} (a0 a1 a2 : Int) (a3 : Bool) (a4 a5 a6 a7 : Int) (a8 : Nat) (a9 a10 : Nat → Int) (a11 : Nat) (a12 a13 a14 a15 : Nat → Int) (a16 a17 a18 a19 a20 a21 a22 a23 a24 : Int) (hM : MemoOk Try.prog (ctxOf Try.prog (memoS 65 dwoP dwoF dwoW dwoH 2 (memoS 89 dtgP dtgF dtgW dtgH 2 memo0))) ρ) : ∀ X a q n D, FxOk ρ X → X.base = (dseA a0 a1 a2 a3 a4 a5 a6 a7 a8 a9 a10 a11 a12 a13 a14 a15 a16 a17 a18 a19 a20 a21 a22 a23 a24).base → X.nt = (dseA a0 a1 a2 a3 a4 a5 a6 a7 a8 a9 a10 a11 a12 a13 a14 a15 a16 a17 a18 a19 a20 a21 a22 a23 a24).nt → X.W = (dseA a0 a1 a2 a3 a4 a5 a6 a7 a8 a9 a10 a11 a12 a13 a14 a15 a16 a17 a18 a19 a20 a21 a22 a23 a24).W → (dseA a0 a1 a2 a3 a4 a5 a6 a7 a8 a9 a10 a11 a12 a13 a14 a15 a16 a17 a18 a19 a20 a21 a22 a23 a24).rgo a = some q → q n = some D → (dseA a0 a1 a2 a3 a4 a5 a6 a7 a8 a9 a10 a11 a12 a13 a14 a15 a16 a17 a18 a19 a20 a21 a22 a23 a24).RangeOk Try.prog ρ X a D := AF.noRange rfl
theorem dsectr {ρ : Env} (a0 a1 a2 : Int) (a3 : Bool) (a4 a5 a6 a7 : Int) (a8 : Nat) (a9 a10 : Nat → Int) (a11 : Nat) (a12 a13 a14 a15 : Nat → Int) (a16 a17 a18 a19 a20 a21 a22 a23 a24 : Int) {n : Nat} {v : dseR} (hM : MemoOk Try.prog (ctxOf Try.prog (memoS 65 dwoP dwoF dwoW dwoH 2 (memoS 89 dtgP dtgF dtgW dtgH 2 memo0))) ρ) (hv : (dseA a0 a1 a2 a3 a4 a5 a6 a7 a8 a9 a10 a11 a12 a13 a14 a15 a16 a17 a18 a19 a20 a21 a22 a23 a24).run n = some v) :
    Ctr Try.prog ρ 91 (dseA a0 a1 a2 a3 a4 a5 a6 a7 a8 a9 a10 a11 a12 a13 a14 a15 a16 a17 a18 a19 a20 a21 a22 a23 a24).args (dseA a0 a1 a2 a3 a4 a5 a6 a7 a8 a9 a10 a11 a12 a13 a14 a15 a16 a17 a18 a19 a20 a21 a22 a23 a24).H0 (dseA a0 a1 a2 a3 a4 a5 a6 a7 a8 a9 a10 a11 a12 a13 a14 a15 a16 a17 a18 a19 a20 a21 a22 a23 a24).base (dseA a0 a1 a2 a3 a4 a5 a6 a7 a8 a9 a10 a11 a12 a13 a14 a15 a16 a17 a18 a19 a20 a21 a22 a23 a24).W ((dseA a0 a1 a2 a3 a4 a5 a6 a7 a8 a9 a10 a11 a12 a13 a14 a15 a16 a17 a18 a19 a20 a21 a22 a23 a24).rc v) (putH (dseA a0 a1 a2 a3 a4 a5 a6 a7 a8 a9 a10 a11 a12 a13 a14 a15 a16 a17 a18 a19 a20 a21 a22 a23 a24).H0 ((dseA a0 a1 a2 a3 a4 a5 a6 a7 a8 a9 a10 a11 a12 a13 a14 a15 a16 a17 a18 a19 a20 a21 a22 a23 a24).rh v ++ (dseA a0 a1 a2 a3 a4 a5 a6 a7 a8 a9 a10 a11 a12 a13 a14 a15 a16 a17 a18 a19 a20 a21 a22 a23 a24).rx v)) ((dseA a0 a1 a2 a3 a4 a5 a6 a7 a8 a9 a10 a11 a12 a13 a14 a15 a16 a17 a18 a19 a20 a21 a22 a23 a24).rn v) :=
  AF.ctr try_ok hM (dseok a0 a1 a2 a3 a4 a5 a6 a7 a8 a9 a10 a11 a12 a13 a14 a15 a16 a17 a18 a19 a20 a21 a22 a23 a24) (fn := Try.f91) Try.func91 rfl rfl (Nat.le_of_ble_eq_true rfl) rfl (dsehR a0 a1 a2 a3 a4 a5 a6 a7 a8 a9 a10 a11 a12 a13 a14 a15 a16 a17 a18 a19 a20 a21 a22 a23 a24 hM) hv
theorem dsemem {ρ : Env} : MemoOk Try.prog (ctxOf Try.prog (memoS 65 dwoP dwoF dwoW dwoH 2 (memoS 89 dtgP dtgF dtgW dtgH 2 memo0))) ρ := (memoS_ok (dwoknown dwomem) (memoS_ok (dtgknown dtgmem) memo0_ok))
abbrev dseP : List AB := [.int .i64, .fn 90 [.box [.fn 88 [.box [.int .i64, .int .i64], .box [.bool, .int .i64, .int .i64, .int .i64, .int .i64, .rows [some .i64, some .i64], .rows [some .i64, some .i64, some .i64, some .i64], .int .i64], .box [.int .i64, .int .i64, .int .i64, .int .i64, .int .i64, .int .i64], .box [.int .i64, .int .i64]]]]]
noncomputable def dseF (v : AW) : AF dseN dseR := dseA (v.i.getD 0 0) (v.i.getD 1 0) (v.i.getD 2 0) (v.b.getD 0 false) (v.i.getD 3 0) (v.i.getD 4 0) (v.i.getD 5 0) (v.i.getD 6 0) (v.t.getD 0 .none).n ((v.t.getD 0 .none).c 0) ((v.t.getD 0 .none).c 1) (v.t.getD 1 .none).n ((v.t.getD 1 .none).c 0) ((v.t.getD 1 .none).c 1) ((v.t.getD 1 .none).c 2) ((v.t.getD 1 .none).c 3) (v.i.getD 7 0) (v.i.getD 8 0) (v.i.getD 9 0) (v.i.getD 10 0) (v.i.getD 11 0) (v.i.getD 12 0) (v.i.getD 13 0) (v.i.getD 14 0) (v.i.getD 15 0)
noncomputable def dseW : dseR → CV := fun v => .int .i64 (.x v)
noncomputable def dseH : dseR → List (Nat × Blk) := fun v => []
instance : Inhabited dseR := ⟨0⟩
theorem dseknown {ρ : Env} (hM : MemoOk Try.prog (ctxOf Try.prog (memoS 65 dwoP dwoF dwoW dwoH 2 (memoS 89 dtgP dtgF dtgW dtgH 2 memo0))) ρ) : KnownF Try.prog ρ 91 dseP dseF dseW dseH 7 where
  fn := ⟨Try.f91, Try.func91, rfl⟩
  le := Nat.le_of_ble_eq_true rfl
  full := fun r => rfl
  rg := fun r => rfl
  hg := fun r => fa_nil
  ctr := fun v n r h => dsectr (v.i.getD 0 0) (v.i.getD 1 0) (v.i.getD 2 0) (v.b.getD 0 false) (v.i.getD 3 0) (v.i.getD 4 0) (v.i.getD 5 0) (v.i.getD 6 0) (v.t.getD 0 .none).n ((v.t.getD 0 .none).c 0) ((v.t.getD 0 .none).c 1) (v.t.getD 1 .none).n ((v.t.getD 1 .none).c 0) ((v.t.getD 1 .none).c 1) ((v.t.getD 1 .none).c 2) ((v.t.getD 1 .none).c 3) (v.i.getD 7 0) (v.i.getD 8 0) (v.i.getD 9 0) (v.i.getD 10 0) (v.i.getD 11 0) (v.i.getD 12 0) (v.i.getD 13 0) (v.i.getD 14 0) (v.i.getD 15 0) hM h
end Go.Proofs.Ythagjhadjpangaa.Cx

/- (acme/die.shop).reach as an automaton. Made by tools/cxauto.py. -/
namespace Go.Proofs.Ythagjhadjpangaa.Cx
set_option linter.unusedVariables false
set_option linter.unusedSimpArgs false
set_option maxRecDepth 100000
open Go Go.Proofs Go.RowKit
noncomputable abbrev drcCode : Code := funcCode Try.f67
noncomputable abbrev drcs0Code : Code := funcCode Try.f87
inductive drcs0N where
  | n0 (q0 q1 q2 q3 q4 q5 : Int)
inductive drcs0R where
  | r0 (q0 q1 q2 q3 : Int)
  | r1 (q0 q1 q2 q3 q4 : Int)
noncomputable def drcs0D0 (a0 : Bool) (a1 a2 a3 a4 : Int) (a5 : Nat) (a6 a7 : Nat → Int) (a8 : Nat) (a9 a10 a11 a12 : Nat → Int) (a13 a14 a15 a16 a17 : Int) : DD (Lf drcs0N drcs0R) :=
 .leaf (.next (.n0 0 0 a14 a15 0 0) [])

noncomputable def drcs0D (a0 : Bool) (a1 a2 a3 a4 : Int) (a5 : Nat) (a6 a7 : Nat → Int) (a8 : Nat) (a9 a10 a11 a12 : Nat → Int) (a13 a14 a15 a16 a17 : Int) : drcs0N → DD (Lf drcs0N drcs0R)
 | .n0 q0 q1 q2 q3 q4 q5 =>
 let z0 := a9 (0 + Int.toNat q1)
 let z1 := Ar.run .add .i64 q0 z0
 let z2 := Ar.run .mn .i64 z1 a17
 let z3 := Ar.run .mx .i64 q0 a16
 let z4 := Ar.run .sub .i64 z2 z3
 let z5 := decide (0 + a5 ≤ a5)
 let z6 := fun i => [CV.int IntKind.i64 (IE.x (a6 (0 + i))), CV.int IntKind.i64 (IE.x (a7 (0 + i)))]
 let z7 := ShapeOk [some IntKind.i64, some IntKind.i64] (tabOf a5 z6) z6
 let z8 := decide (0 + a8 ≤ a8)
 let z9 := fun i => [CV.int IntKind.i64 (IE.x (a9 (0 + i))), CV.int IntKind.i64 (IE.x (a10 (0 + i))), CV.int IntKind.i64 (IE.x (a11 (0 + i))), CV.int IntKind.i64 (IE.x (a12 (0 + i)))]
 let z10 := ShapeOk [some IntKind.i64, some IntKind.i64, some IntKind.i64, some IntKind.i64] (tabOf a8 z9) z9
 let z11 := fun i => a6 (0 + i)
 let z12 := fun i => a7 (0 + i)
 let z13 := fun i => a9 (0 + i)
 let z14 := fun i => a10 (0 + i)
 let z15 := fun i => a11 (0 + i)
 let z16 := fun i => a12 (0 + i)
 let z17 := a10 (0 + Int.toNat q1)
 let z18 := a11 (0 + Int.toNat q1)
 let z19 := a12 (0 + Int.toNat q1)
 let z20 := dseA z4 q2 q3 a0 a1 a2 a3 a4 a5 z11 z12 a8 z13 z14 z15 z16 a13 z0 z17 z18 z19 z3 z2 q4 q5
 let z21 := AF.val z20
 let z22 := dtgA a0 a1 a2 a3 a4 a5 z11 z12 a8 z13 z14 z15 z16 a13 z18 z19 q4 q5
 let z23 := dwoA a0 a1 a2 a3 a4 a5 z11 z12 a8 z13 z14 z15 z16 a13 q4 q5 z17 (Ar.run .sub .i64 z21 1)
 let z24 := AF.val z23
 let z25 := dtgA a0 a1 a2 a3 a4 a5 z11 z12 a8 z13 z14 z15 z16 a13 z18 z19 (Prod.fst z24) (Prod.snd z24)
 let z26 := Cm.run .lss z21 z4
 let z27 := AF.val z22
 let z28 := AF.val z25
 let z29 := Ar.run .mx .i64 (Ar.run .mx .i64 q2 (Prod.fst z27)) (Prod.fst z28)
 let z30 := Ar.run .mn .i64 (Ar.run .mn .i64 q3 (Prod.snd z27)) (Prod.snd z28)
 let z31 := Ar.run .add .i64 z3 z21
 let z32 := dwoA a0 a1 a2 a3 a4 a5 z11 z12 a8 z13 z14 z15 z16 a13 q4 q5 z17 z21
 let z33 := AF.fin z32
 let z34 := Ar.run .add .i64 q1 1
 let z35 := AF.val z32
 let z36 := Prod.fst z35
 let z37 := Prod.snd z35
 .ask (Cm.run .lss q1 (↑a8 : Int))
   (.must (decide (0 ≤ q1))
   (.must (decide (q1 < (↑a8 : Int)))
   (.must (decide (0 + Int.toNat q1 < a8))
   (.ask (Cm.run .gtr z4 0)
   (.must z5
   (.must z7
   (.must z8
   (.must z10
   (.must (AF.fin z20)
   (.ask (Cm.run .gtr z21 0)
   (.must z5
   (.must z7
   (.must z8
   (.must z10
   (.must (AF.fin z22)
   (.must z5
   (.must z7
   (.must z8
   (.must z10
   (.must (AF.fin z23)
   (.must z5
   (.must z7
   (.must z8
   (.must z10
   (.must (AF.fin z25)
   (.ask z26
   (.leaf (.done (.r1 z29 z30 z31 q4 q5) []))
   (.must z5
   (.must z7
   (.must z8
   (.must z10
   (.must z33
   (.leaf (.next (.n0 z1 z34 z29 z30 z36 z37) [])))))))))))))))))))))))
   (.ask z26
   (.leaf (.done (.r1 q2 q3 z31 q4 q5) []))
   (.must z5
   (.must z7
   (.must z8
   (.must z10
   (.must z33
   (.leaf (.next (.n0 z1 z34 q2 q3 z36 z37) []))))))))))))))
   (.leaf (.next (.n0 z1 z34 q2 q3 q4 q5) []))))))
   (.leaf (.done (.r0 q2 q3 q4 q5) []))

noncomputable def drcs0A (a0 : Bool) (a1 a2 a3 a4 : Int) (a5 : Nat) (a6 a7 : Nat → Int) (a8 : Nat) (a9 a10 a11 a12 : Nat → Int) (a13 a14 a15 a16 a17 : Int) : AF drcs0N drcs0R where
  code := drcs0Code
  base := 11
  nt := 40
  m := 400
  un := []
  W := [3, 4, 5, 6, 10]
  h0 := ((10, recB (mkT [(3, .int .i64 (.x a17)), (4, .ptr (some (2, 0))), (5, .ptr (some (3, 0))), (8, .ptr (some (4, 0))), (9, .ptr (some (5, 0))), (10, .ptr (some (6, 0))), (18, .fn (.func 87) [] [.ptr (some (7, 0)), .ptr (some (8, 0)), .ptr (some (9, 0))])]) 50 (rgP (codeAt drcCode [1, 1, 0, 1, 0])) (rgA (codeAt drcCode [1, 1, 0, 1, 0])) (rgB (codeAt drcCode [1, 1, 0, 1, 0]))) :: (([(2, ⟨.lit [.bool (.x a0), .int .i64 (.x a1), .int .i64 (.x a2), .int .i64 (.x a3), .int .i64 (.x a4), .sla 0 2 0 a5, .sla 1 4 0 a8, .int .i64 (.x a13)], 0, true, none⟩), (3, ⟨.lit [.int .i64 (.x a14), .int .i64 (.x a15)], 0, true, none⟩), (4, ⟨.lit [.int .i64 (.x 0), .int .i64 (.x 0)], 0, true, none⟩), (5, ⟨.lit [.int .i64 (.x 0)], 0, true, none⟩), (6, ⟨.lit [.int .i64 (.x 0), .int .i64 (.x 0)], 0, true, none⟩), (7, ⟨.lit [.bool (.x a0), .int .i64 (.x a1), .int .i64 (.x a2), .int .i64 (.x a3), .int .i64 (.x a4), .sla 0 2 0 a5, .sla 1 4 0 a8, .int .i64 (.x a13)], 0, true, none⟩), (8, ⟨.lit [.int .i64 (.x a16)], 0, true, none⟩), (9, ⟨.lit [.int .i64 (.x a17)], 0, true, none⟩)] ++ []) ++ [(0, ⟨.arg a5 2 (fun i => [.int .i64 (.x (a6 i)), .int .i64 (.x (a7 i))]) (fun _ => ⟨rfl, rfl⟩), 2, true, none⟩), (1, ⟨.arg a8 4 (fun i => [.int .i64 (.x (a9 i)), .int .i64 (.x (a10 i)), .int .i64 (.x (a11 i)), .int .i64 (.x (a12 i))]) (fun _ => ⟨rfl, rfl⟩), 4, true, none⟩)]))
  args := [.yld 10, .ptr (some (7, 0)), .ptr (some (8, 0)), .ptr (some (9, 0))]
  res := (Try.f87).results.toList
  path := fun a => match a with
   | .n0 q0 q1 q2 q3 q4 q5 => [1, 1, 0]
  pd := fun a => match a with
   | .n0 q0 q1 q2 q3 q4 q5 => ⟨[(0, .yld 10), (2, .ptr (some (8, 0))), (3, .ptr (some (9, 0))), (5, .int .i64 (.x q0)), (11, .sla 1 4 0 a8), (12, .int .i64 (.x (↑a8))), (13, .int .i64 (.x q1))], [(3, ⟨.lit [.int .i64 (.x q2), .int .i64 (.x q3)], 0, true, none⟩), (4, ⟨.lit [.int .i64 (.x 0), .int .i64 (.x 0)], 0, true, none⟩), (5, ⟨.lit [.int .i64 (.x 0)], 0, true, none⟩), (6, ⟨.lit [.int .i64 (.x q4), .int .i64 (.x q5)], 0, true, none⟩)], 11, [(10, recS (mkT [(3, .int .i64 (.x a17)), (4, .ptr (some (2, 0))), (5, .ptr (some (3, 0))), (8, .ptr (some (4, 0))), (9, .ptr (some (5, 0))), (10, .ptr (some (6, 0))), (18, .fn (.func 87) [] [.ptr (some (7, 0)), .ptr (some (8, 0)), .ptr (some (9, 0))])]) 50 (rgP (codeAt drcCode [1, 1, 0, 1, 0])) (rgA (codeAt drcCode [1, 1, 0, 1, 0])) (rgB (codeAt drcCode [1, 1, 0, 1, 0])) (.ready) (.none))]⟩
  D0 := drcs0D0 a0 a1 a2 a3 a4 a5 a6 a7 a8 a9 a10 a11 a12 a13 a14 a15 a16 a17
  D := drcs0D a0 a1 a2 a3 a4 a5 a6 a7 a8 a9 a10 a11 a12 a13 a14 a15 a16 a17
  rc := (fun v => match v with
 | .r0 q0 q1 q2 q3 => .tup []
 | .r1 q0 q1 q2 q3 q4 => .tup [])
  rh := (fun v => match v with
 | .r0 q0 q1 q2 q3 => [(3, ⟨.lit [.int .i64 (.x q0), .int .i64 (.x q1)], 0, true, none⟩), (4, ⟨.lit [.int .i64 (.x 0), .int .i64 (.x 0)], 0, true, none⟩), (5, ⟨.lit [.int .i64 (.x 0)], 0, true, none⟩), (6, ⟨.lit [.int .i64 (.x q2), .int .i64 (.x q3)], 0, true, none⟩)]
 | .r1 q0 q1 q2 q3 q4 => [(3, ⟨.lit [.int .i64 (.x q0), .int .i64 (.x q1)], 0, true, none⟩), (4, ⟨.lit [.int .i64 (.x q0), .int .i64 (.x q1)], 0, true, none⟩), (5, ⟨.lit [.int .i64 (.x q2)], 0, true, none⟩), (6, ⟨.lit [.int .i64 (.x q3), .int .i64 (.x q4)], 0, true, none⟩)])
  rn := (fun v => match v with
 | .r0 q0 q1 q2 q3 => 11
 | .r1 q0 q1 q2 q3 q4 => 11)
  rx := (fun v => match v with
 | .r0 q0 q1 q2 q3 => [(10, recS (mkT [(3, .int .i64 (.x a17)), (4, .ptr (some (2, 0))), (5, .ptr (some (3, 0))), (8, .ptr (some (4, 0))), (9, .ptr (some (5, 0))), (10, .ptr (some (6, 0))), (18, .fn (.func 87) [] [.ptr (some (7, 0)), .ptr (some (8, 0)), .ptr (some (9, 0))])]) 50 (rgP (codeAt drcCode [1, 1, 0, 1, 0])) (rgA (codeAt drcCode [1, 1, 0, 1, 0])) (rgB (codeAt drcCode [1, 1, 0, 1, 0])) (.ready) (.none))]
 | .r1 q0 q1 q2 q3 q4 => [(10, recS (mkT [(3, .int .i64 (.x a17)), (4, .ptr (some (2, 0))), (5, .ptr (some (3, 0))), (8, .ptr (some (4, 0))), (9, .ptr (some (5, 0))), (10, .ptr (some (6, 0))), (18, .fn (.func 87) [] [.ptr (some (7, 0)), .ptr (some (8, 0)), .ptr (some (9, 0))])]) 50 (rgP (codeAt drcCode [1, 1, 0, 1, 0])) (rgA (codeAt drcCode [1, 1, 0, 1, 0])) (rgB (codeAt drcCode [1, 1, 0, 1, 0])) (.done) ((.some .ret)))])
  rgo := (fun _ => none)
theorem drcs0start (a0 : Bool) (a1 a2 a3 a4 : Int) (a5 : Nat) (a6 a7 : Nat → Int) (a8 : Nat) (a9 a10 a11 a12 : Nat → Int) (a13 a14 a15 a16 a17 : Int) : AF.edgeOk (drcs0A a0 a1 a2 a3 a4 a5 a6 a7 a8 a9 a10 a11 a12 a13 a14 a15 a16 a17) (ctxOf Try.prog memo0) (drcs0D0 a0 a1 a2 a3 a4 a5 a6 a7 a8 a9 a10 a11 a12 a13 a14 a15 a16 a17) (AF.run0 (drcs0A a0 a1 a2 a3 a4 a5 a6 a7 a8 a9 a10 a11 a12 a13 a14 a15 a16 a17) (ctxOf Try.prog (memoS 65 dwoP dwoF dwoW dwoH 2 (memoS 89 dtgP dtgF dtgW dtgH 2 (memoF 91 dseP dseF dseW dseH 7 memo0))))) := by unfold AF.edgeOk; kernel_rfl
theorem drcs0node0 (a0 : Bool) (a1 a2 a3 a4 : Int) (a5 : Nat) (a6 a7 : Nat → Int) (a8 : Nat) (a9 a10 a11 a12 : Nat → Int) (a13 a14 a15 a16 a17 q0 q1 q2 q3 q4 q5 : Int) : AF.edgeOk (drcs0A a0 a1 a2 a3 a4 a5 a6 a7 a8 a9 a10 a11 a12 a13 a14 a15 a16 a17) (ctxOf Try.prog memo0) (drcs0D a0 a1 a2 a3 a4 a5 a6 a7 a8 a9 a10 a11 a12 a13 a14 a15 a16 a17 (.n0 q0 q1 q2 q3 q4 q5)) (AF.runN (drcs0A a0 a1 a2 a3 a4 a5 a6 a7 a8 a9 a10 a11 a12 a13 a14 a15 a16 a17) (ctxOf Try.prog (memoS 65 dwoP dwoF dwoW dwoH 2 (memoS 89 dtgP dtgF dtgW dtgH 2 (memoF 91 dseP dseF dseW dseH 7 memo0)))) (.n0 q0 q1 q2 q3 q4 q5)) := by unfold AF.edgeOk; kernel_rfl
theorem drcs0ok (a0 : Bool) (a1 a2 a3 a4 : Int) (a5 : Nat) (a6 a7 : Nat → Int) (a8 : Nat) (a9 a10 a11 a12 : Nat → Int) (a13 a14 a15 a16 a17 : Int) : (drcs0A a0 a1 a2 a3 a4 a5 a6 a7 a8 a9 a10 a11 a12 a13 a14 a15 a16 a17).Ok Try.prog (ctxOf Try.prog (memoS 65 dwoP dwoF dwoW dwoH 2 (memoS 89 dtgP dtgF dtgW dtgH 2 (memoF 91 dseP dseF dseW dseH 7 memo0)))) where
  regs := by kernel_rfl
  h0 := by kernel_rfl
  start := drcs0start a0 a1 a2 a3 a4 a5 a6 a7 a8 a9 a10 a11 a12 a13 a14 a15 a16 a17
  node := fun a _ => match a with
   | .n0 q0 q1 q2 q3 q4 q5 => drcs0node0 a0 a1 a2 a3 a4 a5 a6 a7 a8 a9 a10 a11 a12 a13 a14 a15 a16 a17 q0 q1 q2 q3 q4 q5
  pd := fun a => match a with
   | .n0 q0 q1 q2 q3 q4 q5 => ⟨(fa_cons rfl (fa_cons rfl (fa_cons rfl (fa_cons rfl (fa_cons rfl (fa_cons rfl (fa_cons rfl fa_nil))))))), (fa_cons ⟨.inr (memW rfl), rfl, rfl⟩ (fa_cons ⟨.inr (memW rfl), rfl, rfl⟩ (fa_cons ⟨.inr (memW rfl), rfl, rfl⟩ (fa_cons ⟨.inr (memW rfl), rfl, rfl⟩ fa_nil)))), (fa_cons ⟨memW rfl, RecOk.of rfl⟩ fa_nil), rfl⟩
  le := fun a => match a with
   | .n0 q0 q1 q2 q3 q4 q5 => Nat.le_of_ble_eq_true rfl
  rd := fun v => match v with
   | .r0 q0 q1 q2 q3 => ⟨⟨fa_nil, (fa_cons ⟨.inr (memW rfl), rfl, rfl⟩ (fa_cons ⟨.inr (memW rfl), rfl, rfl⟩ (fa_cons ⟨.inr (memW rfl), rfl, rfl⟩ (fa_cons ⟨.inr (memW rfl), rfl, rfl⟩ fa_nil)))), (fa_cons ⟨memW rfl, RecOk.of rfl⟩ fa_nil), rfl⟩, rfl⟩
   | .r1 q0 q1 q2 q3 q4 => ⟨⟨fa_nil, (fa_cons ⟨.inr (memW rfl), rfl, rfl⟩ (fa_cons ⟨.inr (memW rfl), rfl, rfl⟩ (fa_cons ⟨.inr (memW rfl), rfl, rfl⟩ (fa_cons ⟨.inr (memW rfl), rfl, rfl⟩ fa_nil)))), (fa_cons ⟨memW rfl, RecOk.of rfl⟩ fa_nil), rfl⟩, rfl⟩
  wb := rfl
theorem drcs0hR {ρ : Env} (a0 : Bool) (a1 a2 a3 a4 : Int) (a5 : Nat) (a6 a7 : Nat → Int) (a8 : Nat) (a9 a10 a11 a12 : Nat → Int) (a13 a14 a15 a16 a17 : Int) (hM : MemoOk Try.prog (ctxOf Try.prog (memoS 65 dwoP dwoF dwoW dwoH 2 (memoS 89 dtgP dtgF dtgW dtgH 2 (memoF 91 dseP dseF dseW dseH 7 memo0)))) ρ) : ∀ X a q n D, FxOk ρ X → X.base = (drcs0A a0 a1 a2 a3 a4 a5 a6 a7 a8 a9 a10 a11 a12 a13 a14 a15 a16 a17).base → X.nt = (drcs0A a0 a1 a2 a3 a4 a5 a6 a7 a8 a9 a10 a11 a12 a13 a14 a15 a16 a17).nt → X.W = (drcs0A a0 a1 a2 a3 a4 a5 a6 a7 a8 a9 a10 a11 a12 a13 a14 a15 a16 a17).W → (drcs0A a0 a1 a2 a3 a4 a5 a6 a7 a8 a9 a10 a11 a12 a13 a14 a15 a16 a17).rgo a = some q → q n = some D → (drcs0A a0 a1 a2 a3 a4 a5 a6 a7 a8 a9 a10 a11 a12 a13 a14 a15 a16 a17).RangeOk Try.prog ρ X a D := AF.noRange rfl
inductive drcN where
  | n0
abbrev drcR := Int × Int × Int
noncomputable def drcD0 (a0 : Bool) (a1 a2 a3 a4 : Int) (a5 : Nat) (a6 a7 : Nat → Int) (a8 : Nat) (a9 a10 a11 a12 : Nat → Int) (a13 a14 a15 a16 a17 : Int) : DD (Lf drcN drcR) :=
 .leaf (.next (.n0) [2, 3, 4, 5, 6, 7, 8, 9])

noncomputable def drcD (a0 : Bool) (a1 a2 a3 a4 : Int) (a5 : Nat) (a6 a7 : Nat → Int) (a8 : Nat) (a9 a10 a11 a12 : Nat → Int) (a13 a14 a15 a16 a17 : Int) : drcN → DD (Lf drcN drcR)
 | .n0 =>
 .dead

noncomputable def drcRg0 (a0 : Bool) (a1 a2 a3 a4 : Int) (a5 : Nat) (a6 a7 : Nat → Int) (a8 : Nat) (a9 a10 a11 a12 : Nat → Int) (a13 a14 a15 a16 a17 : Int) : drcs0R → DD (Lf drcN drcR)
 | .r0 q0 q1 q2 q3 =>
 .leaf (.done (q0, q1, a17) [])
 | .r1 q0 q1 q2 q3 q4 =>
 .leaf (.done (q0, q1, q2) [])

noncomputable def drcA (a0 : Bool) (a1 a2 a3 a4 : Int) (a5 : Nat) (a6 a7 : Nat → Int) (a8 : Nat) (a9 a10 a11 a12 : Nat → Int) (a13 a14 a15 a16 a17 : Int) : AF drcN drcR where
  code := drcCode
  base := 2
  nt := 50
  m := 400
  un := [1000003]
  W := []
  h0 := [(0, ⟨.arg a5 2 (fun i => [.int .i64 (.x (a6 i)), .int .i64 (.x (a7 i))]) (fun _ => ⟨rfl, rfl⟩), 2, true, none⟩), (1, ⟨.arg a8 4 (fun i => [.int .i64 (.x (a9 i)), .int .i64 (.x (a10 i)), .int .i64 (.x (a11 i)), .int .i64 (.x (a12 i))]) (fun _ => ⟨rfl, rfl⟩), 4, true, none⟩)]
  args := [.agg [.bool (.x a0), .int .i64 (.x a1), .int .i64 (.x a2), .int .i64 (.x a3), .int .i64 (.x a4), .sla 0 2 0 a5, .sla 1 4 0 a8, .int .i64 (.x a13)], .agg [.int .i64 (.x a14), .int .i64 (.x a15)], .int .i64 (.x a16), .int .i64 (.x a17)]
  res := (Try.f67).results.toList
  path := fun a => match a with
   | .n0 => [1, 1, 0, 1, 0]
  pd := fun a => match a with
   | .n0 => ⟨[(3, .int .i64 (.x a17)), (4, .ptr (some (2, 0))), (5, .ptr (some (3, 0))), (8, .ptr (some (4, 0))), (9, .ptr (some (5, 0))), (10, .ptr (some (6, 0))), (18, .fn (.func 87) [] [.ptr (some (7, 0)), .ptr (some (8, 0)), .ptr (some (9, 0))])], [(2, ⟨.lit [.bool (.x a0), .int .i64 (.x a1), .int .i64 (.x a2), .int .i64 (.x a3), .int .i64 (.x a4), .sla 0 2 0 a5, .sla 1 4 0 a8, .int .i64 (.x a13)], 0, true, none⟩), (3, ⟨.lit [.int .i64 (.x a14), .int .i64 (.x a15)], 0, true, none⟩), (4, ⟨.lit [.int .i64 (.x 0), .int .i64 (.x 0)], 0, true, none⟩), (5, ⟨.lit [.int .i64 (.x 0)], 0, true, none⟩), (6, ⟨.lit [.int .i64 (.x 0), .int .i64 (.x 0)], 0, true, none⟩), (7, ⟨.lit [.bool (.x a0), .int .i64 (.x a1), .int .i64 (.x a2), .int .i64 (.x a3), .int .i64 (.x a4), .sla 0 2 0 a5, .sla 1 4 0 a8, .int .i64 (.x a13)], 0, true, none⟩), (8, ⟨.lit [.int .i64 (.x a16)], 0, true, none⟩), (9, ⟨.lit [.int .i64 (.x a17)], 0, true, none⟩)], 10, []⟩
  D0 := drcD0 a0 a1 a2 a3 a4 a5 a6 a7 a8 a9 a10 a11 a12 a13 a14 a15 a16 a17
  D := drcD a0 a1 a2 a3 a4 a5 a6 a7 a8 a9 a10 a11 a12 a13 a14 a15 a16 a17
  rc := (fun v => .tup [.agg [.int .i64 (.x v.1), .int .i64 (.x v.2.1)], .int .i64 (.x v.2.2)])
  rh := (fun v => [])
  rn := (fun v => 2)
  rx := (fun v => [])
  rgo := (fun a => match a with
   | .n0 => some (fun n => (AF.run (drcs0A a0 a1 a2 a3 a4 a5 a6 a7 a8 a9 a10 a11 a12 a13 a14 a15 a16 a17) n).map (drcRg0 a0 a1 a2 a3 a4 a5 a6 a7 a8 a9 a10 a11 a12 a13 a14 a15 a16 a17)))
theorem drcstart (a0 : Bool) (a1 a2 a3 a4 : Int) (a5 : Nat) (a6 a7 : Nat → Int) (a8 : Nat) (a9 a10 a11 a12 : Nat → Int) (a13 a14 a15 a16 a17 : Int) : AF.edgeOk (drcA a0 a1 a2 a3 a4 a5 a6 a7 a8 a9 a10 a11 a12 a13 a14 a15 a16 a17) (ctxOf Try.prog memo0) (drcD0 a0 a1 a2 a3 a4 a5 a6 a7 a8 a9 a10 a11 a12 a13 a14 a15 a16 a17) (AF.run0 (drcA a0 a1 a2 a3 a4 a5 a6 a7 a8 a9 a10 a11 a12 a13 a14 a15 a16 a17) (ctxOf Try.prog (memoS 65 dwoP dwoF dwoW dwoH 2 (memoS 89 dtgP dtgF dtgW dtgH 2 (memoF 91 dseP dseF dseW dseH 7 memo0))))) := by unfold AF.edgeOk; kernel_rfl
theorem drcok (a0 : Bool) (a1 a2 a3 a4 : Int) (a5 : Nat) (a6 a7 : Nat → Int) (a8 : Nat) (a9 a10 a11 a12 : Nat → Int) (a13 a14 a15 a16 a17 : Int) : (drcA a0 a1 a2 a3 a4 a5 a6 a7 a8 a9 a10 a11 a12 a13 a14 a15 a16 a17).Ok Try.prog (ctxOf Try.prog (memoS 65 dwoP dwoF dwoW dwoH 2 (memoS 89 dtgP dtgF dtgW dtgH 2 (memoF 91 dseP dseF dseW dseH 7 memo0)))) where
  regs := by kernel_rfl
  h0 := by kernel_rfl
  start := drcstart a0 a1 a2 a3 a4 a5 a6 a7 a8 a9 a10 a11 a12 a13 a14 a15 a16 a17
  node := fun a h => match a, h with
   | .n0, h => someNe h
  pd := fun a => match a with
   | .n0 => ⟨(fa_cons rfl (fa_cons rfl (fa_cons rfl (fa_cons rfl (fa_cons rfl (fa_cons rfl (fa_cons rfl fa_nil))))))), (fa_cons ⟨.inl (Nat.le_of_ble_eq_true rfl), rfl, rfl⟩ (fa_cons ⟨.inl (Nat.le_of_ble_eq_true rfl), rfl, rfl⟩ (fa_cons ⟨.inl (Nat.le_of_ble_eq_true rfl), rfl, rfl⟩ (fa_cons ⟨.inl (Nat.le_of_ble_eq_true rfl), rfl, rfl⟩ (fa_cons ⟨.inl (Nat.le_of_ble_eq_true rfl), rfl, rfl⟩ (fa_cons ⟨.inl (Nat.le_of_ble_eq_true rfl), rfl, rfl⟩ (fa_cons ⟨.inl (Nat.le_of_ble_eq_true rfl), rfl, rfl⟩ (fa_cons ⟨.inl (Nat.le_of_ble_eq_true rfl), rfl, rfl⟩ fa_nil)))))))), fa_nil, rfl⟩
  le := fun a => match a with
   | .n0 => Nat.le_of_ble_eq_true rfl
  rd := fun v => ⟨⟨fa_nil, fa_nil, fa_nil, rfl⟩, rfl⟩
  wb := rfl
theorem drcrg0_0 (a0 : Bool) (a1 a2 a3 a4 : Int) (a5 : Nat) (a6 a7 : Nat → Int) (a8 : Nat) (a9 a10 a11 a12 : Nat → Int) (a13 a14 a15 a16 a17 q0 q1 q2 q3 : Int) : AF.edgeOk (drcA a0 a1 a2 a3 a4 a5 a6 a7 a8 a9 a10 a11 a12 a13 a14 a15 a16 a17) (ctxOf Try.prog memo0) (drcRg0 a0 a1 a2 a3 a4 a5 a6 a7 a8 a9 a10 a11 a12 a13 a14 a15 a16 a17 (.r0 q0 q1 q2 q3)) (AF.runR (drcA a0 a1 a2 a3 a4 a5 a6 a7 a8 a9 a10 a11 a12 a13 a14 a15 a16 a17) (ctxOf Try.prog (memoS 65 dwoP dwoF dwoW dwoH 2 (memoS 89 dtgP dtgF dtgW dtgH 2 (memoF 91 dseP dseF dseW dseH 7 memo0)))) (.n0) (putH (drcs0A a0 a1 a2 a3 a4 a5 a6 a7 a8 a9 a10 a11 a12 a13 a14 a15 a16 a17).H0 ((drcs0A a0 a1 a2 a3 a4 a5 a6 a7 a8 a9 a10 a11 a12 a13 a14 a15 a16 a17).rh (.r0 q0 q1 q2 q3) ++ (drcs0A a0 a1 a2 a3 a4 a5 a6 a7 a8 a9 a10 a11 a12 a13 a14 a15 a16 a17).rx (.r0 q0 q1 q2 q3))) ((drcs0A a0 a1 a2 a3 a4 a5 a6 a7 a8 a9 a10 a11 a12 a13 a14 a15 a16 a17).rn (.r0 q0 q1 q2 q3)) ⟨mkT [(3, .int .i64 (.x a17)), (4, .ptr (some (2, 0))), (5, .ptr (some (3, 0))), (8, .ptr (some (4, 0))), (9, .ptr (some (5, 0))), (10, .ptr (some (6, 0))), (18, .fn (.func 87) [] [.ptr (some (7, 0)), .ptr (some (8, 0)), .ptr (some (9, 0))])], 50, rgP (codeAt drcCode [1, 1, 0, 1, 0]), rgA (codeAt drcCode [1, 1, 0, 1, 0]), rgB (codeAt drcCode [1, 1, 0, 1, 0]), .ready, .none⟩ .normal) := by unfold AF.edgeOk; kernel_rfl
theorem drcrg0_1 (a0 : Bool) (a1 a2 a3 a4 : Int) (a5 : Nat) (a6 a7 : Nat → Int) (a8 : Nat) (a9 a10 a11 a12 : Nat → Int) (a13 a14 a15 a16 a17 q0 q1 q2 q3 q4 : Int) : AF.edgeOk (drcA a0 a1 a2 a3 a4 a5 a6 a7 a8 a9 a10 a11 a12 a13 a14 a15 a16 a17) (ctxOf Try.prog memo0) (drcRg0 a0 a1 a2 a3 a4 a5 a6 a7 a8 a9 a10 a11 a12 a13 a14 a15 a16 a17 (.r1 q0 q1 q2 q3 q4)) (AF.runR (drcA a0 a1 a2 a3 a4 a5 a6 a7 a8 a9 a10 a11 a12 a13 a14 a15 a16 a17) (ctxOf Try.prog (memoS 65 dwoP dwoF dwoW dwoH 2 (memoS 89 dtgP dtgF dtgW dtgH 2 (memoF 91 dseP dseF dseW dseH 7 memo0)))) (.n0) (putH (drcs0A a0 a1 a2 a3 a4 a5 a6 a7 a8 a9 a10 a11 a12 a13 a14 a15 a16 a17).H0 ((drcs0A a0 a1 a2 a3 a4 a5 a6 a7 a8 a9 a10 a11 a12 a13 a14 a15 a16 a17).rh (.r1 q0 q1 q2 q3 q4) ++ (drcs0A a0 a1 a2 a3 a4 a5 a6 a7 a8 a9 a10 a11 a12 a13 a14 a15 a16 a17).rx (.r1 q0 q1 q2 q3 q4))) ((drcs0A a0 a1 a2 a3 a4 a5 a6 a7 a8 a9 a10 a11 a12 a13 a14 a15 a16 a17).rn (.r1 q0 q1 q2 q3 q4)) ⟨mkT [(3, .int .i64 (.x a17)), (4, .ptr (some (2, 0))), (5, .ptr (some (3, 0))), (8, .ptr (some (4, 0))), (9, .ptr (some (5, 0))), (10, .ptr (some (6, 0))), (18, .fn (.func 87) [] [.ptr (some (7, 0)), .ptr (some (8, 0)), .ptr (some (9, 0))])], 50, rgP (codeAt drcCode [1, 1, 0, 1, 0]), rgA (codeAt drcCode [1, 1, 0, 1, 0]), rgB (codeAt drcCode [1, 1, 0, 1, 0]), .done, (.some .ret)⟩ .ret) := by unfold AF.edgeOk; kernel_rfl
theorem drcrg0 (a0 : Bool) (a1 a2 a3 a4 : Int) (a5 : Nat) (a6 a7 : Nat → Int) (a8 : Nat) (a9 a10 a11 a12 : Nat → Int) (a13 a14 a15 a16 a17 : Int) : AF.Rg (drcA a0 a1 a2 a3 a4 a5 a6 a7 a8 a9 a10 a11 a12 a13 a14 a15 a16 a17) (drcs0A a0 a1 a2 a3 a4 a5 a6 a7 a8 a9 a10 a11 a12 a13 a14 a15 a16 a17) Try.prog (ctxOf Try.prog (memoS 65 dwoP dwoF dwoW dwoH 2 (memoS 89 dtgP dtgF dtgW dtgH 2 (memoF 91 dseP dseF dseW dseH 7 memo0)))) (ctxOf Try.prog (memoS 65 dwoP dwoF dwoW dwoH 2 (memoS 89 dtgP dtgF dtgW dtgH 2 (memoF 91 dseP dseF dseW dseH 7 memo0)))) (.n0) (rgF (codeAt drcCode [1, 1, 0, 1, 0])) (rgP (codeAt drcCode [1, 1, 0, 1, 0])) (rgA (codeAt drcCode [1, 1, 0, 1, 0])) (rgB (codeAt drcCode [1, 1, 0, 1, 0])) 87 Try.f87 [] [.ptr (some (7, 0)), .ptr (some (8, 0)), .ptr (some (9, 0))] (fun v => match v with
   | .r0 q0 q1 q2 q3 => ⟨mkT [(3, .int .i64 (.x a17)), (4, .ptr (some (2, 0))), (5, .ptr (some (3, 0))), (8, .ptr (some (4, 0))), (9, .ptr (some (5, 0))), (10, .ptr (some (6, 0))), (18, .fn (.func 87) [] [.ptr (some (7, 0)), .ptr (some (8, 0)), .ptr (some (9, 0))])], 50, rgP (codeAt drcCode [1, 1, 0, 1, 0]), rgA (codeAt drcCode [1, 1, 0, 1, 0]), rgB (codeAt drcCode [1, 1, 0, 1, 0]), .ready, .none⟩
   | .r1 q0 q1 q2 q3 q4 => ⟨mkT [(3, .int .i64 (.x a17)), (4, .ptr (some (2, 0))), (5, .ptr (some (3, 0))), (8, .ptr (some (4, 0))), (9, .ptr (some (5, 0))), (10, .ptr (some (6, 0))), (18, .fn (.func 87) [] [.ptr (some (7, 0)), .ptr (some (8, 0)), .ptr (some (9, 0))])], 50, rgP (codeAt drcCode [1, 1, 0, 1, 0]), rgA (codeAt drcCode [1, 1, 0, 1, 0]), rgB (codeAt drcCode [1, 1, 0, 1, 0]), .done, (.some .ret)⟩) (fun v => match v with
   | .r0 q0 q1 q2 q3 => .normal
   | .r1 q0 q1 q2 q3 q4 => .ret) (drcRg0 a0 a1 a2 a3 a4 a5 a6 a7 a8 a9 a10 a11 a12 a13 a14 a15 a16 a17) where
  code := by kernel_rfl
  fn := by kernel_rfl
  args := rfl
  base := rfl
  h0 := rfl
  W := rfl
  gfn := Try.func87
  body := rfl
  nt := rfl
  len := Nat.le_of_ble_eq_true rfl
  res := rfl
  ok := drcs0ok a0 a1 a2 a3 a4 a5 a6 a7 a8 a9 a10 a11 a12 a13 a14 a15 a16 a17
  le := fun v => match v with
   | .r0 q0 q1 q2 q3 => Nat.le_of_ble_eq_true rfl
   | .r1 q0 q1 q2 q3 q4 => Nat.le_of_ble_eq_true rfl
  lt := fun v => match v with
   | .r0 q0 q1 q2 q3 => rfl
   | .r1 q0 q1 q2 q3 q4 => rfl
  rcd := fun v => match v with
   | .r0 q0 q1 q2 q3 => rfl
   | .r1 q0 q1 q2 q3 q4 => rfl
  st := fun v => match v with
   | .r0 q0 q1 q2 q3 => (fun h => LoopState.noConfusion h)
   | .r1 q0 q1 q2 q3 q4 => (fun h => LoopState.noConfusion h)
  exd := fun v => match v with
   | .r0 q0 q1 q2 q3 => rfl
   | .r1 q0 q1 q2 q3 q4 => rfl
  D := fun v => match v with
   | .r0 q0 q1 q2 q3 => drcrg0_0 a0 a1 a2 a3 a4 a5 a6 a7 a8 a9 a10 a11 a12 a13 a14 a15 a16 a17 q0 q1 q2 q3
   | .r1 q0 q1 q2 q3 q4 => drcrg0_1 a0 a1 a2 a3 a4 a5 a6 a7 a8 a9 a10 a11 a12 a13 a14 a15 a16 a17 q0 q1 q2 q3 q4
theorem drchR {ρ : Env} (a0 : Bool) (a1 a2 a3 a4 : Int) (a5 : Nat) (a6 a7 : Nat → Int) (a8 : Nat) (a9 a10 a11 a12 : Nat → Int) (a13 a14 a15 a16 a17 : Int) (hM : MemoOk Try.prog (ctxOf Try.prog (memoS 65 dwoP dwoF dwoW dwoH 2 (memoS 89 dtgP dtgF dtgW dtgH 2 (memoF 91 dseP dseF dseW dseH 7 memo0)))) ρ) : ∀ X a q n D, FxOk ρ X → X.base = (drcA a0 a1 a2 a3 a4 a5 a6 a7 a8 a9 a10 a11 a12 a13 a14 a15 a16 a17).base → X.nt = (drcA a0 a1 a2 a3 a4 a5 a6 a7 a8 a9 a10 a11 a12 a13 a14 a15 a16 a17).nt → X.W = (drcA a0 a1 a2 a3 a4 a5 a6 a7 a8 a9 a10 a11 a12 a13 a14 a15 a16 a17).W → (drcA a0 a1 a2 a3 a4 a5 a6 a7 a8 a9 a10 a11 a12 a13 a14 a15 a16 a17).rgo a = some q → q n = some D → (drcA a0 a1 a2 a3 a4 a5 a6 a7 a8 a9 a10 a11 a12 a13 a14 a15 a16 a17).RangeOk Try.prog ρ X a D := by
  intro X a q n D h1 h2 h3 h4 hq hD
  cases a with
  | n0 =>
    have e := Option.some.inj hq
    subst e
    exact AF.range_ok (n := n) try_ok hM hM (drcok a0 a1 a2 a3 a4 a5 a6 a7 a8 a9 a10 a11 a12 a13 a14 a15 a16 a17) (drcrg0 a0 a1 a2 a3 a4 a5 a6 a7 a8 a9 a10 a11 a12 a13 a14 a15 a16 a17) (drcs0hR a0 a1 a2 a3 a4 a5 a6 a7 a8 a9 a10 a11 a12 a13 a14 a15 a16 a17 hM) h1 h2 h3 h4 hD
theorem drcctr {ρ : Env} (a0 : Bool) (a1 a2 a3 a4 : Int) (a5 : Nat) (a6 a7 : Nat → Int) (a8 : Nat) (a9 a10 a11 a12 : Nat → Int) (a13 a14 a15 a16 a17 : Int) {n : Nat} {v : drcR} (hM : MemoOk Try.prog (ctxOf Try.prog (memoS 65 dwoP dwoF dwoW dwoH 2 (memoS 89 dtgP dtgF dtgW dtgH 2 (memoF 91 dseP dseF dseW dseH 7 memo0)))) ρ) (hv : (drcA a0 a1 a2 a3 a4 a5 a6 a7 a8 a9 a10 a11 a12 a13 a14 a15 a16 a17).run n = some v) :
    Ctr Try.prog ρ 67 (drcA a0 a1 a2 a3 a4 a5 a6 a7 a8 a9 a10 a11 a12 a13 a14 a15 a16 a17).args (drcA a0 a1 a2 a3 a4 a5 a6 a7 a8 a9 a10 a11 a12 a13 a14 a15 a16 a17).H0 (drcA a0 a1 a2 a3 a4 a5 a6 a7 a8 a9 a10 a11 a12 a13 a14 a15 a16 a17).base (drcA a0 a1 a2 a3 a4 a5 a6 a7 a8 a9 a10 a11 a12 a13 a14 a15 a16 a17).W ((drcA a0 a1 a2 a3 a4 a5 a6 a7 a8 a9 a10 a11 a12 a13 a14 a15 a16 a17).rc v) (putH (drcA a0 a1 a2 a3 a4 a5 a6 a7 a8 a9 a10 a11 a12 a13 a14 a15 a16 a17).H0 ((drcA a0 a1 a2 a3 a4 a5 a6 a7 a8 a9 a10 a11 a12 a13 a14 a15 a16 a17).rh v ++ (drcA a0 a1 a2 a3 a4 a5 a6 a7 a8 a9 a10 a11 a12 a13 a14 a15 a16 a17).rx v)) ((drcA a0 a1 a2 a3 a4 a5 a6 a7 a8 a9 a10 a11 a12 a13 a14 a15 a16 a17).rn v) :=
  AF.ctr try_ok hM (drcok a0 a1 a2 a3 a4 a5 a6 a7 a8 a9 a10 a11 a12 a13 a14 a15 a16 a17) (fn := Try.f67) Try.func67 rfl rfl (Nat.le_of_ble_eq_true rfl) rfl (drchR a0 a1 a2 a3 a4 a5 a6 a7 a8 a9 a10 a11 a12 a13 a14 a15 a16 a17 hM) hv
theorem drcmem {ρ : Env} : MemoOk Try.prog (ctxOf Try.prog (memoS 65 dwoP dwoF dwoW dwoH 2 (memoS 89 dtgP dtgF dtgW dtgH 2 (memoF 91 dseP dseF dseW dseH 7 memo0)))) ρ := (memoS_ok (dwoknown dwomem) (memoS_ok (dtgknown dtgmem) (memoF_ok (dseknown dsemem) memo0_ok)))
abbrev drcP : List AQ := [.agg [.bool, .int .i64, .int .i64, .int .i64, .int .i64, .rows [some .i64, some .i64], .rows [some .i64, some .i64, some .i64, some .i64], .int .i64], .agg [.int .i64, .int .i64], .int .i64, .int .i64]
noncomputable def drcF (v : AW) : AF drcN drcR := drcA (v.b.getD 0 false) (v.i.getD 0 0) (v.i.getD 1 0) (v.i.getD 2 0) (v.i.getD 3 0) (v.t.getD 0 .none).n ((v.t.getD 0 .none).c 0) ((v.t.getD 0 .none).c 1) (v.t.getD 1 .none).n ((v.t.getD 1 .none).c 0) ((v.t.getD 1 .none).c 1) ((v.t.getD 1 .none).c 2) ((v.t.getD 1 .none).c 3) (v.i.getD 4 0) (v.i.getD 5 0) (v.i.getD 6 0) (v.i.getD 7 0) (v.i.getD 8 0)
noncomputable def drcW : drcR → CV := fun v => .tup [.agg [.int .i64 (.x v.1), .int .i64 (.x v.2.1)], .int .i64 (.x v.2.2)]
noncomputable def drcH : drcR → List (Nat × Blk) := fun v => []
instance : Inhabited drcR := ⟨(0, 0, 0)⟩
theorem drcknown {ρ : Env} (hM : MemoOk Try.prog (ctxOf Try.prog (memoS 65 dwoP dwoF dwoW dwoH 2 (memoS 89 dtgP dtgF dtgW dtgH 2 (memoF 91 dseP dseF dseW dseH 7 memo0)))) ρ) : KnownS Try.prog ρ 67 drcP drcF drcW drcH 2 where
  fn := ⟨Try.f67, Try.func67, rfl⟩
  le := Nat.le_of_ble_eq_true rfl
  full := fun r => rfl
  rg := fun r => rfl
  hg := fun r => fa_nil
  ctr := fun v n r h => drcctr (v.b.getD 0 false) (v.i.getD 0 0) (v.i.getD 1 0) (v.i.getD 2 0) (v.i.getD 3 0) (v.t.getD 0 .none).n ((v.t.getD 0 .none).c 0) ((v.t.getD 0 .none).c 1) (v.t.getD 1 .none).n ((v.t.getD 1 .none).c 0) ((v.t.getD 1 .none).c 1) ((v.t.getD 1 .none).c 2) ((v.t.getD 1 .none).c 3) (v.i.getD 4 0) (v.i.getD 5 0) (v.i.getD 6 0) (v.i.getD 7 0) (v.i.getD 8 0) hM h
end Go.Proofs.Ythagjhadjpangaa.Cx

/- Package die: targets, wear, the search for the first piece that is not sure; one setting on one order. -/
namespace Go.Proofs.Ythagjhadjpangaa.Cx
set_option linter.unusedVariables false
set_option linter.unusedSimpArgs false
set_option maxRecDepth 100000
set_option maxHeartbeats 4000000
open Go Go.RowKit
def BB (x : Int) : Prop := -1000000000000 ≤ x ∧ x ≤ 1000000000000
def gL (b : Bool) (wl wh : Int) : Int := bif b then -wh else wl
def gH (b : Bool) (wl wh : Int) : Int := bif b then -wl else wh
theorem half_val {i j : Int} (h0 : 0 ≤ i) (h1 : i < j) (h2 : j ≤ 1000000000000) : Ar.run .conv .i64 (Ar.run .shr .u64 (Ar.run .conv .u64 (Ar.run .add .i64 i j) 0) 1) 0 = (i + j) / 2 := by
  rw [arAdd (a := i) (b := j) (by omega)]
  show IntKind.wrap .i64 ((IntKind.wrap .u64 (i + j)).fdiv (2 ^ min (1 : Int).toNat 64)) = _
  rw [IntKind.wrap_u64]
  have e : (i + j) % (2 ^ 64 : Int) = i + j := by omega
  have e2 : min (1 : Int).toNat 64 = 1 := by decide
  rw [e2]
  have e3 : ((i + j) % 18446744073709551616).fdiv (2 ^ 1) = (i + j) / 2 := by
    rw [Int.fdiv_eq_ediv_of_nonneg _ (by decide)]
    omega
  first
    | rw [e3]; exact IntWalk.i64_in _ (by omega)
    | (rw [e, Int.fdiv_eq_ediv_of_nonneg _ (by decide)]; exact IntWalk.i64_in _ (by omega))
section
variable {a0 : Bool} {a1 a2 a3 a4 : Int} {a5 : Nat} {a6 a7 : Nat → Int} {a8 : Nat} {a9 a10 a11 a12 : Nat → Int} {a13 a14 a15 a16 a17 : Int}
theorem dtg_val (h1 : BB a1) (h2 : BB a2) (h3 : BB a3) (h4 : BB a4) (h5 : BB a14) (h6 : BB a15) (h7 : BB a16) (h8 : BB a17) :
    AF.fin (dtgA a0 a1 a2 a3 a4 a5 a6 a7 a8 a9 a10 a11 a12 a13 a14 a15 a16 a17) = true ∧ AF.val (dtgA a0 a1 a2 a3 a4 a5 a6 a7 a8 a9 a10 a11 a12 a13 a14 a15 a16 a17) = (a14 - a1 - gL a0 a16 a17 - a3, a15 - a2 - gH a0 a16 a17 - a4) := by
  unfold BB at *
  refine flat_val (E := fun r => r = (a14 - a1 - gL a0 a16 a17 - a3, a15 - a2 - gH a0 a16 a17 - a4)) (fun _ => rfl) ?_
  show DD.sat _ _ (dtgD0 a0 a1 a2 a3 a4 a5 a6 a7 a8 a9 a10 a11 a12 a13 a14 a15 a16 a17)
  unfold dtgD0
  simp only [DD.sat]
  rw [arSub (a := 0) (b := a17) (by omega), arSub (a := 0) (b := a16) (by omega), arSub (a := a14) (b := a1) (by omega), arSub (a := a15) (b := a2) (by omega), arSub (a := a14 - a1) (b := 0 - a17) (by omega), arSub (a := a15 - a2) (b := 0 - a16) (by omega), arSub (b := a3) (by omega), arSub (b := a4) (by omega),
    arSub (a := a14 - a1) (b := a16) (by omega), arSub (a := a15 - a2) (b := a17) (by omega), arSub (b := a3) (by omega), arSub (b := a4) (by omega)]
  refine ⟨?_, ?_⟩
  · rintro rfl
    show _ = (a14 - a1 - -a17 - a3, a15 - a2 - -a16 - a4)
    simp only [Prod.mk.injEq]; omega
  · rintro rfl
    rfl
theorem wear_bd {n w : Int} (hn : 0 ≤ n ∧ n ≤ 1000000) (hw : 0 ≤ w ∧ w ≤ 100000) : 0 ≤ n * w ∧ n * w ≤ 100000000000 := by
  refine ⟨Int.mul_nonneg hn.1 hw.1, ?_⟩
  calc n * w ≤ 1000000 * w := Int.mul_le_mul_of_nonneg_right hn.2 hw.1
    _ ≤ 100000000000 := by omega
theorem dwo_val (hw : ∀ i : Nat, (i : Int) < a5 → VOk 0 100000 (a6 i) (a7 i)) (hs : 0 ≤ a16 ∧ a16 < a5) (h1 : 0 ≤ a14 ∧ a14 ≤ 500000000000) (h2 : 0 ≤ a15 ∧ a15 ≤ 500000000000) (h3 : 0 ≤ a17 ∧ a17 ≤ 1000000) :
    AF.fin (dwoA a0 a1 a2 a3 a4 a5 a6 a7 a8 a9 a10 a11 a12 a13 a14 a15 a16 a17) = true ∧ AF.val (dwoA a0 a1 a2 a3 a4 a5 a6 a7 a8 a9 a10 a11 a12 a13 a14 a15 a16 a17) = (a14 + a17 * a6 a16.toNat, a15 + a17 * a7 a16.toNat) := by
  obtain ⟨w1, w2, w3⟩ := hw a16.toNat (by omega)
  have m1 := wear_bd h3 (w := a6 a16.toNat) (by omega)
  have m2 := wear_bd h3 (w := a7 a16.toNat) (by omega)
  refine flat_val (E := fun r => r = (a14 + a17 * a6 a16.toNat, a15 + a17 * a7 a16.toNat)) (fun _ => rfl) ?_
  show DD.sat _ _ (dwoD0 a0 a1 a2 a3 a4 a5 a6 a7 a8 a9 a10 a11 a12 a13 a14 a15 a16 a17)
  unfold dwoD0
  simp only [DD.sat, Nat.zero_add, decide_eq_true_eq]
  refine ⟨hs.1, hs.2, by omega, ?_⟩
  rw [arMul (a := a17) (b := a6 a16.toNat) (by omega), arMul (a := a17) (b := a7 a16.toNat) (by omega), arAdd (a := a14) (by omega), arAdd (a := a15) (by omega)]
end
/-- Not sure any more behind h pieces of a part. -/
def Lost (t1 t2 : Int) (b : Bool) (s1 s2 c1 c2 zl zh wl wh w1 w2 h : Int) : Prop :=
  max (max t1 (zl - s1 - gL b w1 w2 - c1)) (zl - s1 - gL b (w1 + h * wl) (w2 + h * wh) - c1) > min (min t2 (zh - s2 - gH b w1 w2 - c2)) (zh - s2 - gH b (w1 + h * wl) (w2 + h * wh) - c2)
section
variable {a0 a1 a2 : Int} {a3 : Bool} {a4 a5 a6 a7 : Int} {a8 : Nat} {a9 a10 : Nat → Int} {a11 : Nat} {a12 a13 a14 a15 : Nat → Int} {a16 a17 a18 a19 a20 a21 a22 a23 a24 : Int}
theorem dse_val (hn : 0 ≤ a0 ∧ a0 ≤ 1000000) (hw : ∀ i : Nat, (i : Int) < a8 → VOk 0 100000 (a9 i) (a10 i)) (hs : 0 ≤ a18 ∧ a18 < a8) (h4 : BB a4) (h5 : BB a5) (h6 : BB a6) (h7 : BB a7) (h19 : BB a19) (h20 : BB a20) (h23 : 0 ≤ a23 ∧ a23 ≤ 500000000000) (h24 : 0 ≤ a24 ∧ a24 ≤ 500000000000) :
    AF.fin (dseA a0 a1 a2 a3 a4 a5 a6 a7 a8 a9 a10 a11 a12 a13 a14 a15 a16 a17 a18 a19 a20 a21 a22 a23 a24) = true ∧ ∃ r : Int, AF.val (dseA a0 a1 a2 a3 a4 a5 a6 a7 a8 a9 a10 a11 a12 a13 a14 a15 a16 a17 a18 a19 a20 a21 a22 a23 a24) = r ∧ 0 ≤ r ∧ r ≤ a0 ∧ (0 < r → ¬ Lost a1 a2 a3 a4 a5 a6 a7 a19 a20 (a9 a18.toNat) (a10 a18.toNat) a23 a24 (r - 1)) ∧ (r < a0 → Lost a1 a2 a3 a4 a5 a6 a7 a19 a20 (a9 a18.toNat) (a10 a18.toNat) a23 a24 r) := by
  have w := hw a18.toNat (by omega)
  unfold VOk at w
  have h := AF.val_sat (A := dseA a0 a1 a2 a3 a4 a5 a6 a7 a8 a9 a10 a11 a12 a13 a14 a15 a16 a17 a18 a19 a20 a21 a22 a23 a24) (E := fun (r : Int) => 0 ≤ r ∧ r ≤ a0 ∧ (0 < r → ¬ Lost a1 a2 a3 a4 a5 a6 a7 a19 a20 (a9 a18.toNat) (a10 a18.toNat) a23 a24 (r - 1)) ∧ (r < a0 → Lost a1 a2 a3 a4 a5 a6 a7 a19 a20 (a9 a18.toNat) (a10 a18.toNat) a23 a24 r))
    (Inv := fun b => match b with | .n0 p0 p1 => 0 ≤ p0 ∧ p0 ≤ p1 ∧ p1 ≤ a0 ∧ (0 < p0 → ¬ Lost a1 a2 a3 a4 a5 a6 a7 a19 a20 (a9 a18.toNat) (a10 a18.toNat) a23 a24 (p0 - 1)) ∧ (p1 < a0 → Lost a1 a2 a3 a4 a5 a6 a7 a19 a20 (a9 a18.toNat) (a10 a18.toNat) a23 a24 p1))
    (fun b => match b with | .n0 p0 p1 => (p1 - p0).toNat) (fun _ => rfl) (fun a hI => ?_) ?_
  · exact ⟨h.1, _, rfl, h.2⟩
  · cases a with
    | n0 p0 p1 =>
      obtain ⟨g0, g1, g2, g3, g4⟩ := hI
      show DD.sat _ _ (dseD a0 a1 a2 a3 a4 a5 a6 a7 a8 a9 a10 a11 a12 a13 a14 a15 a16 a17 a18 a19 a20 a21 a22 a23 a24 (.n0 p0 p1))
      unfold dseD
      simp only [DD.sat, Nat.zero_add, cmLss, cmLssF, cmGtr, cmGtrF, decide_eq_true_eq]
      refine ⟨fun h => ?_, fun h => ⟨g0, by omega, g3, fun hr => by
        have e : p0 = p1 := by omega
        rw [e]; exact g4 (by omega)⟩⟩
      have eh := half_val g0 h (by omega)
      have ha : Ar.run .add .i64 ((p0 + p1) / 2) 1 = (p0 + p1) / 2 + 1 := arAdd (by omega)
      rw [eh, ha]
      have hh : p0 ≤ (p0 + p1) / 2 ∧ (p0 + p1) / 2 < p1 := by omega
      generalize (p0 + p1) / 2 = m at hh
      have m1 := wear_bd (n := m) (w := a9 a18.toNat) (by omega) (by omega)
      have m2 := wear_bd (n := m) (w := a10 a18.toNat) (by omega) (by omega)
      have t1 : AF.fin (dtgA a3 a4 a5 a6 a7 a8 a9 a10 a11 a12 a13 a14 a15 a16 a19 a20 a23 a24) = true ∧ _ := dtg_val h4 h5 h6 h7 h19 h20 (by unfold BB; omega) (by unfold BB; omega)
      have t2 : AF.fin (dwoA a3 a4 a5 a6 a7 a8 a9 a10 a11 a12 a13 a14 a15 a16 a23 a24 a18 m) = true ∧ _ := dwo_val hw hs h23 h24 (by omega)
      have t3 : AF.fin (dtgA a3 a4 a5 a6 a7 a8 a9 a10 a11 a12 a13 a14 a15 a16 a19 a20 (a23 + m * a9 a18.toNat) (a24 + m * a10 a18.toNat)) = true ∧ _ := dtg_val h4 h5 h6 h7 h19 h20 (by unfold BB; omega) (by unfold BB; omega)
      have e1 : AF.val (dtgA a3 a4 a5 a6 a7 a8 (fun i => a9 i) (fun i => a10 i) a11 (fun i => a12 i) (fun i => a13 i) (fun i => a14 i) (fun i => a15 i) a16 a19 a20 a23 a24) = _ := t1.2
      have e2 : AF.val (dwoA a3 a4 a5 a6 a7 a8 (fun i => a9 i) (fun i => a10 i) a11 (fun i => a12 i) (fun i => a13 i) (fun i => a14 i) (fun i => a15 i) a16 a23 a24 a18 m) = _ := t2.2
      have e3 : AF.val (dtgA a3 a4 a5 a6 a7 a8 (fun i => a9 i) (fun i => a10 i) a11 (fun i => a12 i) (fun i => a13 i) (fun i => a14 i) (fun i => a15 i) a16 a19 a20 (a23 + m * a9 a18.toNat) (a24 + m * a10 a18.toNat)) = _ := t3.2
      simp only [e1, e2, e3, arMx, arMn]
      refine ⟨Nat.le_refl _, shape_ok fun i _ => rfl, Nat.le_refl _, shape_ok fun i _ => rfl, t1.1, Nat.le_refl _, shape_ok fun i _ => rfl, Nat.le_refl _, shape_ok fun i _ => rfl, t2.1, Nat.le_refl _, shape_ok fun i _ => rfl, Nat.le_refl _, shape_ok fun i _ => rfl, t3.1, fun hl => ?_, fun hl => ?_⟩
      · exact ⟨⟨g0, by omega, by omega, g3, fun _ => hl⟩, by omega⟩
      · refine ⟨⟨by omega, by omega, g2, fun _ => ?_, g4⟩, by omega⟩
        rw [show m + 1 - 1 = m by omega]
        exact Int.not_lt.2 hl
  · show 0 ≤ (0 : Int) ∧ (0 : Int) ≤ a0 ∧ a0 ≤ a0 ∧ _ ∧ _
    exact ⟨by omega, by omega, by omega, fun h => by omega, fun h => by omega⟩
end
theorem drc_mono {b0 : Bool} {b1 b2 b3 b4 : Int} {b5 : Nat} {b6 b7 : Nat → Int} {b8 : Nat} {b9 b10 b11 b12 : Nat → Int} {b13 b14 b15 b16 b17 : Int} : AF.Mono (drcA b0 b1 b2 b3 b4 b5 b6 b7 b8 b9 b10 b11 b12 b13 b14 b15 b16 b17) := by
  intro a q n m D hq hnm hD
  cases a with
  | n0 =>
    have hq : some (fun n => (AF.run (drcs0A b0 b1 b2 b3 b4 b5 b6 b7 b8 b9 b10 b11 b12 b13 b14 b15 b16 b17) n).map (drcRg0 b0 b1 b2 b3 b4 b5 b6 b7 b8 b9 b10 b11 b12 b13 b14 b15 b16 b17)) = some q := hq
    cases hq
    obtain ⟨v, hv, rfl⟩ := Option.map_eq_some_iff.1 hD
    show Option.map _ (AF.run _ m) = _
    rw [AF.run_mono (AF.mono_none fun _ => rfl) hnm hv]
    rfl
end Go.Proofs.Ythagjhadjpangaa.Cx

/- acme/die.Check as an automaton. Made by tools/cxauto.py. -/
namespace Go.Proofs.Ythagjhadjpangaa.Cx
set_option linter.unusedVariables false
set_option linter.unusedSimpArgs false
set_option maxRecDepth 100000
open Go Go.Proofs Go.RowKit
noncomputable abbrev dckCode : Code := funcCode Try.f17
inductive dckN where
  | n0 (p0 : Int)
abbrev dckR := Int
noncomputable def dckD0 (a0 : Bool) (a1 a2 a3 a4 : Int) (a5 : Nat) (a6 a7 : Nat → Int) (a8 : Nat) (a9 a10 a11 a12 : Nat → Int) : DD (Lf dckN dckR) :=
 let z0 := fun i => [CV.int IntKind.i64 (IE.x (a6 (0 + i))), CV.int IntKind.i64 (IE.x (a7 (0 + i)))]
 let z1 := dctA a0 a1 a2 a3 a4 a5 (fun i => a6 (0 + i)) (fun i => a7 (0 + i))
 let z2 := AF.val z1
 .ask (Cm.run .gtr ((↑a8 : Int)) 40)
   (.leaf (.done 5 []))
   (.must (decide (0 + a5 ≤ a5))
   (.must (ShapeOk [some IntKind.i64, some IntKind.i64] (tabOf a5 z0) z0)
   (.must (AF.fin z1)
   (.ask (Cm.run .neq z2 0)
   (.leaf (.done z2 []))
   (.leaf (.next (.n0 0) [2]))))))

noncomputable def dckD (a0 : Bool) (a1 a2 a3 a4 : Int) (a5 : Nat) (a6 a7 : Nat → Int) (a8 : Nat) (a9 a10 a11 a12 : Nat → Int) : dckN → DD (Lf dckN dckR)
 | .n0 p0 =>
 let z0 := a9 (0 + Int.toNat p0)
 let z1 := a11 (0 + Int.toNat p0)
 let z2 := a12 (0 + Int.toNat p0)
 let z3 := a10 (0 + Int.toNat p0)
 .ask (Cm.run .lss p0 (↑a8 : Int))
   (.must (decide (0 ≤ p0))
   (.must (decide (p0 < (↑a8 : Int)))
   (.must (decide (0 + Int.toNat p0 < a8))
   (.ask (Cm.run .lss z0 1)
   (.leaf (.done 2 []))
   (.ask (Cm.run .gtr z0 10000)
   (.leaf (.done 2 []))
   (.ask (Cm.run .leq 0 z1)
   (.ask (Cm.run .leq z1 z2)
   (.ask (Cm.run .leq z2 10000000000)
   (.ask (Cm.run .lss z3 0)
   (.leaf (.done 7 []))
   (.ask (Cm.run .gtr z3 (Ar.run .sub .i64 ((↑a5 : Int)) 1))
   (.leaf (.done 7 []))
   (.leaf (.next (.n0 (Ar.run .add .i64 p0 1)) [2]))))
   (.leaf (.done 2 [])))
   (.leaf (.done 2 [])))
   (.leaf (.done 2 []))))))))
   (.ask (Cm.run .eql ((↑a8 : Int)) 0)
   (.leaf (.done 2 []))
   (.leaf (.done 0 [])))

noncomputable def dckA (a0 : Bool) (a1 a2 a3 a4 : Int) (a5 : Nat) (a6 a7 : Nat → Int) (a8 : Nat) (a9 a10 a11 a12 : Nat → Int) : AF dckN dckR where
  code := dckCode
  base := 2
  nt := 42
  m := 400
  un := []
  W := []
  h0 := [(0, ⟨.arg a5 2 (fun i => [.int .i64 (.x (a6 i)), .int .i64 (.x (a7 i))]) (fun _ => ⟨rfl, rfl⟩), 2, true, none⟩), (1, ⟨.arg a8 4 (fun i => [.int .i64 (.x (a9 i)), .int .i64 (.x (a10 i)), .int .i64 (.x (a11 i)), .int .i64 (.x (a12 i))]) (fun _ => ⟨rfl, rfl⟩), 4, true, none⟩)]
  args := [.agg [.bool (.x a0), .int .i64 (.x a1), .int .i64 (.x a2), .int .i64 (.x a3), .int .i64 (.x a4), .sla 0 2 0 a5], .sla 1 4 0 a8]
  res := (Try.f17).results.toList
  path := fun a => match a with
   | .n0 p0 => [1, 1, 1, 0, 1, 0]
  pd := fun a => match a with
   | .n0 p0 => ⟨[(1, .sla 1 4 0 a8), (2, .ptr (some (2, 0))), (16, .sla 1 4 0 a8), (17, .int .i64 (.x (↑a8))), (18, .int .i64 (.x p0))], [(2, ⟨.lit [.bool (.x a0), .int .i64 (.x a1), .int .i64 (.x a2), .int .i64 (.x a3), .int .i64 (.x a4), .sla 0 2 0 a5], 0, true, none⟩)], 3, []⟩
  D0 := dckD0 a0 a1 a2 a3 a4 a5 a6 a7 a8 a9 a10 a11 a12
  D := dckD a0 a1 a2 a3 a4 a5 a6 a7 a8 a9 a10 a11 a12
  rc := (fun v => .int .i64 (.x v))
  rh := (fun v => [])
  rn := (fun v => 2)
  rx := (fun v => [])
  rgo := (fun _ => none)
theorem dckstart (a0 : Bool) (a1 a2 a3 a4 : Int) (a5 : Nat) (a6 a7 : Nat → Int) (a8 : Nat) (a9 a10 a11 a12 : Nat → Int) : AF.edgeOk (dckA a0 a1 a2 a3 a4 a5 a6 a7 a8 a9 a10 a11 a12) (ctxOf Try.prog memo0) (dckD0 a0 a1 a2 a3 a4 a5 a6 a7 a8 a9 a10 a11 a12) (AF.run0 (dckA a0 a1 a2 a3 a4 a5 a6 a7 a8 a9 a10 a11 a12) (ctxOf Try.prog (memoS 59 dctP dctF dctW dctH 1 memo0))) := by unfold AF.edgeOk; kernel_rfl
theorem dcknode0 (a0 : Bool) (a1 a2 a3 a4 : Int) (a5 : Nat) (a6 a7 : Nat → Int) (a8 : Nat) (a9 a10 a11 a12 : Nat → Int) (p0 : Int) : AF.edgeOk (dckA a0 a1 a2 a3 a4 a5 a6 a7 a8 a9 a10 a11 a12) (ctxOf Try.prog memo0) (dckD a0 a1 a2 a3 a4 a5 a6 a7 a8 a9 a10 a11 a12 (.n0 p0)) (AF.runN (dckA a0 a1 a2 a3 a4 a5 a6 a7 a8 a9 a10 a11 a12) (ctxOf Try.prog (memoS 59 dctP dctF dctW dctH 1 memo0)) (.n0 p0)) := by unfold AF.edgeOk; kernel_rfl
theorem dckok (a0 : Bool) (a1 a2 a3 a4 : Int) (a5 : Nat) (a6 a7 : Nat → Int) (a8 : Nat) (a9 a10 a11 a12 : Nat → Int) : (dckA a0 a1 a2 a3 a4 a5 a6 a7 a8 a9 a10 a11 a12).Ok Try.prog (ctxOf Try.prog (memoS 59 dctP dctF dctW dctH 1 memo0)) where
  regs := by kernel_rfl
  h0 := by kernel_rfl
  start := dckstart a0 a1 a2 a3 a4 a5 a6 a7 a8 a9 a10 a11 a12
  node := fun a _ => match a with
   | .n0 p0 => dcknode0 a0 a1 a2 a3 a4 a5 a6 a7 a8 a9 a10 a11 a12 p0
  pd := fun a => match a with
   | .n0 p0 => ⟨(fa_cons rfl (fa_cons rfl (fa_cons rfl (fa_cons rfl (fa_cons rfl fa_nil))))), (fa_cons ⟨.inl (Nat.le_of_ble_eq_true rfl), rfl, rfl⟩ fa_nil), fa_nil, rfl⟩
  le := fun a => match a with
   | .n0 p0 => Nat.le_of_ble_eq_true rfl
  rd := fun v => ⟨⟨fa_nil, fa_nil, fa_nil, rfl⟩, rfl⟩
  wb := rfl
theorem dckhR {ρ : Env} (a0 : Bool) (a1 a2 a3 a4 : Int) (a5 : Nat) (a6 a7 : Nat → Int) (a8 : Nat) (a9 a10 a11 a12 : Nat → Int) (hM : MemoOk Try.prog (ctxOf Try.prog (memoS 59 dctP dctF dctW dctH 1 memo0)) ρ) : ∀ X a q n D, FxOk ρ X → X.base = (dckA a0 a1 a2 a3 a4 a5 a6 a7 a8 a9 a10 a11 a12).base → X.nt = (dckA a0 a1 a2 a3 a4 a5 a6 a7 a8 a9 a10 a11 a12).nt → X.W = (dckA a0 a1 a2 a3 a4 a5 a6 a7 a8 a9 a10 a11 a12).W → (dckA a0 a1 a2 a3 a4 a5 a6 a7 a8 a9 a10 a11 a12).rgo a = some q → q n = some D → (dckA a0 a1 a2 a3 a4 a5 a6 a7 a8 a9 a10 a11 a12).RangeOk Try.prog ρ X a D := AF.noRange rfl
theorem dckctr {ρ : Env} (a0 : Bool) (a1 a2 a3 a4 : Int) (a5 : Nat) (a6 a7 : Nat → Int) (a8 : Nat) (a9 a10 a11 a12 : Nat → Int) {n : Nat} {v : dckR} (hM : MemoOk Try.prog (ctxOf Try.prog (memoS 59 dctP dctF dctW dctH 1 memo0)) ρ) (hv : (dckA a0 a1 a2 a3 a4 a5 a6 a7 a8 a9 a10 a11 a12).run n = some v) :
    Ctr Try.prog ρ 17 (dckA a0 a1 a2 a3 a4 a5 a6 a7 a8 a9 a10 a11 a12).args (dckA a0 a1 a2 a3 a4 a5 a6 a7 a8 a9 a10 a11 a12).H0 (dckA a0 a1 a2 a3 a4 a5 a6 a7 a8 a9 a10 a11 a12).base (dckA a0 a1 a2 a3 a4 a5 a6 a7 a8 a9 a10 a11 a12).W ((dckA a0 a1 a2 a3 a4 a5 a6 a7 a8 a9 a10 a11 a12).rc v) (putH (dckA a0 a1 a2 a3 a4 a5 a6 a7 a8 a9 a10 a11 a12).H0 ((dckA a0 a1 a2 a3 a4 a5 a6 a7 a8 a9 a10 a11 a12).rh v ++ (dckA a0 a1 a2 a3 a4 a5 a6 a7 a8 a9 a10 a11 a12).rx v)) ((dckA a0 a1 a2 a3 a4 a5 a6 a7 a8 a9 a10 a11 a12).rn v) :=
  AF.ctr try_ok hM (dckok a0 a1 a2 a3 a4 a5 a6 a7 a8 a9 a10 a11 a12) (fn := Try.f17) Try.func17 rfl rfl (Nat.le_of_ble_eq_true rfl) rfl (dckhR a0 a1 a2 a3 a4 a5 a6 a7 a8 a9 a10 a11 a12 hM) hv
theorem dckmem {ρ : Env} : MemoOk Try.prog (ctxOf Try.prog (memoS 59 dctP dctF dctW dctH 1 memo0)) ρ := (memoS_ok (dctknown dctmem) memo0_ok)
abbrev dckP : List AQ := [.agg [.bool, .int .i64, .int .i64, .int .i64, .int .i64, .rows [some .i64, some .i64]], .rows [some .i64, some .i64, some .i64, some .i64]]
noncomputable def dckF (v : AW) : AF dckN dckR := dckA (v.b.getD 0 false) (v.i.getD 0 0) (v.i.getD 1 0) (v.i.getD 2 0) (v.i.getD 3 0) (v.t.getD 0 .none).n ((v.t.getD 0 .none).c 0) ((v.t.getD 0 .none).c 1) (v.t.getD 1 .none).n ((v.t.getD 1 .none).c 0) ((v.t.getD 1 .none).c 1) ((v.t.getD 1 .none).c 2) ((v.t.getD 1 .none).c 3)
noncomputable def dckW : dckR → CV := fun v => .int .i64 (.x v)
noncomputable def dckH : dckR → List (Nat × Blk) := fun v => []
instance : Inhabited dckR := ⟨0⟩
theorem dckknown {ρ : Env} (hM : MemoOk Try.prog (ctxOf Try.prog (memoS 59 dctP dctF dctW dctH 1 memo0)) ρ) : KnownS Try.prog ρ 17 dckP dckF dckW dckH 2 where
  fn := ⟨Try.f17, Try.func17, rfl⟩
  le := Nat.le_of_ble_eq_true rfl
  full := fun r => rfl
  rg := fun r => rfl
  hg := fun r => fa_nil
  ctr := fun v n r h => dckctr (v.b.getD 0 false) (v.i.getD 0 0) (v.i.getD 1 0) (v.i.getD 2 0) (v.i.getD 3 0) (v.t.getD 0 .none).n ((v.t.getD 0 .none).c 0) ((v.t.getD 0 .none).c 1) (v.t.getD 1 .none).n ((v.t.getD 1 .none).c 0) ((v.t.getD 1 .none).c 1) ((v.t.getD 1 .none).c 2) ((v.t.getD 1 .none).c 3) hM h
end Go.Proofs.Ythagjhadjpangaa.Cx

/- acme/acmeref07.Check as an automaton. Made by tools/cxauto.py. -/
namespace Go.Proofs.Ythagjhadjpangaa.Cx
set_option linter.unusedVariables false
set_option linter.unusedSimpArgs false
set_option maxRecDepth 100000
open Go Go.Proofs Go.RowKit
abbrev rdkR := Int
instance : Inhabited rdkR := ⟨0⟩
end Go.Proofs.Ythagjhadjpangaa.Cx

/- Package die: contracts of Check, the program's and the reference's. -/
namespace Go.Proofs.Ythagjhadjpangaa.Cx
set_option linter.unusedVariables false
set_option linter.unusedSimpArgs false
set_option maxRecDepth 100000
set_option maxHeartbeats 4000000
open Go Go.RowKit
def OrdG (pc zl zh : Int) : Prop := 1 ≤ pc ∧ pc ≤ 10000 ∧ VOk 0 10000000000 zl zh
def OrdOk (n : Nat) (pc st zl zh : Int) : Prop := OrdG pc zl zh ∧ 0 ≤ st ∧ st < n
def OrdF (n : Nat) (pc st zl zh v : Int) : Prop := ¬ OrdG pc zl zh ∧ v = 2 ∨ OrdG pc zl zh ∧ ¬ (0 ≤ st ∧ st < n) ∧ v = 7
theorem OrdF.bad {n : Nat} {pc st zl zh v : Int} (h : OrdF n pc st zl zh v) : ¬ OrdOk n pc st zl zh ∧ v ≠ 0 := by
  rcases h with ⟨a, b⟩ | ⟨a, b, c⟩
  · exact ⟨fun h => a h.1, by omega⟩
  · exact ⟨fun h => b h.2, by omega⟩
theorem OrdF.same {n : Nat} {pc st zl zh v w : Int} (h : OrdF n pc st zl zh v) (h' : OrdF n pc st zl zh w) : v = w := by
  rcases h with ⟨a, b⟩ | ⟨a, b, c⟩ <;> rcases h' with ⟨a', b'⟩ | ⟨a', b', c'⟩ <;> first | omega | exact absurd a' a | exact absurd a a'
/-- The error of a tool and orders. -/
def CkS (n m : Nat) (V : Prop) (pc st zl zh : Nat → Int) (v : Int) : Prop := m > 40 ∧ v = 5 ∨ m ≤ 40 ∧ ∃ e, TV n V e ∧ (e ≠ 0 ∧ v = e ∨ e = 0 ∧
  ((∃ k : Nat, k < m ∧ (∀ i : Nat, i < k → OrdOk n (pc i) (st i) (zl i) (zh i)) ∧ OrdF n (pc k) (st k) (zl k) (zh k) v) ∨ (∀ i : Nat, i < m → OrdOk n (pc i) (st i) (zl i) (zh i)) ∧ (m = 0 ∧ v = 2 ∨ 0 < m ∧ v = 0)))
theorem CkS.same {n m : Nat} {V : Prop} {pc st zl zh : Nat → Int} {v w : Int} (h : CkS n m V pc st zl zh v) (h' : CkS n m V pc st zl zh w) : v = w := by
  rcases h with ⟨a, b⟩ | ⟨a, e, he, b⟩ <;> rcases h' with ⟨a', b'⟩ | ⟨a', e', he', b'⟩
  · omega
  · omega
  · omega
  · obtain rfl := he.same he'
    rcases b with ⟨b1, b2⟩ | ⟨b1, b2⟩ <;> rcases b' with ⟨c1, c2⟩ | ⟨c1, c2⟩
    · omega
    · exact absurd c1 b1
    · exact absurd b1 c1
    · rcases b2 with ⟨k, k1, k2, k3⟩ | ⟨k1, k2⟩ <;> rcases c2 with ⟨j, j1, j2, j3⟩ | ⟨j1, j2⟩
      · obtain rfl : k = j := by
          rcases Nat.lt_trichotomy k j with q | q | q
          · exact absurd (j2 k q) k3.bad.1
          · exact q
          · exact absurd (k2 j q) j3.bad.1
        exact k3.same j3
      · exact absurd (j1 k k1) k3.bad.1
      · exact absurd (k1 j j1) j3.bad.1
      · omega
theorem CkS.ok {n m : Nat} {V : Prop} {pc st zl zh : Nat → Int} (h : CkS n m V pc st zl zh 0) : V ∧ n ≤ 8 ∧ 0 < m ∧ m ≤ 40 ∧ ∀ i : Nat, i < m → OrdOk n (pc i) (st i) (zl i) (zh i) := by
  rcases h with ⟨_, b⟩ | ⟨a, e, he, b⟩
  · exact absurd b (by decide)
  · rcases b with ⟨b1, b2⟩ | ⟨rfl, b2⟩
    · exact absurd b2.symm b1
    · rcases b2 with ⟨k, k1, k2, k3⟩ | ⟨k1, k2⟩
      · exact absurd rfl k3.bad.2
      · exact ⟨he.ok.1, he.ok.2, by omega, a, k1⟩
section
variable {a0 : Bool} {a1 a2 a3 a4 : Int} {a5 : Nat} {a6 a7 : Nat → Int} {a8 : Nat} {a9 a10 a11 a12 : Nat → Int}
/-- The loop's invariant, and its step. -/
def CkI (n m : Nat) (V : Prop) (pc st zl zh : Nat → Int) (p : Int) : Prop := m ≤ 40 ∧ TV n V 0 ∧ 0 ≤ p ∧ p ≤ m ∧ ∀ i : Nat, i < p.toNat → OrdOk n (pc i) (st i) (zl i) (zh i)
theorem CkI.fail {n m : Nat} {V : Prop} {pc st zl zh : Nat → Int} {p v : Int} (h : CkI n m V pc st zl zh p) (hp : p < m) (hf : OrdF n (pc p.toNat) (st p.toNat) (zl p.toNat) (zh p.toNat) v) : CkS n m V pc st zl zh v := by
  obtain ⟨h1, h2, h3, h4, h5⟩ := h
  exact .inr ⟨h1, 0, h2, .inr ⟨rfl, .inl ⟨p.toNat, by omega, h5, hf⟩⟩⟩
theorem CkI.next {n m : Nat} {V : Prop} {pc st zl zh : Nat → Int} {p : Int} (h : CkI n m V pc st zl zh p) (hp : p < m) (hf : OrdOk n (pc p.toNat) (st p.toNat) (zl p.toNat) (zh p.toNat)) : CkI n m V pc st zl zh (p + 1) ∧ (m - (p + 1)).toNat < (m - p).toNat := by
  obtain ⟨h1, h2, h3, h4, h5⟩ := h
  refine ⟨⟨h1, h2, by omega, by omega, fun i hi => ?_⟩, by omega⟩
  by_cases he : i < p.toNat
  · exact h5 i he
  · obtain rfl : i = p.toNat := by omega
    exact hf
theorem CkI.done {n m : Nat} {V : Prop} {pc st zl zh : Nat → Int} {p v : Int} (h : CkI n m V pc st zl zh p) (hp : (m : Int) ≤ p) (hv : m = 0 ∧ v = 2 ∨ 0 < m ∧ v = 0) : CkS n m V pc st zl zh v := by
  obtain ⟨h1, h2, h3, h4, h5⟩ := h
  exact .inr ⟨h1, 0, h2, .inr ⟨rfl, .inr ⟨fun i hi => h5 i (by omega), hv⟩⟩⟩
theorem dck_val (hn : a5 ≤ 10000) (hm : a8 ≤ 10000) : AF.fin (dckA a0 a1 a2 a3 a4 a5 a6 a7 a8 a9 a10 a11 a12) = true ∧ CkS a5 a8 (ToolOk a5 a6 a7 a1 a2 a3 a4) a9 a10 a11 a12 (AF.val (dckA a0 a1 a2 a3 a4 a5 a6 a7 a8 a9 a10 a11 a12)) := by
  have hC := dct_val (a0 := a0) (a1 := a1) (a2 := a2) (a3 := a3) (a4 := a4) (a5 := a5) (a6 := a6) (a7 := a7) hn
  refine AF.val_sat (E := CkS a5 a8 (ToolOk a5 a6 a7 a1 a2 a3 a4) a9 a10 a11 a12) (Inv := fun b => match b with | .n0 p => CkI a5 a8 (ToolOk a5 a6 a7 a1 a2 a3 a4) a9 a10 a11 a12 p)
    (fun b => match b with | .n0 p => (a8 - p).toNat) (fun _ => rfl) (fun a hI => ?_) ?_
  · cases a with
    | n0 p =>
      have hI : CkI a5 a8 (ToolOk a5 a6 a7 a1 a2 a3 a4) a9 a10 a11 a12 p := hI
      have g0 := hI.2.2.1
      show DD.sat _ _ (dckD a0 a1 a2 a3 a4 a5 a6 a7 a8 a9 a10 a11 a12 (.n0 p))
      unfold dckD
      have e1 : p < a8 → Ar.run .add .i64 p 1 = p + 1 := fun h => arAdd (by omega)
      have e2 : Ar.run .sub .i64 (a5 : Int) 1 = a5 - 1 := arSub (by omega)
      simp only [DD.sat, Nat.zero_add, cmLss, cmLssF, cmGtr, cmGtrF, cmLeq, cmLeqF, cmEql, cmEqlF, decide_eq_true_eq, e2]
      refine ⟨fun h => ⟨g0, h, by omega, fun b1 => hI.fail h (.inl ⟨fun s => ?_, rfl⟩), fun b1 => ⟨fun b2 => hI.fail h (.inl ⟨fun s => ?_, rfl⟩), fun b2 => ⟨fun b3 => ⟨fun b4 => ⟨fun b5 => ⟨fun b6 => hI.fail h (.inr ⟨⟨b1, b2, b3, b4, b5⟩, by omega, rfl⟩), fun b6 => ⟨fun b7 => hI.fail h (.inr ⟨⟨b1, b2, b3, b4, b5⟩, by omega, rfl⟩), fun b7 => ?_⟩⟩, fun b5 => hI.fail h (.inl ⟨fun s => ?_, rfl⟩)⟩, fun b4 => hI.fail h (.inl ⟨fun s => ?_, rfl⟩)⟩, fun b3 => hI.fail h (.inl ⟨fun s => ?_, rfl⟩)⟩⟩⟩, fun h => ⟨fun h0 => hI.done h (.inl ⟨by omega, rfl⟩), fun h0 => hI.done h (.inr ⟨by omega, rfl⟩)⟩⟩
      case refine_3 =>
        rw [e1 h]
        exact hI.next h ⟨⟨b1, b2, b3, b4, b5⟩, b6, by omega⟩
      all_goals
        obtain ⟨s1, s2, s3, s4, s5⟩ := s
        omega
  · show DD.sat _ _ (dckD0 a0 a1 a2 a3 a4 a5 a6 a7 a8 a9 a10 a11 a12)
    unfold dckD0
    simp only [DD.sat, Nat.zero_add, cmGtr, cmGtrF, cmNeq, cmNeqF, decide_eq_true_eq]
    refine ⟨fun h => .inl ⟨by omega, rfl⟩, fun h => ⟨Nat.le_refl _, shape_ok fun i _ => rfl, hC.1, fun he => .inr ⟨by omega, _, hC.2, .inl ⟨he, rfl⟩⟩, fun he => ?_⟩⟩
    have q := hC.2
    rw [show AF.val (dctA a0 a1 a2 a3 a4 a5 a6 a7) = 0 from he] at q
    exact ⟨by omega, q, by omega, by omega, fun i hi => by simp at hi⟩
end
end Go.Proofs.Ythagjhadjpangaa.Cx

/- CALLS THAT YIELD THEIR ARGUMENTS' SLICES: a function that yields structs that hold slices of its arguments is known from its automaton; the slices stand in the caller's names. -/
namespace Go.Proofs.Ythagjhadjpangaa.Cx
set_option linter.unusedSimpArgs false
set_option linter.unusedVariables false
open Go Go.RowKit
mutual
/-- A result in the caller's names: tables of arguments as they are named there, what is new by lifted names. -/
def CV.pas (T : List (Nat × Nat × Nat × Nat)) (base n next : Nat) : CV → Option CV
  | .sla q z o k => bif Nat.blt q base then (match T.find? (fun x => Nat.beq x.1 q) with | some (_, b2, o2, z2) => (bif Nat.beq o 0 && Nat.beq z2 z then some (.sla b2 z o2 k) else none) | none => none) else (bif Nat.blt q n then some (.sla (liftName base next q) z o k) else none)
  | .agg l => match CV.pasl T base n next l with | some l => some (.agg l) | none => none
  | .tup l => match CV.pasl T base n next l with | some l => some (.tup l) | none => none
  | .bool b => bif (CV.bool b).rng base n then some ((CV.bool b).ren (liftName base next)) else none
  | .int k e => bif (CV.int k e).rng base n then some ((CV.int k e).ren (liftName base next)) else none
  | .raw v => bif (CV.raw v).rng base n then some ((CV.raw v).ren (liftName base next)) else none
  | .ptr a => bif (CV.ptr a).rng base n then some ((CV.ptr a).ren (liftName base next)) else none
  | .slc a m0 k => bif (CV.slc a m0 k).rng base n then some ((CV.slc a m0 k).ren (liftName base next)) else none
  | .slx b z o m0 k => bif (CV.slx b z o m0 k).rng base n then some ((CV.slx b z o m0 k).ren (liftName base next)) else none
  | .sln e => bif (CV.sln e).rng base n then some ((CV.sln e).ren (liftName base next)) else none
  | .slr b z N e => bif (CV.slr b z N e).rng base n then some ((CV.slr b z N e).ren (liftName base next)) else none
  | .ptx b z j f => bif (CV.ptx b z j f).rng base n then some ((CV.ptx b z j f).ren (liftName base next)) else none
  | .junk => bif (CV.junk).rng base n then some ((CV.junk).ren (liftName base next)) else none
  | .any => bif (CV.any).rng base n then some ((CV.any).ren (liftName base next)) else none
  | .emp => bif (CV.emp).rng base n then some ((CV.emp).ren (liftName base next)) else none
  | .fn f l m => bif (CV.fn f l m).rng base n then some ((CV.fn f l m).ren (liftName base next)) else none
  | .yld b => bif (CV.yld b).rng base n then some ((CV.yld b).ren (liftName base next)) else none
  | .map b => bif (CV.map b).rng base n then some ((CV.map b).ren (liftName base next)) else none
def CV.pasl (T : List (Nat × Nat × Nat × Nat)) (base n next : Nat) : List CV → Option (List CV)
  | [] => some []
  | c :: l => match CV.pas T base n next c with
    | some c => (match CV.pasl T base n next l with | some l => some (c :: l) | none => none)
    | none => none
end
section
variable {ρ : Env} {σ τ : Mp} {T : List (Nat × Nat × Nat × Nat)} {base n next : Nat}
theorem VR.pas_d (hl : LiftN base n next σ τ) {c c2 : CV} {v : Value} (h : (bif c.rng base n then some (c.ren (liftName base next)) else none) = some c2) (hv : VR ρ σ c v) : VR ρ τ c2 v := by
  cases hr : c.rng base n with
  | false => rw [hr] at h; cases h
  | true =>
    rw [hr, cond_true] at h
    cases h
    exact hv.lift hl hr
mutual
theorem VR.pas (hl : LiftN base n next σ τ) (hT : ∀ x ∈ T, ∀ l', σ x.1 = some l' → ∃ l, τ x.2.1 = some l ∧ l'.blk = l.blk ∧ l'.base = l.base + x.2.2.1 * x.2.2.2) : ∀ (c : CV) {v : Value} {c2 : CV}, VR ρ σ c v → c.pas T base n next = some c2 → VR ρ τ c2 v
  | .sla q z o k, v, c2, hv, h => by
    rw [CV.pas] at h
    cases hq : Nat.blt q base with
    | true =>
      rw [hq, cond_true] at h
      split at h
      rotate_left
      · cases h
      rename_i q2 b2 o2 z2 hx
      cases hb : (Nat.beq o 0 && Nat.beq z2 z) with
      | false => rw [hb] at h; cases h
      | true =>
        rw [hb, cond_true] at h
        cases h
        simp only [Bool.and_eq_true] at hb
        obtain rfl := Nat.eq_of_beq_eq_true hb.1
        obtain rfl := Nat.eq_of_beq_eq_true hb.2
        have e0 : Nat.beq q2 q = true := @List.find?_some (Nat × Nat × Nat × Nat) (fun x => Nat.beq x.1 q) _ _ hx
        have e1 := Nat.eq_of_beq_eq_true e0
        have e2 := List.mem_of_find?_eq_some hx
        cases hv with
        | @sla _ _ _ _ c' l h hc =>
          obtain ⟨l2, g1, g2, g3⟩ := hT _ e2 l (by show σ q2 = _; rw [e1]; exact h)
          have := VR.sla (ρ := ρ) (σ := τ) (b := b2) (z := z2) (o := o2) (n := k) (c' := c') g1 hc
          rw [g2, g3, Nat.zero_mul, Nat.add_zero]
          exact this
        | sla0 a c' => exact .sla0 _ _
    | false =>
      rw [hq, cond_false] at h
      cases hn : Nat.blt q n with
      | false => rw [hn] at h; cases h
      | true =>
        rw [hn, cond_true] at h
        cases h
        have hb : Nat.ble base q = true := by
          have : ¬ q < base := fun h' => by
            have e : Nat.blt q base = true := Nat.ble_eq_true_of_le h'
            rw [e] at hq; cases hq
          exact Nat.ble_eq_true_of_le (by omega)
        have hr : (CV.sla q z o k).rng base n = true := by
          rw [CV.rng, hb, hn]; rfl
        exact hv.lift hl hr
  | .agg l, v, c2, hv, h => by
    rw [CV.pas] at h
    split at h
    rotate_left
    · cases h
    rename_i l2 hl2
    cases h
    cases hv with
    | agg h' => exact .agg (VRl.pas hl hT l h' hl2)
  | .tup l, v, c2, hv, h => by
    rw [CV.pas] at h
    split at h
    rotate_left
    · cases h
    rename_i l2 hl2
    cases h
    cases hv with
    | tup h' => exact .tup (VRl.pas hl hT l h' hl2)
  | .bool b, v, c2, hv, h => by rw [CV.pas] at h; exact VR.pas_d hl h hv
  | .int k e, v, c2, hv, h => by rw [CV.pas] at h; exact VR.pas_d hl h hv
  | .raw v0, v, c2, hv, h => by rw [CV.pas] at h; exact VR.pas_d hl h hv
  | .ptr a, v, c2, hv, h => by rw [CV.pas] at h; exact VR.pas_d hl h hv
  | .slc a m0 k, v, c2, hv, h => by rw [CV.pas] at h; exact VR.pas_d hl h hv
  | .slx b z o m0 k, v, c2, hv, h => by rw [CV.pas] at h; exact VR.pas_d hl h hv
  | .sln e, v, c2, hv, h => by rw [CV.pas] at h; exact VR.pas_d hl h hv
  | .slr b z N e, v, c2, hv, h => by rw [CV.pas] at h; exact VR.pas_d hl h hv
  | .ptx b z j f, v, c2, hv, h => by rw [CV.pas] at h; exact VR.pas_d hl h hv
  | .junk, v, c2, hv, h => by rw [CV.pas] at h; exact VR.pas_d hl h hv
  | .any, v, c2, hv, h => by rw [CV.pas] at h; exact VR.pas_d hl h hv
  | .emp, v, c2, hv, h => by rw [CV.pas] at h; exact VR.pas_d hl h hv
  | .fn f l m, v, c2, hv, h => by rw [CV.pas] at h; exact VR.pas_d hl h hv
  | .yld b, v, c2, hv, h => by rw [CV.pas] at h; exact VR.pas_d hl h hv
  | .map b, v, c2, hv, h => by rw [CV.pas] at h; exact VR.pas_d hl h hv
theorem VRl.pas (hl : LiftN base n next σ τ) (hT : ∀ x ∈ T, ∀ l', σ x.1 = some l' → ∃ l, τ x.2.1 = some l ∧ l'.blk = l.blk ∧ l'.base = l.base + x.2.2.1 * x.2.2.2) : ∀ (l : List CV) {vs : List Value} {l2 : List CV}, VRl ρ σ l vs → CV.pasl T base n next l = some l2 → VRl ρ τ l2 vs
  | [], vs, l2, hv, h => by
    rw [CV.pasl] at h
    cases h; cases hv
    exact .nil
  | c :: l, vs, l2, hv, h => by
    rw [CV.pasl] at h
    split at h
    rotate_left
    · cases h
    rename_i c1 hc1
    split at h
    rotate_left
    · cases h
    rename_i l1 hl1
    cases h
    cases hv with
    | cons h1 h2 => exact .cons (VR.pas hl hT c h1 hc1) (VRl.pas hl hT l h2 hl1)
end
end
/-- Calls of a function are known from its automaton; it may yield slices of its arguments. -/
noncomputable def memoP {N R : Type} [Inhabited R] (g : Nat) (ps : List AB) (F : AW → AF N R) (rw' : R → CV) (hw : R → List (Nat × Blk)) (nw : Nat) (inner : Memo) : Memo := fun f args s =>
  bif Nat.beq f g then
    match AB.gets s ps args ⟨⟨[], [], []⟩, [], [], 0⟩ with
    | some a => match s.musts (a.sh ++ [(F a.v).fin]) with
      | some s1 => match (rw' (F a.v).val).pas (AB.tabss ps args 0) (AB.nqs ps) nw s.next with
        | some c => bif (AB.tabss ps args 0).all (fun x => Nat.blt x.2.1 s.next) then some (c, { s1 with heap := putNew (AB.nqs ps) s.next s.heap (hw (F a.v).val), next := s.next + (nw - (AB.nqs ps)) }, a.R, []) else none
        | none => none
      | none => none
    | none => inner f args s
  else inner f args s
structure KnownP (P : Program) (ρ : Env) (g : Nat) (ps : List AB) {N R : Type} (F : AW → AF N R) (rw' : R → CV) (hw : R → List (Nat × Blk)) (nw : Nat) : Prop where
  fn : ∃ fn, P.funcs[g]? = some fn ∧ fn.body.isSome = true
  le : AB.nqs ps ≤ nw
  full : ∀ r, (hw r).map Prod.fst = List.range' (AB.nqs ps) (nw - (AB.nqs ps))
  hg : ∀ r, ∀ x ∈ hw r, x.2.body.Rg (AB.nqs ps) nw ∧ x.2.ext = none
  ctr : ∀ v n r, (F v).run n = some r → Ctr P ρ g (AB.puts v ps 0 0 0 0) (mkH (AB.hp v ps)) (AB.nqs ps) [] (rw' r) (putH (mkH (AB.hp v ps)) (hw r)) nw
theorem memoP_ok {P : Program} {ρ : Env} {N R : Type} [Inhabited R] {g : Nat} {ps : List AB} {F : AW → AF N R} {rw' : R → CV} {hw : R → List (Nat × Blk)} {nw : Nat} {inner : Memo} (K : KnownP P ρ g ps F rw' hw nw) (hi : MemoOk P (ctxOf P inner) ρ) : MemoOk P (ctxOf P (memoP g ps F rw' hw nw inner)) ρ := by
  have lift : ∀ {f args s c s' R' W}, CallOk P (ctxOf P inner) ρ f args s c s' R' W → CallOk P (ctxOf P (memoP g ps F rw' hw nw inner)) ρ f args s c s' R' W := fun h => ⟨h.fn, h.frm, h.lt, h.run⟩
  intro f args s c s' R' W h0
  have h : memoP g ps F rw' hw nw inner f args s = some (c, s', R', W) := h0
  clear h0
  unfold memoP at h
  cases hf : Nat.beq f g with
  | false => rw [hf, cond_false] at h; exact lift (hi _ _ _ _ _ _ _ h)
  | true =>
    rw [hf, cond_true] at h
    obtain rfl := Nat.eq_of_beq_eq_true hf
    split at h
    · rename_i a ha
      split at h
      · rename_i s1 hm
        split at h
        rotate_left
        · cases h
        rename_i c0 hc0
        cases hall : (AB.tabss ps args 0).all (fun x => Nat.blt x.2.1 s.next) with
        | false => rw [hall] at h; cases h
        | true =>
        rw [hall, cond_true] at h
        cases h
        obtain ⟨m1, m2, ⟨lm, m3⟩, m4⟩ := musts_parts (ρ := ρ) hm
        have k := AB.gets_ok (ρ := ρ) ha
        have facts : (∀ p ∈ s1.pc, p.holds ρ) → ∀ b ∈ a.sh ++ [(F a.v).fin], b = true := m4
        have hR := k.le (fun b hb => by cases hb)
        have find : ∀ (r : R) (j : Nat), AB.nqs ps + j < nw → ∃ x, (hw r).find? (fun x => x.1 == AB.nqs ps + j) = some x := fun r j hj => by
          have hmem : AB.nqs ps + j ∈ (hw r).map Prod.fst := by rw [K.full]; rw [List.mem_range']; exact ⟨j, by omega, by omega⟩
          obtain ⟨x, hx, he⟩ := List.mem_map.1 hmem
          cases hf : (hw r).find? (fun x => x.1 == AB.nqs ps + j) with
          | some y => exact ⟨y, rfl⟩
          | none =>
            rw [List.find?_eq_none] at hf
            exact absurd (by simp [he]) (hf x hx)
        have rngw : ∀ (r : R), ∀ x ∈ hw r, AB.nqs ps ≤ x.1 ∧ x.1 < nw := fun r x hx => by
          have : x.1 ∈ (hw r).map Prod.fst := List.mem_map.2 ⟨x, hx, rfl⟩
          rw [K.full, List.mem_range'] at this
          obtain ⟨i, h1, h2⟩ := this
          omega
        refine Ctr.callQ (Q := fun σc σ => ∀ x ∈ AB.tabss ps args 0, x.1 < AB.nqs ps ∧ ∀ l', σc x.1 = some l' → ∃ l, σ x.2.1 = some l ∧ l'.blk = l.blk ∧ l'.base = l.base + x.2.2.1 * x.2.2.2) (base := AB.nqs ps) (n1 := nw) (args := AB.puts a.v ps 0 0 0 0) (h0 := mkH (AB.hp a.v ps)) (h1 := putH (mkH (AB.hp a.v ps)) (hw (F a.v).val)) (K := fun hp => ?_) K.fn K.le rfl ⟨lm, m3⟩ (fun b hb => ?_) (fun j hj kb hk => ?_) hR (fun σ cur w l hp hl hH hcur => ?_) (fun σ σ2 σc σ0 v hl e1 e2 hQ hv => VR.pas hl (fun x hx l' hl' => by
          obtain ⟨q1, q2⟩ := hQ x hx
          rw [e1 _ q1] at hl'
          obtain ⟨l, g1, g2, g3⟩ := q2 l' hl'
          exact ⟨l, (e2 _ (blt_lt (List.all_eq_true.1 hall x hx))).trans g1, g2, g3⟩) _ hv hc0)
        · have hfin : (F a.v).fin = true := facts hp _ (List.mem_append_right _ (List.mem_singleton_self _))
          obtain ⟨n, hn⟩ := AF.fin_run hfin
          exact K.ctr a.v n _ hn
        · show (putNew _ _ _ _).get b = _
          rw [get_putNew]
          split
          · rename_i x hx
            have h1 := List.find?_some hx
            have h2 := List.mem_of_find?_eq_some hx
            simp only [beq_iff_eq] at h1
            obtain ⟨q1, q2⟩ := rngw _ x h2
            refine absurd ?_ hb
            show s.next ≤ b ∧ b < s.next + (nw - AB.nqs ps)
            unfold liftName at h1
            omega
          · rfl
        · have hk : (putNew (AB.nqs ps) s.next s.heap (hw (F a.v).val)).get (s.next + j) = some kb := hk
          rw [get_putNew] at hk
          have e : ∀ x ∈ hw (F a.v).val, (liftName (AB.nqs ps) s.next x.1 == s.next + j) = (x.1 == AB.nqs ps + j) := fun x hx => by
            obtain ⟨q1, q2⟩ := rngw _ x hx
            unfold liftName
            rw [Bool.eq_iff_iff]
            simp only [beq_iff_eq]
            omega
          obtain ⟨x, hx⟩ := find (F a.v).val j hj
          have hx2 : (hw (F a.v).val).find? (fun x => liftName (AB.nqs ps) s.next x.1 == s.next + j) = some x := by
            rw [← hx]
            exact find_congr e
          rw [hx2] at hk
          cases hk
          have hmem := List.mem_of_find?_eq_some hx
          obtain ⟨g1, g2⟩ := K.hg _ x hmem
          refine ⟨x.2, ?_, rfl, rfl, rfl, fun h => ?_, fun σ σ2 us hl h => Blk.lift hl g1 h⟩
          · rw [get_putH, hx]
          · have : (x.2.ren (liftName (AB.nqs ps) s.next)).ro = x.2.ro := by
              generalize x.2 = kk
              obtain ⟨bb, e, v, xx⟩ := kk
              cases bb <;> rfl
            rw [← this]; exact h
        · have fa := facts hp
          obtain ⟨los, q1, qp, q2⟩ := k.ok σ cur w l hl (fun b hb => fa b (List.mem_append_left _ hb)) hH hcur
          obtain ⟨r1, r2⟩ := q2 a.v (fun b => if b < AB.nqs ps then (los[b]?).getD none else none) a.v.pre_refl (fun j lo hj => by
            have : j < los.length := (List.getElem?_eq_some_iff.1 hj).1
            show (if 0 + j < _ then (los[0 + j]?).getD none else none) = lo
            rw [Nat.zero_add, if_pos (by omega), hj]; rfl)
          refine ⟨_, r1, HR.ofR (HR.laid (by assumption)) (fun i kb hi hk => ?_), fun b hb => if_neg (by omega), fun x hx => ?_⟩
          rotate_left
          · obtain ⟨u1, u2, u3⟩ := qp x hx
            have u2 : x.1 < 0 + AB.nqs ps := u2
            refine ⟨by omega, fun l' hl' => u3 l' ?_⟩
            have hl' : (if x.1 < AB.nqs ps then (los[x.1]?).getD none else none) = some l' := hl'
            rw [if_pos (by omega)] at hl'
            show los[x.1 - 0]? = some (some l')
            rw [Nat.sub_zero]
            cases hx1 : los[x.1]? with
            | none => rw [hx1] at hl'; cases hl'
            | some o => rw [hx1] at hl'; cases o with
              | none => cases hl'
              | some l2 => cases hl'; rfl
          obtain ⟨j, rfl, h2⟩ := numB_get i _ _ _ hk
          exact r2 j kb h2
      · cases h
    · exact lift (hi _ _ _ _ _ _ _ h)
end Go.Proofs.Ythagjhadjpangaa.Cx

/- acme/die.shopOf as an automaton. Made by tools/cxauto.py. -/
namespace Go.Proofs.Ythagjhadjpangaa.Cx
set_option linter.unusedVariables false
set_option linter.unusedSimpArgs false
set_option maxRecDepth 100000
open Go Go.Proofs Go.RowKit
noncomputable abbrev dshCode : Code := funcCode Try.f63
inductive dshN where
  | n0 (p0 p1 : Int)
inductive dshR where
  | r0 (p0 : Int)
  | r1 (p0 : Bool) (p1 p2 p3 p4 : Int) (p5 p6 : Nat) (p7 : Int)
noncomputable def dshD0 (a0 : Bool) (a1 a2 a3 a4 : Int) (a5 : Nat) (a6 a7 : Nat → Int) (a8 : Nat) (a9 a10 a11 a12 : Nat → Int) : DD (Lf dshN dshR) :=
 let z0 := fun i => [CV.int IntKind.i64 (IE.x (a6 (0 + i))), CV.int IntKind.i64 (IE.x (a7 (0 + i)))]
 let z1 := fun i => [CV.int IntKind.i64 (IE.x (a9 (0 + i))), CV.int IntKind.i64 (IE.x (a10 (0 + i))), CV.int IntKind.i64 (IE.x (a11 (0 + i))), CV.int IntKind.i64 (IE.x (a12 (0 + i)))]
 let z2 := dckA a0 a1 a2 a3 a4 a5 (fun i => a6 (0 + i)) (fun i => a7 (0 + i)) a8 (fun i => a9 (0 + i)) (fun i => a10 (0 + i)) (fun i => a11 (0 + i)) (fun i => a12 (0 + i))
 let z3 := AF.val z2
 .must (decide (0 + a5 ≤ a5))
   (.must (ShapeOk [some IntKind.i64, some IntKind.i64] (tabOf a5 z0) z0)
   (.must (decide (0 + a8 ≤ a8))
   (.must (ShapeOk [some IntKind.i64, some IntKind.i64, some IntKind.i64, some IntKind.i64] (tabOf a8 z1) z1)
   (.must (AF.fin z2)
   (.ask (Cm.run .neq z3 0)
   (.leaf (.done (.r0 z3) []))
   (.leaf (.next (.n0 0 0) [3, 4])))))))

noncomputable def dshD (a0 : Bool) (a1 a2 a3 a4 : Int) (a5 : Nat) (a6 a7 : Nat → Int) (a8 : Nat) (a9 a10 a11 a12 : Nat → Int) : dshN → DD (Lf dshN dshR)
 | .n0 p0 p1 =>
 .ask (Cm.run .lss p0 (↑a8 : Int))
   (.must (decide (0 ≤ p0))
   (.must (decide (p0 < (↑a8 : Int)))
   (.must (decide (0 + Int.toNat p0 < a8))
   (.leaf (.next (.n0 (Ar.run .add .i64 p0 1) (Ar.run .add .i64 p1 (a9 (0 + Int.toNat p0)))) [2, 3])))))
   (.leaf (.done (.r1 a0 a1 a2 a3 a4 a5 a8 p1) []))

noncomputable def dshA (a0 : Bool) (a1 a2 a3 a4 : Int) (a5 : Nat) (a6 a7 : Nat → Int) (a8 : Nat) (a9 a10 a11 a12 : Nat → Int) : AF dshN dshR where
  code := dshCode
  base := 2
  nt := 34
  m := 400
  un := []
  W := []
  h0 := [(0, ⟨.arg a5 2 (fun i => [.int .i64 (.x (a6 i)), .int .i64 (.x (a7 i))]) (fun _ => ⟨rfl, rfl⟩), 2, true, none⟩), (1, ⟨.arg a8 4 (fun i => [.int .i64 (.x (a9 i)), .int .i64 (.x (a10 i)), .int .i64 (.x (a11 i)), .int .i64 (.x (a12 i))]) (fun _ => ⟨rfl, rfl⟩), 4, true, none⟩)]
  args := [.agg [.bool (.x a0), .int .i64 (.x a1), .int .i64 (.x a2), .int .i64 (.x a3), .int .i64 (.x a4), .sla 0 2 0 a5], .sla 1 4 0 a8]
  res := (Try.f63).results.toList
  path := fun a => match a with
   | .n0 p0 p1 => [1, 1, 1, 0, 1, 0]
  pd := fun a => match a with
   | .n0 p0 p1 => ⟨[(4, .ptr (some (2, 0))), (7, .ptr (some (3, 0))), (20, .sla 1 4 0 a8), (21, .int .i64 (.x (↑a8))), (22, .int .i64 (.x p0))], [(2, ⟨.lit [.bool (.x false), .int .i64 (.x 0), .int .i64 (.x 0), .int .i64 (.x 0), .int .i64 (.x 0), .slc none 0 0, .slc none 0 0, .int .i64 (.x 0)], 0, true, none⟩), (3, ⟨.lit [.bool (.x a0), .int .i64 (.x a1), .int .i64 (.x a2), .int .i64 (.x a3), .int .i64 (.x a4), .sla 0 2 0 a5, .sla 1 4 0 a8, .int .i64 (.x p1)], 0, true, none⟩)], 4, []⟩
  D0 := dshD0 a0 a1 a2 a3 a4 a5 a6 a7 a8 a9 a10 a11 a12
  D := dshD a0 a1 a2 a3 a4 a5 a6 a7 a8 a9 a10 a11 a12
  rc := (fun v => match v with
 | .r0 p0 => .tup [.agg [.bool (.x false), .int .i64 (.x 0), .int .i64 (.x 0), .int .i64 (.x 0), .int .i64 (.x 0), .slc none 0 0, .slc none 0 0, .int .i64 (.x 0)], .int .i64 (.x p0)]
 | .r1 p0 p1 p2 p3 p4 p5 p6 p7 => .tup [.agg [.bool (.x p0), .int .i64 (.x p1), .int .i64 (.x p2), .int .i64 (.x p3), .int .i64 (.x p4), .sla 0 2 0 p5, .sla 1 4 0 p6, .int .i64 (.x p7)], .int .i64 (.x 0)])
  rh := (fun v => match v with
 | .r0 p0 => []
 | .r1 p0 p1 p2 p3 p4 p5 p6 p7 => [])
  rn := (fun v => match v with
 | .r0 p0 => 2
 | .r1 p0 p1 p2 p3 p4 p5 p6 p7 => 2)
  rx := (fun v => match v with
 | .r0 p0 => []
 | .r1 p0 p1 p2 p3 p4 p5 p6 p7 => [])
  rgo := (fun _ => none)
theorem dshstart (a0 : Bool) (a1 a2 a3 a4 : Int) (a5 : Nat) (a6 a7 : Nat → Int) (a8 : Nat) (a9 a10 a11 a12 : Nat → Int) : AF.edgeOk (dshA a0 a1 a2 a3 a4 a5 a6 a7 a8 a9 a10 a11 a12) (ctxOf Try.prog memo0) (dshD0 a0 a1 a2 a3 a4 a5 a6 a7 a8 a9 a10 a11 a12) (AF.run0 (dshA a0 a1 a2 a3 a4 a5 a6 a7 a8 a9 a10 a11 a12) (ctxOf Try.prog (memoS 17 dckP dckF dckW dckH 2 memo0))) := by unfold AF.edgeOk; kernel_rfl
theorem dshnode0 (a0 : Bool) (a1 a2 a3 a4 : Int) (a5 : Nat) (a6 a7 : Nat → Int) (a8 : Nat) (a9 a10 a11 a12 : Nat → Int) (p0 p1 : Int) : AF.edgeOk (dshA a0 a1 a2 a3 a4 a5 a6 a7 a8 a9 a10 a11 a12) (ctxOf Try.prog memo0) (dshD a0 a1 a2 a3 a4 a5 a6 a7 a8 a9 a10 a11 a12 (.n0 p0 p1)) (AF.runN (dshA a0 a1 a2 a3 a4 a5 a6 a7 a8 a9 a10 a11 a12) (ctxOf Try.prog (memoS 17 dckP dckF dckW dckH 2 memo0)) (.n0 p0 p1)) := by unfold AF.edgeOk; kernel_rfl
theorem dshok (a0 : Bool) (a1 a2 a3 a4 : Int) (a5 : Nat) (a6 a7 : Nat → Int) (a8 : Nat) (a9 a10 a11 a12 : Nat → Int) : (dshA a0 a1 a2 a3 a4 a5 a6 a7 a8 a9 a10 a11 a12).Ok Try.prog (ctxOf Try.prog (memoS 17 dckP dckF dckW dckH 2 memo0)) where
  regs := by kernel_rfl
  h0 := by kernel_rfl
  start := dshstart a0 a1 a2 a3 a4 a5 a6 a7 a8 a9 a10 a11 a12
  node := fun a _ => match a with
   | .n0 p0 p1 => dshnode0 a0 a1 a2 a3 a4 a5 a6 a7 a8 a9 a10 a11 a12 p0 p1
  pd := fun a => match a with
   | .n0 p0 p1 => ⟨(fa_cons rfl (fa_cons rfl (fa_cons rfl (fa_cons rfl (fa_cons rfl fa_nil))))), (fa_cons ⟨.inl (Nat.le_of_ble_eq_true rfl), rfl, rfl⟩ (fa_cons ⟨.inl (Nat.le_of_ble_eq_true rfl), rfl, rfl⟩ fa_nil)), fa_nil, rfl⟩
  le := fun a => match a with
   | .n0 p0 p1 => Nat.le_of_ble_eq_true rfl
  rd := fun v => match v with
   | .r0 p0 => ⟨⟨fa_nil, fa_nil, fa_nil, rfl⟩, rfl⟩
   | .r1 p0 p1 p2 p3 p4 p5 p6 p7 => ⟨⟨fa_nil, fa_nil, fa_nil, rfl⟩, rfl⟩
  wb := rfl
theorem dshhR {ρ : Env} (a0 : Bool) (a1 a2 a3 a4 : Int) (a5 : Nat) (a6 a7 : Nat → Int) (a8 : Nat) (a9 a10 a11 a12 : Nat → Int) (hM : MemoOk Try.prog (ctxOf Try.prog (memoS 17 dckP dckF dckW dckH 2 memo0)) ρ) : ∀ X a q n D, FxOk ρ X → X.base = (dshA a0 a1 a2 a3 a4 a5 a6 a7 a8 a9 a10 a11 a12).base → X.nt = (dshA a0 a1 a2 a3 a4 a5 a6 a7 a8 a9 a10 a11 a12).nt → X.W = (dshA a0 a1 a2 a3 a4 a5 a6 a7 a8 a9 a10 a11 a12).W → (dshA a0 a1 a2 a3 a4 a5 a6 a7 a8 a9 a10 a11 a12).rgo a = some q → q n = some D → (dshA a0 a1 a2 a3 a4 a5 a6 a7 a8 a9 a10 a11 a12).RangeOk Try.prog ρ X a D := AF.noRange rfl
theorem dshctr {ρ : Env} (a0 : Bool) (a1 a2 a3 a4 : Int) (a5 : Nat) (a6 a7 : Nat → Int) (a8 : Nat) (a9 a10 a11 a12 : Nat → Int) {n : Nat} {v : dshR} (hM : MemoOk Try.prog (ctxOf Try.prog (memoS 17 dckP dckF dckW dckH 2 memo0)) ρ) (hv : (dshA a0 a1 a2 a3 a4 a5 a6 a7 a8 a9 a10 a11 a12).run n = some v) :
    Ctr Try.prog ρ 63 (dshA a0 a1 a2 a3 a4 a5 a6 a7 a8 a9 a10 a11 a12).args (dshA a0 a1 a2 a3 a4 a5 a6 a7 a8 a9 a10 a11 a12).H0 (dshA a0 a1 a2 a3 a4 a5 a6 a7 a8 a9 a10 a11 a12).base (dshA a0 a1 a2 a3 a4 a5 a6 a7 a8 a9 a10 a11 a12).W ((dshA a0 a1 a2 a3 a4 a5 a6 a7 a8 a9 a10 a11 a12).rc v) (putH (dshA a0 a1 a2 a3 a4 a5 a6 a7 a8 a9 a10 a11 a12).H0 ((dshA a0 a1 a2 a3 a4 a5 a6 a7 a8 a9 a10 a11 a12).rh v ++ (dshA a0 a1 a2 a3 a4 a5 a6 a7 a8 a9 a10 a11 a12).rx v)) ((dshA a0 a1 a2 a3 a4 a5 a6 a7 a8 a9 a10 a11 a12).rn v) :=
  AF.ctr try_ok hM (dshok a0 a1 a2 a3 a4 a5 a6 a7 a8 a9 a10 a11 a12) (fn := Try.f63) Try.func63 rfl rfl (Nat.le_of_ble_eq_true rfl) rfl (dshhR a0 a1 a2 a3 a4 a5 a6 a7 a8 a9 a10 a11 a12 hM) hv
theorem dshmem {ρ : Env} : MemoOk Try.prog (ctxOf Try.prog (memoS 17 dckP dckF dckW dckH 2 memo0)) ρ := (memoS_ok (dckknown dckmem) memo0_ok)
abbrev dshP : List AB := [.agg [.bool, .int .i64, .int .i64, .int .i64, .int .i64, .rows [some .i64, some .i64]], .rows [some .i64, some .i64, some .i64, some .i64]]
noncomputable def dshF (v : AW) : AF dshN dshR := dshA (v.b.getD 0 false) (v.i.getD 0 0) (v.i.getD 1 0) (v.i.getD 2 0) (v.i.getD 3 0) (v.t.getD 0 .none).n ((v.t.getD 0 .none).c 0) ((v.t.getD 0 .none).c 1) (v.t.getD 1 .none).n ((v.t.getD 1 .none).c 0) ((v.t.getD 1 .none).c 1) ((v.t.getD 1 .none).c 2) ((v.t.getD 1 .none).c 3)
def dshw0 : dshR → Bool
  | .r0 p0 => false
  | .r1 p0 p1 p2 p3 p4 p5 p6 p7 => p0
def dshw1 : dshR → Int
  | .r0 p0 => 0
  | .r1 p0 p1 p2 p3 p4 p5 p6 p7 => p1
def dshw2 : dshR → Int
  | .r0 p0 => 0
  | .r1 p0 p1 p2 p3 p4 p5 p6 p7 => p2
def dshw3 : dshR → Int
  | .r0 p0 => 0
  | .r1 p0 p1 p2 p3 p4 p5 p6 p7 => p3
def dshw4 : dshR → Int
  | .r0 p0 => 0
  | .r1 p0 p1 p2 p3 p4 p5 p6 p7 => p4
def dshw5 : dshR → Nat
  | .r0 p0 => 0
  | .r1 p0 p1 p2 p3 p4 p5 p6 p7 => p5
def dshw6 : dshR → Nat
  | .r0 p0 => 0
  | .r1 p0 p1 p2 p3 p4 p5 p6 p7 => p6
def dshw7 : dshR → Int
  | .r0 p0 => 0
  | .r1 p0 p1 p2 p3 p4 p5 p6 p7 => p7
def dshw8 : dshR → Int
  | .r0 p0 => p0
  | .r1 p0 p1 p2 p3 p4 p5 p6 p7 => 0
noncomputable def dshW : dshR → CV := fun v => .tup [.agg [.bool (.x ((dshw0 v))), .int .i64 (.x ((dshw1 v))), .int .i64 (.x ((dshw2 v))), .int .i64 (.x ((dshw3 v))), .int .i64 (.x ((dshw4 v))), .sla 0 2 0 ((dshw5 v)), .sla 1 4 0 ((dshw6 v)), .int .i64 (.x ((dshw7 v)))], .int .i64 (.x ((dshw8 v)))]
noncomputable def dshH : dshR → List (Nat × Blk) := fun v => []
instance : Inhabited dshR := ⟨.r0 0⟩
theorem dshknown {ρ : Env} (hM : MemoOk Try.prog (ctxOf Try.prog (memoS 17 dckP dckF dckW dckH 2 memo0)) ρ) : KnownP Try.prog ρ 63 dshP dshF dshW dshH 2 where
  fn := ⟨Try.f63, Try.func63, rfl⟩
  le := Nat.le_of_ble_eq_true rfl
  full := fun r => rfl
  hg := fun r => fa_nil
  ctr := fun v n r h => match r, h with
    | .r0 p0, h => Ctr.weaken (dshctr (v.b.getD 0 false) (v.i.getD 0 0) (v.i.getD 1 0) (v.i.getD 2 0) (v.i.getD 3 0) (v.t.getD 0 .none).n ((v.t.getD 0 .none).c 0) ((v.t.getD 0 .none).c 1) (v.t.getD 1 .none).n ((v.t.getD 1 .none).c 0) ((v.t.getD 1 .none).c 1) ((v.t.getD 1 .none).c 2) ((v.t.getD 1 .none).c 3) hM h) (Nat.le_of_ble_eq_true rfl) (Nat.le_of_ble_eq_true rfl) (fun σ => (fun _ h => VR.tup_imp (VRl.cons_imp (fun _ h => VR.agg_imp (VRl.cons_imp (fun _ h => h) (VRl.cons_imp (fun _ h => h) (VRl.cons_imp (fun _ h => h) (VRl.cons_imp (fun _ h => h) (VRl.cons_imp (fun _ h => h) (VRl.cons_imp (fun _ h => h.nil_sla) (VRl.cons_imp (fun _ h => h.nil_sla) (VRl.cons_imp (fun _ h => h) VRl.nil_imp)))))))) h) (VRl.cons_imp (fun _ h => h) VRl.nil_imp)) h)) (fun b h1 h2 => rfl)
    | .r1 p0 p1 p2 p3 p4 p5 p6 p7, h => Ctr.weaken (dshctr (v.b.getD 0 false) (v.i.getD 0 0) (v.i.getD 1 0) (v.i.getD 2 0) (v.i.getD 3 0) (v.t.getD 0 .none).n ((v.t.getD 0 .none).c 0) ((v.t.getD 0 .none).c 1) (v.t.getD 1 .none).n ((v.t.getD 1 .none).c 0) ((v.t.getD 1 .none).c 1) ((v.t.getD 1 .none).c 2) ((v.t.getD 1 .none).c 3) hM h) (Nat.le_of_ble_eq_true rfl) (Nat.le_of_ble_eq_true rfl) (fun σ => (fun _ h => VR.tup_imp (VRl.cons_imp (fun _ h => VR.agg_imp (VRl.cons_imp (fun _ h => h) (VRl.cons_imp (fun _ h => h) (VRl.cons_imp (fun _ h => h) (VRl.cons_imp (fun _ h => h) (VRl.cons_imp (fun _ h => h) (VRl.cons_imp (fun _ h => h) (VRl.cons_imp (fun _ h => h) (VRl.cons_imp (fun _ h => h) VRl.nil_imp)))))))) h) (VRl.cons_imp (fun _ h => h) VRl.nil_imp)) h)) (fun b h1 h2 => rfl)
end Go.Proofs.Ythagjhadjpangaa.Cx

/- acme/acmeref07.All as an automaton. Made by tools/cxauto.py. -/
namespace Go.Proofs.Ythagjhadjpangaa.Cx
set_option linter.unusedVariables false
set_option linter.unusedSimpArgs false
set_option maxRecDepth 100000
open Go Go.Proofs Go.RowKit
noncomputable abbrev rdaCode : Code := funcCode Try.f22
inductive rdaN where
  | n0 (p0 p1 : Int)
abbrev rdaR := Int
noncomputable def rdaD0 (a0 : Nat) (a1 a2 a3 a4 : Nat → Int) : DD (Lf rdaN rdaR) :=
 .leaf (.next (.n0 0 0) [])

noncomputable def rdaD (a0 : Nat) (a1 a2 a3 a4 : Nat → Int) : rdaN → DD (Lf rdaN rdaR)
 | .n0 p0 p1 =>
 .ask (Cm.run .lss p1 (↑a0 : Int))
   (.must (decide (0 ≤ p1))
   (.must (decide (p1 < (↑a0 : Int)))
   (.must (decide (0 + Int.toNat p1 < a0))
   (.leaf (.next (.n0 (Ar.run .add .i64 p0 (a1 (0 + Int.toNat p1))) (Ar.run .add .i64 p1 1)) [])))))
   (.leaf (.done p0 []))

noncomputable def rdaA (a0 : Nat) (a1 a2 a3 a4 : Nat → Int) : AF rdaN rdaR where
  code := rdaCode
  base := 1
  nt := 19
  m := 400
  un := []
  W := []
  h0 := [(0, ⟨.arg a0 4 (fun i => [.int .i64 (.x (a1 i)), .int .i64 (.x (a2 i)), .int .i64 (.x (a3 i)), .int .i64 (.x (a4 i))]) (fun _ => ⟨rfl, rfl⟩), 4, true, none⟩)]
  args := [.sla 0 4 0 a0]
  res := (Try.f22).results.toList
  path := fun a => match a with
   | .n0 p0 p1 => [1, 1, 0, 1, 0]
  pd := fun a => match a with
   | .n0 p0 p1 => ⟨[(0, .sla 0 4 0 a0), (3, .int .i64 (.x p0)), (4, .int .i64 (.x p1))], [], 1, []⟩
  D0 := rdaD0 a0 a1 a2 a3 a4
  D := rdaD a0 a1 a2 a3 a4
  rc := (fun v => .int .i64 (.x v))
  rh := (fun v => [])
  rn := (fun v => 1)
  rx := (fun v => [])
  rgo := (fun _ => none)
instance : Inhabited rdaR := ⟨0⟩
end Go.Proofs.Ythagjhadjpangaa.Cx

/- acme/acmeref07.Order as an automaton. Made by tools/cxauto.py. -/
namespace Go.Proofs.Ythagjhadjpangaa.Cx
set_option linter.unusedVariables false
set_option linter.unusedSimpArgs false
set_option maxRecDepth 100000
open Go Go.Proofs Go.RowKit
noncomputable abbrev rdoCode : Code := funcCode Try.f69
inductive rdoN where
  | n0 (p0 p1 : Int)
abbrev rdoR := Int × Int × Int × Int
noncomputable def rdoD0 (a0 : Nat) (a1 a2 a3 a4 : Nat → Int) (a5 : Int) : DD (Lf rdoN rdoR) :=
 .leaf (.next (.n0 a5 0) [1])

noncomputable def rdoD (a0 : Nat) (a1 a2 a3 a4 : Nat → Int) (a5 : Int) : rdoN → DD (Lf rdoN rdoR)
 | .n0 p0 p1 =>
 let z0 := decide (0 ≤ p1)
 let z1 := decide (0 + Int.toNat p1 < a0)
 let z2 := a1 (0 + Int.toNat p1)
 .must z0
   (.must (decide (p1 < (↑a0 : Int)))
   (.must z1
   (.ask (Cm.run .geq p0 z2)
   (.must z0
   (.must (decide (p1 < (↑a0 : Int)))
   (.must z1
   (.leaf (.next (.n0 (Ar.run .sub .i64 p0 z2) (Ar.run .add .i64 p1 1)) [1])))))
   (.must z0
   (.must (decide (p1 < (↑a0 : Int)))
   (.must z1
   (.leaf (.done (a1 (0 + Int.toNat p1), a2 (0 + Int.toNat p1), a3 (0 + Int.toNat p1), a4 (0 + Int.toNat p1)) []))))))))

noncomputable def rdoA (a0 : Nat) (a1 a2 a3 a4 : Nat → Int) (a5 : Int) : AF rdoN rdoR where
  code := rdoCode
  base := 1
  nt := 26
  m := 400
  un := []
  W := []
  h0 := [(0, ⟨.arg a0 4 (fun i => [.int .i64 (.x (a1 i)), .int .i64 (.x (a2 i)), .int .i64 (.x (a3 i)), .int .i64 (.x (a4 i))]) (fun _ => ⟨rfl, rfl⟩), 4, true, none⟩)]
  args := [.sla 0 4 0 a0, .int .i64 (.x a5)]
  res := (Try.f69).results.toList
  path := fun a => match a with
   | .n0 p0 p1 => [1, 1, 0, 0]
  pd := fun a => match a with
   | .n0 p0 p1 => ⟨[(0, .sla 0 4 0 a0), (1, .int .i64 (.x p0)), (4, .ptr (some (1, 0))), (5, .int .i64 (.x p1))], [(1, ⟨.lit [.int .i64 (.x 0), .int .i64 (.x 0), .int .i64 (.x 0), .int .i64 (.x 0)], 0, true, none⟩)], 2, []⟩
  D0 := rdoD0 a0 a1 a2 a3 a4 a5
  D := rdoD a0 a1 a2 a3 a4 a5
  rc := (fun v => .agg [.int .i64 (.x v.1), .int .i64 (.x v.2.1), .int .i64 (.x v.2.2.1), .int .i64 (.x v.2.2.2)])
  rh := (fun v => [])
  rn := (fun v => 1)
  rx := (fun v => [])
  rgo := (fun _ => none)
noncomputable def rdoF (v : AW) : AF rdoN rdoR := rdoA (v.t.getD 0 .none).n ((v.t.getD 0 .none).c 0) ((v.t.getD 0 .none).c 1) ((v.t.getD 0 .none).c 2) ((v.t.getD 0 .none).c 3) (v.i.getD 0 0)
instance : Inhabited rdoR := ⟨(0, 0, 0, 0)⟩
end Go.Proofs.Ythagjhadjpangaa.Cx

/- Package die: sums of pieces, the order of a piece; shopOf. -/
namespace Go.Proofs.Ythagjhadjpangaa.Cx
set_option linter.unusedVariables false
set_option linter.unusedSimpArgs false
set_option maxRecDepth 100000
set_option maxHeartbeats 4000000
open Go Go.RowKit
/-- How many pieces the first k orders have. -/
def PS (pc : Nat → Int) : Nat → Int
  | 0 => 0
  | k + 1 => PS pc k + pc k
theorem PS_rng {pc : Nat → Int} {m : Nat} (h : ∀ i : Nat, i < m → 1 ≤ pc i ∧ pc i ≤ 10000) : ∀ k, k ≤ m → (k : Int) ≤ PS pc k ∧ PS pc k ≤ k * 10000
  | 0, _ => by simp [PS]
  | k + 1, hk => by
    have := PS_rng h k (by omega)
    have := h k (by omega)
    rw [PS]
    omega
theorem PS_mono {pc : Nat → Int} {m : Nat} (h : ∀ i : Nat, i < m → 1 ≤ pc i ∧ pc i ≤ 10000) {j : Nat} : ∀ k, j ≤ k → k ≤ m → PS pc j ≤ PS pc k
  | 0, h1, _ => by obtain rfl : j = 0 := by omega
                   exact Int.le_refl _
  | k + 1, h1, h2 => by
    by_cases he : j = k + 1
    · rw [he]; exact Int.le_refl _
    · have := PS_mono h (j := j) k (by omega) (by omega)
      have := h k (by omega)
      rw [PS]
      omega
section
variable {a0 : Nat} {a1 a2 a3 a4 : Nat → Int} {a5 : Int}
theorem rda_val (hm : a0 ≤ 40) (h : ∀ i : Nat, i < a0 → 1 ≤ a1 i ∧ a1 i ≤ 10000) : AF.fin (rdaA a0 a1 a2 a3 a4) = true ∧ AF.val (rdaA a0 a1 a2 a3 a4) = PS a1 a0 := by
  refine AF.val_sat (E := fun v => v = PS a1 a0) (Inv := fun b => match b with | .n0 p0 p1 => 0 ≤ p1 ∧ p1 ≤ a0 ∧ p0 = PS a1 p1.toNat) (fun b => match b with | .n0 p0 p1 => (a0 - p1).toNat) (fun _ => rfl) (fun a hI => ?_) ?_
  · cases a with
    | n0 p0 p1 =>
      obtain ⟨g0, g1, g2⟩ := hI
      show DD.sat _ _ (rdaD a0 a1 a2 a3 a4 (.n0 p0 p1))
      unfold rdaD
      have e1 : p1 < a0 → Ar.run .add .i64 p1 1 = p1 + 1 := fun h => arAdd (by omega)
      simp only [DD.sat, Nat.zero_add, cmLss, cmLssF, decide_eq_true_eq]
      refine ⟨fun hp => ⟨g0, hp, by omega, ?_⟩, fun hp => ?_⟩
      · have r1 := PS_rng h p1.toNat (by omega)
        have r2 := h p1.toNat (by omega)
        rw [e1 hp, arAdd (a := p0) (by omega)]
        refine ⟨⟨by omega, by omega, ?_⟩, by omega⟩
        rw [show (p1 + 1).toNat = p1.toNat + 1 by omega, PS, g2]
      · rw [g2, show p1.toNat = a0 by omega]
  · show 0 ≤ (0 : Int) ∧ (0 : Int) ≤ a0 ∧ (0 : Int) = PS a1 (0 : Int).toNat
    exact ⟨by omega, by omega, rfl⟩
theorem rdo_val (hm : a0 ≤ 40) (h : ∀ i : Nat, i < a0 → 1 ≤ a1 i ∧ a1 i ≤ 10000) (h0 : 0 ≤ a5) (h5 : a5 < PS a1 a0) : AF.fin (rdoA a0 a1 a2 a3 a4 a5) = true ∧ ∃ k : Nat, k < a0 ∧ PS a1 k ≤ a5 ∧ a5 < PS a1 (k + 1) ∧ AF.val (rdoA a0 a1 a2 a3 a4 a5) = (a1 k, a2 k, a3 k, a4 k) := by
  refine AF.val_sat (E := fun v => ∃ k : Nat, k < a0 ∧ PS a1 k ≤ a5 ∧ a5 < PS a1 (k + 1) ∧ v = (a1 k, a2 k, a3 k, a4 k)) (Inv := fun b => match b with | .n0 p0 p1 => 0 ≤ p1 ∧ p1 < a0 ∧ p0 = a5 - PS a1 p1.toNat ∧ 0 ≤ p0) (fun b => match b with | .n0 p0 p1 => (a0 - p1).toNat) (fun _ => rfl) (fun a hI => ?_) ?_
  · cases a with
    | n0 p0 p1 =>
      obtain ⟨g0, g1, g2, g3⟩ := hI
      show DD.sat _ _ (rdoD a0 a1 a2 a3 a4 a5 (.n0 p0 p1))
      unfold rdoD
      have e1 : Ar.run .add .i64 p1 1 = p1 + 1 := arAdd (by omega)
      have r0 := PS_rng h a0 (Nat.le_refl _)
      have r1 := PS_rng h p1.toNat (by omega)
      have r2 := h p1.toNat (by omega)
      have hs : PS a1 (p1.toNat + 1) = PS a1 p1.toNat + a1 p1.toNat := rfl
      simp only [DD.sat, Nat.zero_add, cmGeq, cmGeqF, decide_eq_true_eq]
      refine ⟨g0, g1, by omega, fun hp => ⟨g0, g1, by omega, ?_⟩, fun hp => ⟨g0, g1, by omega, p1.toNat, by omega, by omega, by omega, rfl⟩⟩
      rw [e1, arSub (a := p0) (by omega)]
      have ne : p1 + 1 < a0 := by
        by_cases he : p1.toNat + 1 = a0
        · rw [he] at hs; omega
        · omega
      refine ⟨⟨by omega, ne, ?_, by omega⟩, by omega⟩
      rw [show (p1 + 1).toNat = p1.toNat + 1 by omega, hs]
      omega
  · show 0 ≤ (0 : Int) ∧ (0 : Int) < a0 ∧ a5 = a5 - PS a1 (0 : Int).toNat ∧ 0 ≤ a5
    have e : PS a1 (0 : Int).toNat = 0 := rfl
    rw [e]
    refine ⟨by omega, ?_, by omega, h0⟩
    cases a0 with
    | zero => have : PS a1 0 = 0 := rfl
              omega
    | succ k => omega
end
section
variable {a0 : Bool} {a1 a2 a3 a4 : Int} {a5 : Nat} {a6 a7 : Nat → Int} {a8 : Nat} {a9 a10 a11 a12 : Nat → Int}
/-- What shopOf yields. -/
def ShopE (a0 : Bool) (a1 a2 a3 a4 : Int) (a5 : Nat) (a6 a7 : Nat → Int) (a8 : Nat) (a9 a10 a11 a12 : Nat → Int) (v : dshR) : Prop :=
  ∃ e, CkS a5 a8 (ToolOk a5 a6 a7 a1 a2 a3 a4) a9 a10 a11 a12 e ∧ (e ≠ 0 ∧ v = .r0 e ∨ e = 0 ∧ v = .r1 a0 a1 a2 a3 a4 a5 a8 (PS a9 a8))
theorem dsh_val (hn : a5 ≤ 10000) (hm : a8 ≤ 10000) : AF.fin (dshA a0 a1 a2 a3 a4 a5 a6 a7 a8 a9 a10 a11 a12) = true ∧ ShopE a0 a1 a2 a3 a4 a5 a6 a7 a8 a9 a10 a11 a12 (AF.val (dshA a0 a1 a2 a3 a4 a5 a6 a7 a8 a9 a10 a11 a12)) := by
  have hC := dck_val (a0 := a0) (a1 := a1) (a2 := a2) (a3 := a3) (a4 := a4) (a6 := a6) (a7 := a7) (a9 := a9) (a10 := a10) (a11 := a11) (a12 := a12) hn hm
  refine AF.val_sat (E := ShopE a0 a1 a2 a3 a4 a5 a6 a7 a8 a9 a10 a11 a12) (Inv := fun b => match b with | .n0 p0 p1 => CkS a5 a8 (ToolOk a5 a6 a7 a1 a2 a3 a4) a9 a10 a11 a12 0 ∧ 0 ≤ p0 ∧ p0 ≤ a8 ∧ p1 = PS a9 p0.toNat) (fun b => match b with | .n0 p0 p1 => (a8 - p0).toNat) (fun _ => rfl) (fun a hI => ?_) ?_
  · cases a with
    | n0 p0 p1 =>
      obtain ⟨hk, g0, g1, g2⟩ := hI
      obtain ⟨_, _, k1, k2, k3⟩ := hk.ok
      have h : ∀ i : Nat, i < a8 → 1 ≤ a9 i ∧ a9 i ≤ 10000 := fun i hi => ⟨(k3 i hi).1.1, (k3 i hi).1.2.1⟩
      show DD.sat _ _ (dshD a0 a1 a2 a3 a4 a5 a6 a7 a8 a9 a10 a11 a12 (.n0 p0 p1))
      unfold dshD
      have e1 : p0 < a8 → Ar.run .add .i64 p0 1 = p0 + 1 := fun h => arAdd (by omega)
      simp only [DD.sat, Nat.zero_add, cmLss, cmLssF, decide_eq_true_eq]
      refine ⟨fun hp => ⟨g0, hp, by omega, ?_⟩, fun hp => ⟨0, hk, .inr ⟨rfl, ?_⟩⟩⟩
      · have r1 := PS_rng h p0.toNat (by omega)
        have r2 := h p0.toNat (by omega)
        rw [e1 hp, arAdd (a := p1) (by omega)]
        refine ⟨⟨hk, by omega, by omega, ?_⟩, by omega⟩
        rw [show (p0 + 1).toNat = p0.toNat + 1 by omega, PS, g2]
      · rw [g2, show p0.toNat = a8 by omega]
  · show DD.sat _ _ (dshD0 a0 a1 a2 a3 a4 a5 a6 a7 a8 a9 a10 a11 a12)
    unfold dshD0
    simp only [DD.sat, Nat.zero_add, cmNeq, cmNeqF, decide_eq_true_eq]
    refine ⟨Nat.le_refl _, shape_ok fun i _ => rfl, Nat.le_refl _, shape_ok fun i _ => rfl, hC.1, fun he => ⟨_, hC.2, .inl ⟨he, rfl⟩⟩, fun he => ?_⟩
    have q := hC.2
    rw [show AF.val (dckA a0 a1 a2 a3 a4 a5 a6 a7 a8 a9 a10 a11 a12) = 0 from he] at q
    exact ⟨q, by omega, by omega, rfl⟩
end
end Go.Proofs.Ythagjhadjpangaa.Cx

/- Package die: pieces one after another, in plain Lean: the order of a piece, sums of wear, targets that narrow. -/
namespace Go.Proofs.Ythagjhadjpangaa.Cx
set_option linter.unusedVariables false
set_option linter.unusedSimpArgs false
open Go Go.RowKit
/-- The order of a piece, of the first orders. -/
def ordK (pc : Nat → Int) : Nat → Int → Nat
  | 0, _ => 0
  | k + 1, x => if PS pc k ≤ x then k else ordK pc k x
theorem ordK_spec {pc : Nat → Int} : ∀ (k : Nat) {x : Int}, 0 ≤ x → x < PS pc k → ordK pc k x < k ∧ PS pc (ordK pc k x) ≤ x ∧ x < PS pc (ordK pc k x + 1)
  | 0, x, h0, h1 => by simp only [PS] at h1; omega
  | k + 1, x, h0, h1 => by
    rw [ordK]
    split
    · rename_i h
      exact ⟨by omega, h, h1⟩
    · rename_i h
      obtain ⟨a, b, c⟩ := ordK_spec (pc := pc) k h0 (by omega)
      exact ⟨by omega, b, c⟩
theorem ordK_uniq {pc : Nat → Int} {m k : Nat} {x : Int} (h : ∀ i : Nat, i < m → 1 ≤ pc i ∧ pc i ≤ 10000) (hk : k < m) (h1 : PS pc k ≤ x) (h2 : x < PS pc (k + 1)) : ordK pc m x = k := by
  have r := PS_rng h k (by omega)
  have hm := PS_mono h (j := k + 1) m (by omega) (Nat.le_refl _)
  obtain ⟨a, b, c⟩ := ordK_spec (pc := pc) m (x := x) (by omega) (by omega)
  rcases Nat.lt_trichotomy (ordK pc m x) k with q | q | q
  · have := PS_mono h (j := ordK pc m x + 1) k (by omega) (by omega)
    omega
  · exact q
  · have := PS_mono h (j := k + 1) (ordK pc m x) (by omega) (by omega)
    omega
/-- What pieces from one on wear. -/
def WSum (g : Int → Int) (f : Int) : Nat → Int
  | 0 => 0
  | j + 1 => WSum g f j + g (f + j)
theorem WSum_const {g : Int → Int} {f c : Int} {j : Nat} : ∀ (n : Nat), (∀ i : Nat, i < n → g (f + (j + i : Nat)) = c) → WSum g f (j + n) = WSum g f j + n * c
  | 0, _ => by simp
  | n + 1, h => by
    rw [show j + (n + 1) = (j + n) + 1 by omega, WSum, WSum_const n (fun i hi => h i (by omega)), h n (by omega)]
    rw [show ((n + 1 : Nat) : Int) = (n : Int) + 1 by omega, Int.add_mul, Int.one_mul]
    omega
theorem WSum_rng {g : Int → Int} {f : Int} : ∀ (j : Nat), (∀ i : Nat, i < j → 0 ≤ g (f + i) ∧ g (f + i) ≤ 100000) → 0 ≤ WSum g f j ∧ WSum g f j ≤ j * 100000
  | 0, _ => by simp [WSum]
  | j + 1, h => by
    have := WSum_rng j (fun i hi => h i (by omega))
    have := h j (by omega)
    rw [WSum]
    omega
/-- The least target of all so far, the greatest one. -/
def LoM (t : Int) (tl : Nat → Int) : Nat → Int
  | 0 => t
  | j + 1 => max (LoM t tl j) (tl j)
def HiM (t : Int) (th : Nat → Int) : Nat → Int
  | 0 => t
  | j + 1 => min (HiM t th j) (th j)
theorem LoM_lin {t A B : Int} {tl : Nat → Int} {j : Nat} : ∀ (n : Nat), (∀ i : Nat, i < n + 1 → tl (j + i) = A + i * B) → LoM t tl (j + (n + 1)) = max (max (LoM t tl j) A) (A + n * B)
  | 0, h => by
    have h0 := h 0 (by omega)
    simp only [Nat.add_zero] at h0
    rw [show j + (0 + 1) = j + 1 by omega, LoM, h0]
    rw [show ((0 : Nat) : Int) = 0 from rfl, Int.zero_mul, Int.add_zero]
    omega
  | n + 1, h => by
    rw [show j + (n + 1 + 1) = (j + (n + 1)) + 1 by omega, LoM, LoM_lin n (fun i hi => h i (by omega)), h (n + 1) (by omega)]
    rw [show ((n + 1 : Nat) : Int) = (n : Int) + 1 by omega, Int.add_mul, Int.one_mul]
    rcases Int.le_total 0 B with hB | hB
    · have := Int.mul_nonneg (Int.natCast_nonneg n) hB
      omega
    · have := Int.mul_nonpos_of_nonneg_of_nonpos (Int.natCast_nonneg n) hB
      omega
theorem HiM_lin {t A B : Int} {th : Nat → Int} {j : Nat} : ∀ (n : Nat), (∀ i : Nat, i < n + 1 → th (j + i) = A + i * B) → HiM t th (j + (n + 1)) = min (min (HiM t th j) A) (A + n * B)
  | 0, h => by
    have h0 := h 0 (by omega)
    simp only [Nat.add_zero] at h0
    rw [show j + (0 + 1) = j + 1 by omega, HiM, h0]
    rw [show ((0 : Nat) : Int) = 0 from rfl, Int.zero_mul, Int.add_zero]
    omega
  | n + 1, h => by
    rw [show j + (n + 1 + 1) = (j + (n + 1)) + 1 by omega, HiM, HiM_lin n (fun i hi => h i (by omega)), h (n + 1) (by omega)]
    rw [show ((n + 1 : Nat) : Int) = (n : Int) + 1 by omega, Int.add_mul, Int.one_mul]
    rcases Int.le_total 0 B with hB | hB
    · have := Int.mul_nonneg (Int.natCast_nonneg n) hB
      omega
    · have := Int.mul_nonpos_of_nonneg_of_nonpos (Int.natCast_nonneg n) hB
      omega
theorem LoM_mono {t : Int} {tl : Nat → Int} {i : Nat} : ∀ (j : Nat), i ≤ j → LoM t tl i ≤ LoM t tl j
  | 0, h => by obtain rfl : i = 0 := by omega
               exact Int.le_refl _
  | j + 1, h => by
    by_cases he : i = j + 1
    · rw [he]; exact Int.le_refl _
    · have := LoM_mono (t := t) (tl := tl) j (i := i) (by omega)
      rw [LoM]; omega
theorem HiM_mono {t : Int} {th : Nat → Int} {i : Nat} : ∀ (j : Nat), i ≤ j → HiM t th j ≤ HiM t th i
  | 0, h => by obtain rfl : i = 0 := by omega
               exact Int.le_refl _
  | j + 1, h => by
    by_cases he : i = j + 1
    · rw [he]; exact Int.le_refl _
    · have := HiM_mono (t := t) (th := th) j (i := i) (by omega)
      rw [HiM]; omega
end Go.Proofs.Ythagjhadjpangaa.Cx

/- acme/acmeref07.Wear as an automaton. Made by tools/cxauto.py. -/
namespace Go.Proofs.Ythagjhadjpangaa.Cx
set_option linter.unusedVariables false
set_option linter.unusedSimpArgs false
set_option maxRecDepth 100000
open Go Go.Proofs Go.RowKit
abbrev rdwR := Int × Int
instance : Inhabited rdwR := ⟨(0, 0)⟩
end Go.Proofs.Ythagjhadjpangaa.Cx

/- acme/acmeref07.Off as an automaton. Made by tools/cxauto.py. -/
namespace Go.Proofs.Ythagjhadjpangaa.Cx
set_option linter.unusedVariables false
set_option linter.unusedSimpArgs false
set_option maxRecDepth 100000
open Go Go.Proofs Go.RowKit
noncomputable abbrev rofCode : Code := funcCode Try.f70
abbrev rofN := Empty
abbrev rofR := Int × Int
noncomputable def rofD0 (a0 : Bool) (a1 a2 a3 a4 : Int) (a5 : Nat) (a6 a7 : Nat → Int) (a8 a9 : Int) : DD (Lf rofN rofR) :=
 .ask (a0)
   (.leaf (.done (Ar.run .add .i64 (Ar.run .add .i64 a1 (Ar.run .sub .i64 0 a9)) a3, Ar.run .add .i64 (Ar.run .add .i64 a2 (Ar.run .sub .i64 0 a8)) a4) []))
   (.leaf (.done (Ar.run .add .i64 (Ar.run .add .i64 a1 a8) a3, Ar.run .add .i64 (Ar.run .add .i64 a2 a9) a4) []))

noncomputable def rofD (a0 : Bool) (a1 a2 a3 a4 : Int) (a5 : Nat) (a6 a7 : Nat → Int) (a8 a9 : Int) : rofN → DD (Lf rofN rofR) := fun a => nomatch a
noncomputable def rofA (a0 : Bool) (a1 a2 a3 a4 : Int) (a5 : Nat) (a6 a7 : Nat → Int) (a8 a9 : Int) : AF rofN rofR where
  code := rofCode
  base := 1
  nt := 35
  m := 400
  un := []
  W := []
  h0 := [(0, ⟨.arg a5 2 (fun i => [.int .i64 (.x (a6 i)), .int .i64 (.x (a7 i))]) (fun _ => ⟨rfl, rfl⟩), 2, true, none⟩)]
  args := [.agg [.bool (.x a0), .int .i64 (.x a1), .int .i64 (.x a2), .int .i64 (.x a3), .int .i64 (.x a4), .sla 0 2 0 a5], .agg [.int .i64 (.x a8), .int .i64 (.x a9)]]
  res := (Try.f70).results.toList
  path := fun a => nomatch a
  pd := fun a => nomatch a
  D0 := rofD0 a0 a1 a2 a3 a4 a5 a6 a7 a8 a9
  D := rofD a0 a1 a2 a3 a4 a5 a6 a7 a8 a9
  rc := (fun v => .agg [.int .i64 (.x v.1), .int .i64 (.x v.2)])
  rh := (fun v => [])
  rn := (fun v => 1)
  rx := (fun v => [])
  rgo := (fun _ => none)
instance : Inhabited rofR := ⟨(0, 0)⟩
end Go.Proofs.Ythagjhadjpangaa.Cx

/- acme/acmeref07.Targets as an automaton. Made by tools/cxauto.py. -/
namespace Go.Proofs.Ythagjhadjpangaa.Cx
set_option linter.unusedVariables false
set_option linter.unusedSimpArgs false
set_option maxRecDepth 100000
open Go Go.Proofs Go.RowKit
noncomputable abbrev rdtCode : Code := funcCode Try.f24
inductive rdtN where
  | n0
  | n1 (p0 p1 p2 p3 p4 : Int)
abbrev rdtR := Int × Int
noncomputable def rdtD0 (a0 : Bool) (a1 a2 a3 a4 : Int) (a5 : Nat) (a6 a7 : Nat → Int) (a8 : Nat) (a9 a10 a11 a12 : Nat → Int) (a13 a14 : Int) : DD (Lf rdtN rdtR) :=
 .leaf (.next (.n0) [2, 3, 4, 5])

noncomputable def rdtD (a0 : Bool) (a1 a2 a3 a4 : Int) (a5 : Nat) (a6 a7 : Nat → Int) (a8 : Nat) (a9 a10 a11 a12 : Nat → Int) (a13 a14 : Int) : rdtN → DD (Lf rdtN rdtR)
 | .n0 =>
 let z0 := fun i => [CV.int IntKind.i64 (IE.x (a9 (0 + i))), CV.int IntKind.i64 (IE.x (a10 (0 + i))), CV.int IntKind.i64 (IE.x (a11 (0 + i))), CV.int IntKind.i64 (IE.x (a12 (0 + i)))]
 let z1 := rdoA a8 (fun i => a9 (0 + i)) (fun i => a10 (0 + i)) (fun i => a11 (0 + i)) (fun i => a12 (0 + i)) a13
 let z2 := fun i => [CV.int IntKind.i64 (IE.x (a6 (0 + i))), CV.int IntKind.i64 (IE.x (a7 (0 + i)))]
 let z3 := rofA a0 a1 a2 a3 a4 a5 (fun i => a6 (0 + i)) (fun i => a7 (0 + i)) 0 0
 let z4 := Prod.snd (AF.val z1)
 let z5 := Prod.snd z4
 let z6 := AF.val z3
 let z7 := fun i => [CV.int IntKind.i64 (IE.x (a9 i)), CV.int IntKind.i64 (IE.x (a10 i)), CV.int IntKind.i64 (IE.x (a11 i)), CV.int IntKind.i64 (IE.x (a12 i))]
 let z8 := tabOf a8 (fun i => z7 (0 + i))
 .ask (Cm.run .lss a13 a14)
   (.must (decide (0 + a8 ≤ a8))
   (.must (ShapeOk [some IntKind.i64, some IntKind.i64, some IntKind.i64, some IntKind.i64] (tabOf a8 z0) z0)
   (.must (AF.fin z1)
   (.must (decide (0 + a5 ≤ a5))
   (.must (ShapeOk [some IntKind.i64, some IntKind.i64] (tabOf a5 z2) z2)
   (.must (AF.fin z3)
   (.must (decide (0 ≤ Prod.fst z4))
   (.must (decide (Prod.fst z4 < (↑a5 : Int)))
   (.must (decide (0 + Int.toNat (Prod.fst z4) < a5))
   (.leaf (.next (.n1 (Ar.run .add .i64 a13 1) (Ar.run .mx .i64 (-1152921504606846976) (Ar.run .sub .i64 (Prod.fst z5) (Prod.fst z6))) (Ar.run .mn .i64 1152921504606846976 (Ar.run .sub .i64 (Prod.snd z5) (Prod.snd z6))) (Ar.run .add .i64 0 (a6 (0 + Int.toNat (Prod.fst (Prod.snd (AF.val (rdoF (AG.v { v := { i := AW.i (AG.v { v := { i := AW.i (AG.v { v := { i := [], b := [], t := [] }, sh := [], R := [] }), b := AW.b (AG.v { v := { i := [], b := [], t := [] }, sh := [], R := [] }), t := AW.t (AG.v { v := { i := [], b := [], t := [] }, sh := [], R := [] }) ++ [tabOf a8 fun i => z7 (0 + i)] }, sh := AG.sh { v := { i := [], b := [], t := [] }, sh := [], R := [] } ++ [decide (0 + a8 ≤ a8), ShapeOk [some IntKind.i64, some IntKind.i64, some IntKind.i64, some IntKind.i64] z8 fun i => z7 (0 + i)], R := AG.R { v := { i := [], b := [], t := [] }, sh := [], R := [] } ++ [1] }) ++ [a13], b := AW.b (AG.v { v := { i := AW.i (AG.v { v := { i := [], b := [], t := [] }, sh := [], R := [] }), b := AW.b (AG.v { v := { i := [], b := [], t := [] }, sh := [], R := [] }), t := AW.t (AG.v { v := { i := [], b := [], t := [] }, sh := [], R := [] }) ++ [tabOf a8 fun i => z7 (0 + i)] }, sh := AG.sh { v := { i := [], b := [], t := [] }, sh := [], R := [] } ++ [decide (0 + a8 ≤ a8), ShapeOk [some IntKind.i64, some IntKind.i64, some IntKind.i64, some IntKind.i64] z8 fun i => z7 (0 + i)], R := AG.R { v := { i := [], b := [], t := [] }, sh := [], R := [] } ++ [1] }), t := AW.t (AG.v { v := { i := AW.i (AG.v { v := { i := [], b := [], t := [] }, sh := [], R := [] }), b := AW.b (AG.v { v := { i := [], b := [], t := [] }, sh := [], R := [] }), t := AW.t (AG.v { v := { i := [], b := [], t := [] }, sh := [], R := [] }) ++ [tabOf a8 fun i => z7 (0 + i)] }, sh := AG.sh { v := { i := [], b := [], t := [] }, sh := [], R := [] } ++ [decide (0 + a8 ≤ a8), ShapeOk [some IntKind.i64, some IntKind.i64, some IntKind.i64, some IntKind.i64] z8 fun i => z7 (0 + i)], R := AG.R { v := { i := [], b := [], t := [] }, sh := [], R := [] } ++ [1] }) }, sh := AG.sh { v := { i := AW.i (AG.v { v := { i := [], b := [], t := [] }, sh := [], R := [] }), b := AW.b (AG.v { v := { i := [], b := [], t := [] }, sh := [], R := [] }), t := AW.t (AG.v { v := { i := [], b := [], t := [] }, sh := [], R := [] }) ++ [tabOf a8 fun i => z7 (0 + i)] }, sh := AG.sh { v := { i := [], b := [], t := [] }, sh := [], R := [] } ++ [decide (0 + a8 ≤ a8), ShapeOk [some IntKind.i64, some IntKind.i64, some IntKind.i64, some IntKind.i64] z8 fun i => z7 (0 + i)], R := AG.R { v := { i := [], b := [], t := [] }, sh := [], R := [] } ++ [1] }, R := AG.R { v := { i := AW.i (AG.v { v := { i := [], b := [], t := [] }, sh := [], R := [] }), b := AW.b (AG.v { v := { i := [], b := [], t := [] }, sh := [], R := [] }), t := AW.t (AG.v { v := { i := [], b := [], t := [] }, sh := [], R := [] }) ++ [tabOf a8 fun i => z7 (0 + i)] }, sh := AG.sh { v := { i := [], b := [], t := [] }, sh := [], R := [] } ++ [decide (0 + a8 ≤ a8), ShapeOk [some IntKind.i64, some IntKind.i64, some IntKind.i64, some IntKind.i64] z8 fun i => z7 (0 + i)], R := AG.R { v := { i := [], b := [], t := [] }, sh := [], R := [] } ++ [1] } })))))))) (Ar.run .add .i64 0 (a7 (0 + Int.toNat (Prod.fst (Prod.snd (AF.val (rdoF (AG.v { v := { i := AW.i (AG.v { v := { i := AW.i (AG.v { v := { i := [], b := [], t := [] }, sh := [], R := [] }), b := AW.b (AG.v { v := { i := [], b := [], t := [] }, sh := [], R := [] }), t := AW.t (AG.v { v := { i := [], b := [], t := [] }, sh := [], R := [] }) ++ [tabOf a8 fun i => z7 (0 + i)] }, sh := AG.sh { v := { i := [], b := [], t := [] }, sh := [], R := [] } ++ [decide (0 + a8 ≤ a8), ShapeOk [some IntKind.i64, some IntKind.i64, some IntKind.i64, some IntKind.i64] z8 fun i => z7 (0 + i)], R := AG.R { v := { i := [], b := [], t := [] }, sh := [], R := [] } ++ [1] }) ++ [a13], b := AW.b (AG.v { v := { i := AW.i (AG.v { v := { i := [], b := [], t := [] }, sh := [], R := [] }), b := AW.b (AG.v { v := { i := [], b := [], t := [] }, sh := [], R := [] }), t := AW.t (AG.v { v := { i := [], b := [], t := [] }, sh := [], R := [] }) ++ [tabOf a8 fun i => z7 (0 + i)] }, sh := AG.sh { v := { i := [], b := [], t := [] }, sh := [], R := [] } ++ [decide (0 + a8 ≤ a8), ShapeOk [some IntKind.i64, some IntKind.i64, some IntKind.i64, some IntKind.i64] z8 fun i => z7 (0 + i)], R := AG.R { v := { i := [], b := [], t := [] }, sh := [], R := [] } ++ [1] }), t := AW.t (AG.v { v := { i := AW.i (AG.v { v := { i := [], b := [], t := [] }, sh := [], R := [] }), b := AW.b (AG.v { v := { i := [], b := [], t := [] }, sh := [], R := [] }), t := AW.t (AG.v { v := { i := [], b := [], t := [] }, sh := [], R := [] }) ++ [tabOf a8 fun i => z7 (0 + i)] }, sh := AG.sh { v := { i := [], b := [], t := [] }, sh := [], R := [] } ++ [decide (0 + a8 ≤ a8), ShapeOk [some IntKind.i64, some IntKind.i64, some IntKind.i64, some IntKind.i64] z8 fun i => z7 (0 + i)], R := AG.R { v := { i := [], b := [], t := [] }, sh := [], R := [] } ++ [1] }) }, sh := AG.sh { v := { i := AW.i (AG.v { v := { i := [], b := [], t := [] }, sh := [], R := [] }), b := AW.b (AG.v { v := { i := [], b := [], t := [] }, sh := [], R := [] }), t := AW.t (AG.v { v := { i := [], b := [], t := [] }, sh := [], R := [] }) ++ [tabOf a8 fun i => z7 (0 + i)] }, sh := AG.sh { v := { i := [], b := [], t := [] }, sh := [], R := [] } ++ [decide (0 + a8 ≤ a8), ShapeOk [some IntKind.i64, some IntKind.i64, some IntKind.i64, some IntKind.i64] z8 fun i => z7 (0 + i)], R := AG.R { v := { i := [], b := [], t := [] }, sh := [], R := [] } ++ [1] }, R := AG.R { v := { i := AW.i (AG.v { v := { i := [], b := [], t := [] }, sh := [], R := [] }), b := AW.b (AG.v { v := { i := [], b := [], t := [] }, sh := [], R := [] }), t := AW.t (AG.v { v := { i := [], b := [], t := [] }, sh := [], R := [] }) ++ [tabOf a8 fun i => z7 (0 + i)] }, sh := AG.sh { v := { i := [], b := [], t := [] }, sh := [], R := [] } ++ [decide (0 + a8 ≤ a8), ShapeOk [some IntKind.i64, some IntKind.i64, some IntKind.i64, some IntKind.i64] z8 fun i => z7 (0 + i)], R := AG.R { v := { i := [], b := [], t := [] }, sh := [], R := [] } ++ [1] } }))))))))) [2, 3, 4, 5])))))))))))
   (.leaf (.done (-1152921504606846976, 1152921504606846976) []))
 | .n1 p0 p1 p2 p3 p4 =>
 let z0 := fun i => [CV.int IntKind.i64 (IE.x (a9 (0 + i))), CV.int IntKind.i64 (IE.x (a10 (0 + i))), CV.int IntKind.i64 (IE.x (a11 (0 + i))), CV.int IntKind.i64 (IE.x (a12 (0 + i)))]
 let z1 := rdoA a8 (fun i => a9 (0 + i)) (fun i => a10 (0 + i)) (fun i => a11 (0 + i)) (fun i => a12 (0 + i)) p0
 let z2 := fun i => [CV.int IntKind.i64 (IE.x (a6 (0 + i))), CV.int IntKind.i64 (IE.x (a7 (0 + i)))]
 let z3 := rofA a0 a1 a2 a3 a4 a5 (fun i => a6 (0 + i)) (fun i => a7 (0 + i)) p3 p4
 let z4 := Prod.snd (AF.val z1)
 let z5 := Prod.snd z4
 let z6 := AF.val z3
 let z7 := fun i => [CV.int IntKind.i64 (IE.x (a9 i)), CV.int IntKind.i64 (IE.x (a10 i)), CV.int IntKind.i64 (IE.x (a11 i)), CV.int IntKind.i64 (IE.x (a12 i))]
 let z8 := tabOf a8 (fun i => z7 (0 + i))
 .ask (Cm.run .lss p0 a14)
   (.must (decide (0 + a8 ≤ a8))
   (.must (ShapeOk [some IntKind.i64, some IntKind.i64, some IntKind.i64, some IntKind.i64] (tabOf a8 z0) z0)
   (.must (AF.fin z1)
   (.must (decide (0 + a5 ≤ a5))
   (.must (ShapeOk [some IntKind.i64, some IntKind.i64] (tabOf a5 z2) z2)
   (.must (AF.fin z3)
   (.must (decide (0 ≤ Prod.fst z4))
   (.must (decide (Prod.fst z4 < (↑a5 : Int)))
   (.must (decide (0 + Int.toNat (Prod.fst z4) < a5))
   (.leaf (.next (.n1 (Ar.run .add .i64 p0 1) (Ar.run .mx .i64 p1 (Ar.run .sub .i64 (Prod.fst z5) (Prod.fst z6))) (Ar.run .mn .i64 p2 (Ar.run .sub .i64 (Prod.snd z5) (Prod.snd z6))) (Ar.run .add .i64 p3 (a6 (0 + Int.toNat (Prod.fst (Prod.snd (AF.val (rdoF (AG.v { v := { i := AW.i (AG.v { v := { i := AW.i (AG.v { v := { i := [], b := [], t := [] }, sh := [], R := [] }), b := AW.b (AG.v { v := { i := [], b := [], t := [] }, sh := [], R := [] }), t := AW.t (AG.v { v := { i := [], b := [], t := [] }, sh := [], R := [] }) ++ [tabOf a8 fun i => z7 (0 + i)] }, sh := AG.sh { v := { i := [], b := [], t := [] }, sh := [], R := [] } ++ [decide (0 + a8 ≤ a8), ShapeOk [some IntKind.i64, some IntKind.i64, some IntKind.i64, some IntKind.i64] z8 fun i => z7 (0 + i)], R := AG.R { v := { i := [], b := [], t := [] }, sh := [], R := [] } ++ [1] }) ++ [p0], b := AW.b (AG.v { v := { i := AW.i (AG.v { v := { i := [], b := [], t := [] }, sh := [], R := [] }), b := AW.b (AG.v { v := { i := [], b := [], t := [] }, sh := [], R := [] }), t := AW.t (AG.v { v := { i := [], b := [], t := [] }, sh := [], R := [] }) ++ [tabOf a8 fun i => z7 (0 + i)] }, sh := AG.sh { v := { i := [], b := [], t := [] }, sh := [], R := [] } ++ [decide (0 + a8 ≤ a8), ShapeOk [some IntKind.i64, some IntKind.i64, some IntKind.i64, some IntKind.i64] z8 fun i => z7 (0 + i)], R := AG.R { v := { i := [], b := [], t := [] }, sh := [], R := [] } ++ [1] }), t := AW.t (AG.v { v := { i := AW.i (AG.v { v := { i := [], b := [], t := [] }, sh := [], R := [] }), b := AW.b (AG.v { v := { i := [], b := [], t := [] }, sh := [], R := [] }), t := AW.t (AG.v { v := { i := [], b := [], t := [] }, sh := [], R := [] }) ++ [tabOf a8 fun i => z7 (0 + i)] }, sh := AG.sh { v := { i := [], b := [], t := [] }, sh := [], R := [] } ++ [decide (0 + a8 ≤ a8), ShapeOk [some IntKind.i64, some IntKind.i64, some IntKind.i64, some IntKind.i64] z8 fun i => z7 (0 + i)], R := AG.R { v := { i := [], b := [], t := [] }, sh := [], R := [] } ++ [1] }) }, sh := AG.sh { v := { i := AW.i (AG.v { v := { i := [], b := [], t := [] }, sh := [], R := [] }), b := AW.b (AG.v { v := { i := [], b := [], t := [] }, sh := [], R := [] }), t := AW.t (AG.v { v := { i := [], b := [], t := [] }, sh := [], R := [] }) ++ [tabOf a8 fun i => z7 (0 + i)] }, sh := AG.sh { v := { i := [], b := [], t := [] }, sh := [], R := [] } ++ [decide (0 + a8 ≤ a8), ShapeOk [some IntKind.i64, some IntKind.i64, some IntKind.i64, some IntKind.i64] z8 fun i => z7 (0 + i)], R := AG.R { v := { i := [], b := [], t := [] }, sh := [], R := [] } ++ [1] }, R := AG.R { v := { i := AW.i (AG.v { v := { i := [], b := [], t := [] }, sh := [], R := [] }), b := AW.b (AG.v { v := { i := [], b := [], t := [] }, sh := [], R := [] }), t := AW.t (AG.v { v := { i := [], b := [], t := [] }, sh := [], R := [] }) ++ [tabOf a8 fun i => z7 (0 + i)] }, sh := AG.sh { v := { i := [], b := [], t := [] }, sh := [], R := [] } ++ [decide (0 + a8 ≤ a8), ShapeOk [some IntKind.i64, some IntKind.i64, some IntKind.i64, some IntKind.i64] z8 fun i => z7 (0 + i)], R := AG.R { v := { i := [], b := [], t := [] }, sh := [], R := [] } ++ [1] } })))))))) (Ar.run .add .i64 p4 (a7 (0 + Int.toNat (Prod.fst (Prod.snd (AF.val (rdoF (AG.v { v := { i := AW.i (AG.v { v := { i := AW.i (AG.v { v := { i := [], b := [], t := [] }, sh := [], R := [] }), b := AW.b (AG.v { v := { i := [], b := [], t := [] }, sh := [], R := [] }), t := AW.t (AG.v { v := { i := [], b := [], t := [] }, sh := [], R := [] }) ++ [tabOf a8 fun i => z7 (0 + i)] }, sh := AG.sh { v := { i := [], b := [], t := [] }, sh := [], R := [] } ++ [decide (0 + a8 ≤ a8), ShapeOk [some IntKind.i64, some IntKind.i64, some IntKind.i64, some IntKind.i64] z8 fun i => z7 (0 + i)], R := AG.R { v := { i := [], b := [], t := [] }, sh := [], R := [] } ++ [1] }) ++ [p0], b := AW.b (AG.v { v := { i := AW.i (AG.v { v := { i := [], b := [], t := [] }, sh := [], R := [] }), b := AW.b (AG.v { v := { i := [], b := [], t := [] }, sh := [], R := [] }), t := AW.t (AG.v { v := { i := [], b := [], t := [] }, sh := [], R := [] }) ++ [tabOf a8 fun i => z7 (0 + i)] }, sh := AG.sh { v := { i := [], b := [], t := [] }, sh := [], R := [] } ++ [decide (0 + a8 ≤ a8), ShapeOk [some IntKind.i64, some IntKind.i64, some IntKind.i64, some IntKind.i64] z8 fun i => z7 (0 + i)], R := AG.R { v := { i := [], b := [], t := [] }, sh := [], R := [] } ++ [1] }), t := AW.t (AG.v { v := { i := AW.i (AG.v { v := { i := [], b := [], t := [] }, sh := [], R := [] }), b := AW.b (AG.v { v := { i := [], b := [], t := [] }, sh := [], R := [] }), t := AW.t (AG.v { v := { i := [], b := [], t := [] }, sh := [], R := [] }) ++ [tabOf a8 fun i => z7 (0 + i)] }, sh := AG.sh { v := { i := [], b := [], t := [] }, sh := [], R := [] } ++ [decide (0 + a8 ≤ a8), ShapeOk [some IntKind.i64, some IntKind.i64, some IntKind.i64, some IntKind.i64] z8 fun i => z7 (0 + i)], R := AG.R { v := { i := [], b := [], t := [] }, sh := [], R := [] } ++ [1] }) }, sh := AG.sh { v := { i := AW.i (AG.v { v := { i := [], b := [], t := [] }, sh := [], R := [] }), b := AW.b (AG.v { v := { i := [], b := [], t := [] }, sh := [], R := [] }), t := AW.t (AG.v { v := { i := [], b := [], t := [] }, sh := [], R := [] }) ++ [tabOf a8 fun i => z7 (0 + i)] }, sh := AG.sh { v := { i := [], b := [], t := [] }, sh := [], R := [] } ++ [decide (0 + a8 ≤ a8), ShapeOk [some IntKind.i64, some IntKind.i64, some IntKind.i64, some IntKind.i64] z8 fun i => z7 (0 + i)], R := AG.R { v := { i := [], b := [], t := [] }, sh := [], R := [] } ++ [1] }, R := AG.R { v := { i := AW.i (AG.v { v := { i := [], b := [], t := [] }, sh := [], R := [] }), b := AW.b (AG.v { v := { i := [], b := [], t := [] }, sh := [], R := [] }), t := AW.t (AG.v { v := { i := [], b := [], t := [] }, sh := [], R := [] }) ++ [tabOf a8 fun i => z7 (0 + i)] }, sh := AG.sh { v := { i := [], b := [], t := [] }, sh := [], R := [] } ++ [decide (0 + a8 ≤ a8), ShapeOk [some IntKind.i64, some IntKind.i64, some IntKind.i64, some IntKind.i64] z8 fun i => z7 (0 + i)], R := AG.R { v := { i := [], b := [], t := [] }, sh := [], R := [] } ++ [1] } }))))))))) [2, 3, 4, 5])))))))))))
   (.leaf (.done (p1, p2) []))

noncomputable def rdtA (a0 : Bool) (a1 a2 a3 a4 : Int) (a5 : Nat) (a6 a7 : Nat → Int) (a8 : Nat) (a9 a10 a11 a12 : Nat → Int) (a13 a14 : Int) : AF rdtN rdtR where
  code := rdtCode
  base := 2
  nt := 66
  m := 400
  un := []
  W := []
  h0 := [(0, ⟨.arg a5 2 (fun i => [.int .i64 (.x (a6 i)), .int .i64 (.x (a7 i))]) (fun _ => ⟨rfl, rfl⟩), 2, true, none⟩), (1, ⟨.arg a8 4 (fun i => [.int .i64 (.x (a9 i)), .int .i64 (.x (a10 i)), .int .i64 (.x (a11 i)), .int .i64 (.x (a12 i))]) (fun _ => ⟨rfl, rfl⟩), 4, true, none⟩)]
  args := [.agg [.bool (.x a0), .int .i64 (.x a1), .int .i64 (.x a2), .int .i64 (.x a3), .int .i64 (.x a4), .sla 0 2 0 a5], .sla 1 4 0 a8, .int .i64 (.x a13), .int .i64 (.x a14)]
  res := (Try.f24).results.toList
  path := fun a => match a with
   | .n0 => [1, 1, 0, 1, 0]
   | .n1 p0 p1 p2 p3 p4 => [1, 1, 0, 1, 0]
  pd := fun a => match a with
   | .n0 => ⟨[(1, .sla 1 4 0 a8), (3, .int .i64 (.x a14)), (4, .ptr (some (2, 0))), (8, .ptr (some (3, 0))), (9, .ptr (some (4, 0))), (10, .ptr (some (5, 0))), (11, .int .i64 (.x a13))], [(2, ⟨.lit [.bool (.x a0), .int .i64 (.x a1), .int .i64 (.x a2), .int .i64 (.x a3), .int .i64 (.x a4), .sla 0 2 0 a5], 0, true, none⟩), (3, ⟨.lit [.int .i64 (.x 0), .int .i64 (.x 0)], 0, true, none⟩), (4, ⟨.lit [.int .i64 (.x (-1152921504606846976)), .int .i64 (.x 1152921504606846976)], 0, true, none⟩), (5, ⟨.lit [.int .i64 (.x 0), .int .i64 (.x 0)], 0, true, none⟩)], 6, []⟩
   | .n1 p0 p1 p2 p3 p4 => ⟨[(1, .sla 1 4 0 a8), (3, .int .i64 (.x a14)), (4, .ptr (some (2, 0))), (8, .ptr (some (3, 0))), (9, .ptr (some (4, 0))), (10, .ptr (some (5, 0))), (11, .int .i64 (.x p0)), (23, .sla 1 4 0 a8)], [(2, ⟨.lit [.bool (.x a0), .int .i64 (.x a1), .int .i64 (.x a2), .int .i64 (.x a3), .int .i64 (.x a4), .sla 0 2 0 a5], 0, true, none⟩), (3, ⟨.lit [.int .i64 (.x 0), .int .i64 (.x 0)], 0, true, none⟩), (4, ⟨.lit [.int .i64 (.x p1), .int .i64 (.x p2)], 0, true, none⟩), (5, ⟨.lit [.int .i64 (.x p3), .int .i64 (.x p4)], 0, true, none⟩)], 6, []⟩
  D0 := rdtD0 a0 a1 a2 a3 a4 a5 a6 a7 a8 a9 a10 a11 a12 a13 a14
  D := rdtD a0 a1 a2 a3 a4 a5 a6 a7 a8 a9 a10 a11 a12 a13 a14
  rc := (fun v => .agg [.int .i64 (.x v.1), .int .i64 (.x v.2)])
  rh := (fun v => [])
  rn := (fun v => 2)
  rx := (fun v => [])
  rgo := (fun _ => none)
instance : Inhabited rdtR := ⟨(0, 0)⟩
end Go.Proofs.Ythagjhadjpangaa.Cx

/- acmeref07.Wear and Targets: pieces one after another. -/
namespace Go.Proofs.Ythagjhadjpangaa.Cx
set_option linter.unusedVariables false
set_option linter.unusedSimpArgs false
set_option maxRecDepth 100000
set_option maxHeartbeats 4000000
open Go Go.RowKit
/-- A valid tool and valid orders. -/
structure JobOk (a1 a2 a3 a4 : Int) (a5 : Nat) (a6 a7 : Nat → Int) (a8 : Nat) (a9 a10 a11 a12 : Nat → Int) : Prop where
  tool : ToolOk a5 a6 a7 a1 a2 a3 a4
  few : a8 ≤ 40
  ord : ∀ i : Nat, i < a8 → OrdOk a5 (a9 i) (a10 i) (a11 i) (a12 i)
/-- What the piece x wears, at an end of the wears. -/
def gW (w st pc : Nat → Int) (m : Nat) (x : Int) : Int := w (st (ordK pc m x)).toNat
/-- The least, the greatest target of the piece behind j others. -/
def tlP (b : Bool) (s1 c1 : Int) (w1 w2 st pc zl : Nat → Int) (m : Nat) (f : Int) (j : Nat) : Int := zl (ordK pc m (f + j)) - s1 - gL b (WSum (gW w1 st pc m) f j) (WSum (gW w2 st pc m) f j) - c1
def thP (b : Bool) (s2 c2 : Int) (w1 w2 st pc zh : Nat → Int) (m : Nat) (f : Int) (j : Nat) : Int := zh (ordK pc m (f + j)) - s2 - gH b (WSum (gW w1 st pc m) f j) (WSum (gW w2 st pc m) f j) - c2
section
variable {a0 : Bool} {a1 a2 a3 a4 : Int} {a5 : Nat} {a6 a7 : Nat → Int} {a8 : Nat} {a9 a10 a11 a12 : Nat → Int} {a13 a14 : Int}
theorem JobOk.pc (h : JobOk a1 a2 a3 a4 a5 a6 a7 a8 a9 a10 a11 a12) : ∀ i : Nat, i < a8 → 1 ≤ a9 i ∧ a9 i ≤ 10000 := fun i hi => ⟨(h.ord i hi).1.1, (h.ord i hi).1.2.1⟩
theorem JobOk.at' (h : JobOk a1 a2 a3 a4 a5 a6 a7 a8 a9 a10 a11 a12) {x : Int} (h0 : 0 ≤ x) (h1 : x < PS a9 a8) : ordK a9 a8 x < a8 ∧ (0 ≤ a10 (ordK a9 a8 x) ∧ a10 (ordK a9 a8 x) < a5) ∧ (0 ≤ a11 (ordK a9 a8 x) ∧ a11 (ordK a9 a8 x) ≤ a12 (ordK a9 a8 x) ∧ a12 (ordK a9 a8 x) ≤ 10000000000) ∧ (0 ≤ gW a6 a10 a9 a8 x ∧ gW a6 a10 a9 a8 x ≤ gW a7 a10 a9 a8 x ∧ gW a7 a10 a9 a8 x ≤ 100000) := by
  obtain ⟨k1, k2, k3⟩ := ordK_spec (pc := a9) a8 h0 h1
  obtain ⟨⟨o1, o2, o3⟩, o4⟩ := h.ord _ k1
  have := h.tool.2.1 (a10 (ordK a9 a8 x)).toNat (by omega)
  exact ⟨k1, o4, o3, this⟩
theorem JobOk.rdo (h : JobOk a1 a2 a3 a4 a5 a6 a7 a8 a9 a10 a11 a12) {x : Int} (h0 : 0 ≤ x) (h1 : x < PS a9 a8) : AF.fin (rdoA a8 a9 a10 a11 a12 x) = true ∧ AF.val (rdoA a8 a9 a10 a11 a12 x) = (a9 (ordK a9 a8 x), a10 (ordK a9 a8 x), a11 (ordK a9 a8 x), a12 (ordK a9 a8 x)) := by
  obtain ⟨f, k, k1, k2, k3, k4⟩ := rdo_val (a0 := a8) (a1 := a9) (a2 := a10) (a3 := a11) (a4 := a12) h.few h.pc h0 h1
  rw [ordK_uniq h.pc k1 k2 k3]
  exact ⟨f, k4⟩
theorem JobOk.wsum (h : JobOk a1 a2 a3 a4 a5 a6 a7 a8 a9 a10 a11 a12) {f : Int} {j : Nat} (h0 : 0 ≤ f) (h1 : f + j ≤ PS a9 a8) : (0 ≤ WSum (gW a6 a10 a9 a8) f j ∧ WSum (gW a6 a10 a9 a8) f j ≤ 40000000000) ∧ (0 ≤ WSum (gW a7 a10 a9 a8) f j ∧ WSum (gW a7 a10 a9 a8) f j ≤ 40000000000) ∧ PS a9 a8 ≤ 400000 := by
  have r := PS_rng h.pc a8 (Nat.le_refl _)
  have hf := h.few
  have g : ∀ i : Nat, i < j → 0 ≤ gW a6 a10 a9 a8 (f + i) ∧ gW a6 a10 a9 a8 (f + i) ≤ gW a7 a10 a9 a8 (f + i) ∧ gW a7 a10 a9 a8 (f + i) ≤ 100000 := fun i hi => (h.at' (x := f + i) (by omega) (by omega)).2.2.2
  have s1 := WSum_rng (g := gW a6 a10 a9 a8) (f := f) j (fun i hi => by have := g i hi; omega)
  have s2 := WSum_rng (g := gW a7 a10 a9 a8) (f := f) j (fun i hi => by have := g i hi; omega)
  omega
end
end Go.Proofs.Ythagjhadjpangaa.Cx

/- acmeref07.Targets: pieces one after another. -/
namespace Go.Proofs.Ythagjhadjpangaa.Cx
set_option linter.unusedVariables false
set_option linter.unusedSimpArgs false
set_option maxRecDepth 100000
set_option maxHeartbeats 4000000
open Go Go.RowKit
section
variable {a0 : Bool} {a1 a2 a3 a4 : Int} {a5 : Nat} {a6 a7 : Nat → Int} {a8 a9 : Int}
theorem rof_ok (h1 : -1000000 ≤ a1 ∧ a1 ≤ a2 ∧ a2 ≤ 1000000) (h2 : -1000000 ≤ a3 ∧ a3 ≤ a4 ∧ a4 ≤ 1000000) (h3 : 0 ≤ a8 ∧ a8 ≤ 40000000000) (h4 : 0 ≤ a9 ∧ a9 ≤ 40000000000) :
    AF.fin (rofA a0 a1 a2 a3 a4 a5 a6 a7 a8 a9) = true ∧ AF.val (rofA a0 a1 a2 a3 a4 a5 a6 a7 a8 a9) = (a1 + gL a0 a8 a9 + a3, a2 + gH a0 a8 a9 + a4) := by
  refine flat_val (E := fun r => r = (a1 + gL a0 a8 a9 + a3, a2 + gH a0 a8 a9 + a4)) (fun _ => rfl) ?_
  show DD.sat _ _ (rofD0 a0 a1 a2 a3 a4 a5 a6 a7 a8 a9)
  unfold rofD0
  simp only [DD.sat]
  rw [arSub (a := 0) (b := a9) (by omega), arSub (a := 0) (b := a8) (by omega), arAdd (a := a1) (b := 0 - a9) (by omega), arAdd (a := a2) (b := 0 - a8) (by omega), arAdd (b := a3) (by omega), arAdd (b := a4) (by omega), arAdd (a := a1) (b := a8) (by omega), arAdd (a := a2) (b := a9) (by omega), arAdd (b := a3) (by omega), arAdd (b := a4) (by omega)]
  refine ⟨?_, ?_⟩
  · rintro rfl
    show _ = (a1 + -a9 + a3, a2 + -a8 + a4)
    simp only [Prod.mk.injEq]; omega
  · rintro rfl
    rfl
end
section
variable {a0 : Bool} {a1 a2 a3 a4 : Int} {a5 : Nat} {a6 a7 : Nat → Int} {a8 : Nat} {a9 a10 a11 a12 : Nat → Int} {a13 a14 : Int}
theorem rdt_val (h : JobOk a1 a2 a3 a4 a5 a6 a7 a8 a9 a10 a11 a12) (h0 : 0 ≤ a13) (h1 : a13 ≤ a14) (h2 : a14 ≤ PS a9 a8) : AF.fin (rdtA a0 a1 a2 a3 a4 a5 a6 a7 a8 a9 a10 a11 a12 a13 a14) = true ∧ AF.val (rdtA a0 a1 a2 a3 a4 a5 a6 a7 a8 a9 a10 a11 a12 a13 a14) = (LoM (-1152921504606846976) (tlP a0 a1 a3 a6 a7 a10 a9 a11 a8 a13) (a14 - a13).toNat, HiM 1152921504606846976 (thP a0 a2 a4 a6 a7 a10 a9 a12 a8 a13) (a14 - a13).toNat) := by
  refine AF.val_sat (E := fun v => v = (LoM (-1152921504606846976) (tlP a0 a1 a3 a6 a7 a10 a9 a11 a8 a13) (a14 - a13).toNat, HiM 1152921504606846976 (thP a0 a2 a4 a6 a7 a10 a9 a12 a8 a13) (a14 - a13).toNat))
    (Inv := fun b => match b with | .n0 => True | .n1 p0 p1 p2 p3 p4 => a13 ≤ p0 ∧ p0 ≤ a14 ∧ p1 = LoM (-1152921504606846976) (tlP a0 a1 a3 a6 a7 a10 a9 a11 a8 a13) (p0 - a13).toNat ∧ p2 = HiM 1152921504606846976 (thP a0 a2 a4 a6 a7 a10 a9 a12 a8 a13) (p0 - a13).toNat ∧ p3 = (WSum (gW a6 a10 a9 a8) a13 (p0 - a13).toNat) ∧ p4 = (WSum (gW a7 a10 a9 a8) a13 (p0 - a13).toNat))
    (fun b => match b with | .n0 => (a14 - a13).toNat + 1 | .n1 p0 p1 p2 p3 p4 => (a14 - p0).toNat) (fun _ => rfl) (fun a hI => ?_) ?_
  · have step : ∀ x, a13 ≤ x → x < a14 → ∀ y, y = x + 1 → ((WSum (gW a6 a10 a9 a8) a13 (y - a13).toNat) = (WSum (gW a6 a10 a9 a8) a13 (x - a13).toNat) + gW a6 a10 a9 a8 x ∧ (WSum (gW a7 a10 a9 a8) a13 (y - a13).toNat) = (WSum (gW a7 a10 a9 a8) a13 (x - a13).toNat) + gW a7 a10 a9 a8 x) ∧
        LoM (-1152921504606846976) (tlP a0 a1 a3 a6 a7 a10 a9 a11 a8 a13) (y - a13).toNat = max (LoM (-1152921504606846976) (tlP a0 a1 a3 a6 a7 a10 a9 a11 a8 a13) (x - a13).toNat) (a11 (ordK a9 a8 x) - a1 - gL a0 (WSum (gW a6 a10 a9 a8) a13 (x - a13).toNat) (WSum (gW a7 a10 a9 a8) a13 (x - a13).toNat) - a3) ∧ HiM 1152921504606846976 (thP a0 a2 a4 a6 a7 a10 a9 a12 a8 a13) (y - a13).toNat = min (HiM 1152921504606846976 (thP a0 a2 a4 a6 a7 a10 a9 a12 a8 a13) (x - a13).toNat) (a12 (ordK a9 a8 x) - a2 - gH a0 (WSum (gW a6 a10 a9 a8) a13 (x - a13).toNat) (WSum (gW a7 a10 a9 a8) a13 (x - a13).toNat) - a4) := fun x g0 g1 y hy => by
      have e : a13 + ((x - a13).toNat : Nat) = x := by omega
      have e2 : (tlP a0 a1 a3 a6 a7 a10 a9 a11 a8 a13) (x - a13).toNat = a11 (ordK a9 a8 x) - a1 - gL a0 (WSum (gW a6 a10 a9 a8) a13 (x - a13).toNat) (WSum (gW a7 a10 a9 a8) a13 (x - a13).toNat) - a3 := by unfold tlP; rw [e]
      have e3 : (thP a0 a2 a4 a6 a7 a10 a9 a12 a8 a13) (x - a13).toNat = a12 (ordK a9 a8 x) - a2 - gH a0 (WSum (gW a6 a10 a9 a8) a13 (x - a13).toNat) (WSum (gW a7 a10 a9 a8) a13 (x - a13).toNat) - a4 := by unfold thP; rw [e]
      rw [show (y - a13).toNat = (x - a13).toNat + 1 by omega, WSum, WSum, e, LoM, HiM, e2, e3]
      exact ⟨⟨rfl, rfl⟩, rfl, rfl⟩
    cases a with
    | n0 =>
      show DD.sat _ _ (rdtD a0 a1 a2 a3 a4 a5 a6 a7 a8 a9 a10 a11 a12 a13 a14 .n0)
      unfold rdtD
      simp only [DD.sat, Nat.zero_add, cmLss, cmLssF, decide_eq_true_eq]
      refine ⟨fun hp => ?_, fun hp => ?_⟩
      · have z1 : (WSum (gW a6 a10 a9 a8) a13 (a13 - a13).toNat) = 0 := by rw [show (a13 - a13).toNat = 0 by omega]; rfl
        have z2 : (WSum (gW a7 a10 a9 a8) a13 (a13 - a13).toNat) = 0 := by rw [show (a13 - a13).toNat = 0 by omega]; rfl
        have z3 : LoM (-1152921504606846976) (tlP a0 a1 a3 a6 a7 a10 a9 a11 a8 a13) (a13 - a13).toNat = -1152921504606846976 := by rw [show (a13 - a13).toNat = 0 by omega]; rfl
        have z4 : HiM 1152921504606846976 (thP a0 a2 a4 a6 a7 a10 a9 a12 a8 a13) (a13 - a13).toNat = 1152921504606846976 := by rw [show (a13 - a13).toNat = 0 by omega]; rfl
        have o := h.rdo (x := a13) (by omega) (by omega)
        have t := h.at' (x := a13) (by omega) (by omega)
        have o2 : AF.val (rdoA a8 (fun i => a9 i) (fun i => a10 i) (fun i => a11 i) (fun i => a12 i) a13) = _ := o.2
        have o3 : AF.val (rdoF { i := [] ++ [a13], b := [], t := [] ++ [tabOf a8 fun i => [CV.int IntKind.i64 (IE.x (a9 i)), CV.int IntKind.i64 (IE.x (a10 i)), CV.int IntKind.i64 (IE.x (a11 i)), CV.int IntKind.i64 (IE.x (a12 i))]] }) = _ := o.2
        have b := h.wsum (f := a13) (j := (a13 - a13).toNat) h0 (by omega)
        obtain ⟨_, _, s1, s2⟩ := h.tool
        unfold VOk at s1 s2
        have f1 : AF.fin (rofA a0 a1 a2 a3 a4 a5 a6 a7 0 0) = true ∧ _ := rof_ok s1 s2 (by omega) (by omega)
        have f2 : AF.val (rofA a0 a1 a2 a3 a4 a5 (fun i => a6 i) (fun i => a7 i) 0 0) = _ := f1.2
        simp only [o2, o3, f2]
        refine ⟨Nat.le_refl _, shape_ok fun i _ => rfl, o.1, Nat.le_refl _, shape_ok fun i _ => rfl, f1.1, t.2.1.1, t.2.1.2, by omega, ?_⟩
        have s := step a13 (by omega) hp _ rfl
        have gl : -40000000000 ≤ gL a0 0 0 ∧ gL a0 0 0 ≤ 40000000000 := by unfold gL; cases a0 <;> simp only [cond_true, cond_false] <;> omega
        have gh : -40000000000 ≤ gH a0 0 0 ∧ gH a0 0 0 ≤ 40000000000 := by unfold gH; cases a0 <;> simp only [cond_true, cond_false] <;> omega
        rw [z1, z2, z3, z4] at s
        unfold gW at s t
        rw [arMx, arMn, arSub (a := a11 _) (by omega), arSub (a := a12 _) (by omega), arAdd (a := a13) (by omega), arAdd (a := 0) (by omega), arAdd (a := 0) (by omega)]
        refine ⟨⟨by omega, by omega, ?_, ?_, ?_, ?_⟩, by omega⟩
        · rw [s.2.1]; omega
        · rw [s.2.2]; omega
        · exact s.1.1.symm
        · exact s.1.2.symm
      · rw [show (a14 - a13).toNat = 0 by omega]; rfl
    | n1 p0 p1 p2 p3 p4 =>
      obtain ⟨g0, g1, g2, g3, g4, g5⟩ := hI
      show DD.sat _ _ (rdtD a0 a1 a2 a3 a4 a5 a6 a7 a8 a9 a10 a11 a12 a13 a14 (.n1 p0 p1 p2 p3 p4))
      unfold rdtD
      simp only [DD.sat, Nat.zero_add, cmLss, cmLssF, decide_eq_true_eq]
      refine ⟨fun hp => ?_, fun hp => ?_⟩
      · have b0 := h.wsum (f := a13) (j := (p0 - a13).toNat) h0 (by omega)
        rw [← g4, ← g5] at b0
        have o := h.rdo (x := p0) (by omega) (by omega)
        have t := h.at' (x := p0) (by omega) (by omega)
        have o2 : AF.val (rdoA a8 (fun i => a9 i) (fun i => a10 i) (fun i => a11 i) (fun i => a12 i) p0) = _ := o.2
        have o3 : AF.val (rdoF { i := [] ++ [p0], b := [], t := [] ++ [tabOf a8 fun i => [CV.int IntKind.i64 (IE.x (a9 i)), CV.int IntKind.i64 (IE.x (a10 i)), CV.int IntKind.i64 (IE.x (a11 i)), CV.int IntKind.i64 (IE.x (a12 i))]] }) = _ := o.2
        have b := h.wsum (f := a13) (j := (p0 - a13).toNat) h0 (by omega)
        obtain ⟨_, _, s1, s2⟩ := h.tool
        unfold VOk at s1 s2
        have f1 : AF.fin (rofA a0 a1 a2 a3 a4 a5 a6 a7 p3 p4) = true ∧ _ := rof_ok s1 s2 (by omega) (by omega)
        have f2 : AF.val (rofA a0 a1 a2 a3 a4 a5 (fun i => a6 i) (fun i => a7 i) p3 p4) = _ := f1.2
        simp only [o2, o3, f2]
        refine ⟨Nat.le_refl _, shape_ok fun i _ => rfl, o.1, Nat.le_refl _, shape_ok fun i _ => rfl, f1.1, t.2.1.1, t.2.1.2, by omega, ?_⟩
        have s := step p0 (by omega) hp _ rfl
        have gl : -40000000000 ≤ gL a0 p3 p4 ∧ gL a0 p3 p4 ≤ 40000000000 := by unfold gL; cases a0 <;> simp only [cond_true, cond_false] <;> omega
        have gh : -40000000000 ≤ gH a0 p3 p4 ∧ gH a0 p3 p4 ≤ 40000000000 := by unfold gH; cases a0 <;> simp only [cond_true, cond_false] <;> omega
        rw [← g2, ← g3, ← g4, ← g5] at s
        unfold gW at s t
        rw [arMx, arMn, arSub (a := a11 _) (by omega), arSub (a := a12 _) (by omega), arAdd (a := p0) (by omega), arAdd (a := p3) (by omega), arAdd (a := p4) (by omega)]
        refine ⟨⟨by omega, by omega, ?_, ?_, ?_, ?_⟩, by omega⟩
        · rw [s.2.1]; omega
        · rw [s.2.2]; omega
        · exact s.1.1.symm
        · exact s.1.2.symm
      · rw [g2, g3, show p0 = a14 by omega]
  · show True
    trivial
end
end Go.Proofs.Ythagjhadjpangaa.Cx

/- Package die: a part of an order, in plain Lean: what wears and narrows by the same for each piece. -/
namespace Go.Proofs.Ythagjhadjpangaa.Cx
set_option linter.unusedVariables false
set_option linter.unusedSimpArgs false
set_option maxHeartbeats 4000000
open Go Go.RowKit
/-- How many of the pieces from f to t lie before x. -/
def cN (f t x : Int) : Nat := (min x t - f).toNat
theorem part_split {f t q0 q1 : Int} (hf : f ≤ t) (h : q0 < q1) : (min q1 t - max q0 f > 0 → max q0 f = f + cN f t q0 ∧ (cN f t q1 : Int) = cN f t q0 + (min q1 t - max q0 f) ∧ min q1 t = f + cN f t q0 + (min q1 t - max q0 f)) ∧ (min q1 t - max q0 f ≤ 0 → cN f t q1 = cN f t q0) := by
  unfold cN; omega
section
variable {a0 : Bool} {a1 a2 a3 a4 : Int} {a5 : Nat} {a6 a7 : Nat → Int} {a8 : Nat} {a9 a10 a11 a12 : Nat → Int} {f : Int} {j n k : Nat}
theorem gL_lin {b : Bool} {w1 w2 c1 c2 i : Int} : gL b (w1 + i * c1) (w2 + i * c2) = gL b w1 w2 + i * gL b c1 c2 := by
  unfold gL
  cases b <;> simp only [cond_true, cond_false]
  rw [Int.mul_neg]; omega
theorem gH_lin {b : Bool} {w1 w2 c1 c2 i : Int} : gH b (w1 + i * c1) (w2 + i * c2) = gH b w1 w2 + i * gH b c1 c2 := by
  unfold gH
  cases b <;> simp only [cond_true, cond_false]
  rw [Int.mul_neg]; omega
/-- All of n pieces, behind j others, are of the order k. -/
theorem part_ord (h : JobOk a1 a2 a3 a4 a5 a6 a7 a8 a9 a10 a11 a12) (hk : k < a8) (h1 : PS a9 k ≤ f + j) (h2 : f + j + n ≤ PS a9 (k + 1)) : ∀ i : Nat, i < n → ordK a9 a8 (f + (j + i : Nat)) = k := fun i hi => ordK_uniq h.pc hk (by omega) (by omega)
theorem part_w (w : Nat → Int) (hk : ∀ i : Nat, i < n → ordK a9 a8 (f + (j + i : Nat)) = k) : ∀ i : Nat, i ≤ n → WSum (gW w a10 a9 a8) f (j + i) = WSum (gW w a10 a9 a8) f j + i * w (a10 k).toNat := fun i hi => WSum_const i (fun x hx => by unfold gW; rw [hk x (by omega)])
theorem part_tl (hk : ∀ i : Nat, i < n → ordK a9 a8 (f + (j + i : Nat)) = k) : ∀ i : Nat, i < n → tlP a0 a1 a3 a6 a7 a10 a9 a11 a8 f (j + i) = (a11 k - a1 - gL a0 (WSum (gW a6 a10 a9 a8) f j) (WSum (gW a7 a10 a9 a8) f j) - a3) + i * (-(gL a0 (a6 (a10 k).toNat) (a7 (a10 k).toNat))) := fun i hi => by
  unfold tlP
  rw [hk i hi, part_w a6 hk i (by omega), part_w a7 hk i (by omega), gL_lin, Int.mul_neg]
  omega
theorem part_th (hk : ∀ i : Nat, i < n → ordK a9 a8 (f + (j + i : Nat)) = k) : ∀ i : Nat, i < n → thP a0 a2 a4 a6 a7 a10 a9 a12 a8 f (j + i) = (a12 k - a2 - gH a0 (WSum (gW a6 a10 a9 a8) f j) (WSum (gW a7 a10 a9 a8) f j) - a4) + i * (-(gH a0 (a6 (a10 k).toNat) (a7 (a10 k).toNat))) := fun i hi => by
  unfold thP
  rw [hk i hi, part_w a6 hk i (by omega), part_w a7 hk i (by omega), gH_lin, Int.mul_neg]
  omega
/-- What is sure of the first h + 1 pieces of a part, in Lost's words. -/
theorem part_lo (t : Int) (hk : ∀ i : Nat, i < n → ordK a9 a8 (f + (j + i : Nat)) = k) {h : Nat} (hh : h < n) : LoM t (tlP a0 a1 a3 a6 a7 a10 a9 a11 a8 f) (j + (h + 1)) = max (max (LoM t (tlP a0 a1 a3 a6 a7 a10 a9 a11 a8 f) j) (a11 k - a1 - gL a0 (WSum (gW a6 a10 a9 a8) f j) (WSum (gW a7 a10 a9 a8) f j) - a3)) (a11 k - a1 - gL a0 (WSum (gW a6 a10 a9 a8) f j + h * a6 (a10 k).toNat) (WSum (gW a7 a10 a9 a8) f j + h * a7 (a10 k).toNat) - a3) := by
  rw [LoM_lin h (fun i hi => part_tl hk i (by omega)), gL_lin, Int.mul_neg]
  congr 1
  omega
theorem part_hi (t : Int) (hk : ∀ i : Nat, i < n → ordK a9 a8 (f + (j + i : Nat)) = k) {h : Nat} (hh : h < n) : HiM t (thP a0 a2 a4 a6 a7 a10 a9 a12 a8 f) (j + (h + 1)) = min (min (HiM t (thP a0 a2 a4 a6 a7 a10 a9 a12 a8 f) j) (a12 k - a2 - gH a0 (WSum (gW a6 a10 a9 a8) f j) (WSum (gW a7 a10 a9 a8) f j) - a4)) (a12 k - a2 - gH a0 (WSum (gW a6 a10 a9 a8) f j + h * a6 (a10 k).toNat) (WSum (gW a7 a10 a9 a8) f j + h * a7 (a10 k).toNat) - a4) := by
  rw [HiM_lin h (fun i hi => part_th hk i (by omega)), gH_lin, Int.mul_neg]
  congr 1
  omega
theorem part_lost {t1 t2 : Int} (hk : ∀ i : Nat, i < n → ordK a9 a8 (f + (j + i : Nat)) = k) {h : Nat} (hh : h < n) :
    Lost (LoM t1 (tlP a0 a1 a3 a6 a7 a10 a9 a11 a8 f) j) (HiM t2 (thP a0 a2 a4 a6 a7 a10 a9 a12 a8 f) j) a0 a1 a2 a3 a4 (a11 k) (a12 k) (a6 (a10 k).toNat) (a7 (a10 k).toNat) (WSum (gW a6 a10 a9 a8) f j) (WSum (gW a7 a10 a9 a8) f j) h ↔
      LoM t1 (tlP a0 a1 a3 a6 a7 a10 a9 a11 a8 f) (j + (h + 1)) > HiM t2 (thP a0 a2 a4 a6 a7 a10 a9 a12 a8 f) (j + (h + 1)) := by
  rw [part_lo t1 hk hh, part_hi t2 hk hh]
  exact Iff.rfl
end
end Go.Proofs.Ythagjhadjpangaa.Cx

/- Package die: (shop).reach in general. -/
namespace Go.Proofs.Ythagjhadjpangaa.Cx
set_option linter.unusedVariables false
set_option linter.unusedSimpArgs false
set_option maxRecDepth 100000
set_option maxHeartbeats 4000000
open Go Go.RowKit
/-- What reach yields: as far as targets are left. -/
def RchG (a0 : Bool) (a1 a2 a3 a4 : Int) (a5 : Nat) (a6 a7 : Nat → Int) (a8 : Nat) (a9 a10 a11 a12 : Nat → Int) (a13 a14 a15 a16 a17 : Int) (x y z : Int) : Prop :=
  ∃ J : Nat, (J : Int) ≤ a17 - a16 ∧ ((J : Int) < a17 - a16 → LoM a14 (tlP a0 a1 a3 a6 a7 a10 a9 a11 a8 a16) (J + 1) > HiM a15 (thP a0 a2 a4 a6 a7 a10 a9 a12 a8 a16) (J + 1)) ∧ (0 < J → LoM a14 (tlP a0 a1 a3 a6 a7 a10 a9 a11 a8 a16) (J) ≤ HiM a15 (thP a0 a2 a4 a6 a7 a10 a9 a12 a8 a16) (J)) ∧ x = LoM a14 (tlP a0 a1 a3 a6 a7 a10 a9 a11 a8 a16) (J) ∧ y = HiM a15 (thP a0 a2 a4 a6 a7 a10 a9 a12 a8 a16) (J) ∧ z = a16 + J
def RchS (a0 : Bool) (a1 a2 a3 a4 : Int) (a5 : Nat) (a6 a7 : Nat → Int) (a8 : Nat) (a9 a10 a11 a12 : Nat → Int) (a13 a14 a15 a16 a17 : Int) : drcs0R → Prop
  | .r0 x y _ _ => RchG a0 a1 a2 a3 a4 a5 a6 a7 a8 a9 a10 a11 a12 a13 a14 a15 a16 a17 x y a17
  | .r1 x y z _ _ => RchG a0 a1 a2 a3 a4 a5 a6 a7 a8 a9 a10 a11 a12 a13 a14 a15 a16 a17 x y z
section
variable {a0 : Bool} {a1 a2 a3 a4 : Int} {a5 : Nat} {a6 a7 : Nat → Int} {a8 : Nat} {a9 a10 a11 a12 : Nat → Int} {a13 a14 a15 a16 a17 : Int}
theorem drs_gen (h : JobOk a1 a2 a3 a4 a5 a6 a7 a8 a9 a10 a11 a12) (h0 : 0 ≤ a16) (h1 : a16 ≤ a17) (h2 : a17 ≤ PS a9 a8) : ∃ n v, AF.run (drcs0A a0 a1 a2 a3 a4 a5 a6 a7 a8 a9 a10 a11 a12 a13 a14 a15 a16 a17) n = some v ∧ RchS a0 a1 a2 a3 a4 a5 a6 a7 a8 a9 a10 a11 a12 a13 a14 a15 a16 a17 v := by
  obtain ⟨_, tw, s1, s2⟩ := h.tool
  unfold VOk at s1 s2
  have few := h.few
  have tot := (h.wsum (f := a16) (j := 0) h0 (by omega)).2.2
  refine AF.run_sat (E := RchS a0 a1 a2 a3 a4 a5 a6 a7 a8 a9 a10 a11 a12 a13 a14 a15 a16 a17) (Inv := fun b => match b with | .n0 q0 q1 q2 q3 q4 q5 => 0 ≤ q1 ∧ q1 ≤ a8 ∧ q0 = PS a9 q1.toNat ∧ q2 = LoM a14 (tlP a0 a1 a3 a6 a7 a10 a9 a11 a8 a16) (cN a16 a17 q0) ∧ q3 = HiM a15 (thP a0 a2 a4 a6 a7 a10 a9 a12 a8 a16) (cN a16 a17 q0) ∧ q4 = WSum (gW a6 a10 a9 a8) a16 (cN a16 a17 q0) ∧ q5 = WSum (gW a7 a10 a9 a8) a16 (cN a16 a17 q0) ∧ (0 < cN a16 a17 q0 → q2 ≤ q3))
    (fun b => match b with | .n0 q0 q1 q2 q3 q4 q5 => (a8 - q1).toNat) (fun b => rfl) (fun a hI => ?_) ?_
  · cases a with
    | n0 q0 q1 q2 q3 q4 q5 =>
      obtain ⟨g0, g1, e0, e2, e3, e4, e5, e6⟩ := hI
      have cb : (cN a16 a17 q0 : Int) ≤ a17 - a16 := by unfold cN; omega
      have b := h.wsum (f := a16) (j := cN a16 a17 q0) h0 (by omega)
      rw [← e4, ← e5] at b
      show DD.sat _ _ (drcs0D a0 a1 a2 a3 a4 a5 a6 a7 a8 a9 a10 a11 a12 a13 a14 a15 a16 a17 (.n0 q0 q1 q2 q3 q4 q5))
      unfold drcs0D
      have r0 := PS_rng h.pc q1.toNat (by omega)
      have ea : q1 < a8 → Ar.run .add .i64 q1 1 = q1 + 1 := fun h => arAdd (by omega)
      by_cases hq : q1 < a8
      · have pk := h.pc q1.toNat (by omega)
        obtain ⟨⟨_, _, z1, z2, z3⟩, st⟩ := h.ord q1.toNat (by omega)
        have nx : PS a9 (q1 + 1).toNat = q0 + a9 q1.toNat := by rw [show (q1 + 1).toNat = q1.toNat + 1 by omega, PS, e0]
        have nr := PS_mono h.pc (j := q1.toNat + 1) a8 (by omega) (Nat.le_refl _)
        rw [show q1.toNat + 1 = (q1 + 1).toNat by omega, nx] at nr
        obtain ⟨ps1, ps2⟩ := part_split (f := a16) (t := a17) (q0 := q0) (q1 := q0 + a9 q1.toNat) h1 (by omega)
        have f1 : Ar.run .add .i64 q0 (a9 q1.toNat) = q0 + a9 q1.toNat := arAdd (by omega)
        have f2 : Ar.run .sub .i64 (min (q0 + a9 q1.toNat) a17) (max q0 a16) = min (q0 + a9 q1.toNat) a17 - max q0 a16 := arSub (by omega)
        simp only [DD.sat, Nat.zero_add, cmLss, cmLssF, cmGtr, cmGtrF, decide_eq_true_eq, f1, arMn, arMx, f2, ea hq]
        refine ⟨fun _ => ⟨g0, hq, by omega, fun hn => ?_, fun hn => ?_⟩, fun hx => by omega⟩
        · obtain ⟨p1, p2, p3⟩ := ps1 hn
          have hnb : min (q0 + a9 q1.toNat) a17 - max q0 a16 ≤ 1000000 := by omega
          obtain ⟨n, hnn⟩ : ∃ n : Nat, (n : Int) = min (q0 + a9 q1.toNat) a17 - max q0 a16 := ⟨(min (q0 + a9 q1.toNat) a17 - max q0 a16).toNat, by omega⟩
          have hk := part_ord (f := a16) (j := cN a16 a17 q0) (n := n) h (k := q1.toNat) (by omega) (by omega) (by rw [show q1.toNat + 1 = (q1 + 1).toNat by omega, nx]; omega)
          rw [← hnn] at p2 p3 hn ⊢
          obtain ⟨sf, r, sr, r1, r2, r3, r4⟩ := dse_val (a0 := n) (a1 := q2) (a2 := q3) (a3 := a0) (a4 := a1) (a5 := a2) (a6 := a3) (a7 := a4) (a8 := a5) (a9 := a6) (a10 := a7) (a11 := a8) (a12 := a9) (a13 := a10) (a14 := a11) (a15 := a12) (a16 := a13) (a17 := a9 q1.toNat) (a18 := a10 q1.toNat) (a19 := a11 q1.toNat) (a20 := a12 q1.toNat) (a21 := max q0 a16) (a22 := min (q0 + a9 q1.toNat) a17) (a23 := q4) (a24 := q5) (by omega) tw st (by unfold BB; omega) (by unfold BB; omega) (by unfold BB; omega) (by unfold BB; omega) (by unfold BB; omega) (by unfold BB; omega) (by omega) (by omega)
          have sr' : AF.val (dseA n q2 q3 a0 a1 a2 a3 a4 a5 (fun i => a6 i) (fun i => a7 i) a8 (fun i => a9 i) (fun i => a10 i) (fun i => a11 i) (fun i => a12 i) a13 (a9 q1.toNat) (a10 q1.toNat) (a11 q1.toNat) (a12 q1.toNat) (max q0 a16) (min (q0 + a9 q1.toNat) a17) q4 q5) = r := sr
          simp only [sr']
          have t1 : AF.fin (dtgA a0 a1 a2 a3 a4 a5 a6 a7 a8 a9 a10 a11 a12 a13 (a11 q1.toNat) (a12 q1.toNat) q4 q5) = true ∧ _ := dtg_val (by unfold BB; omega) (by unfold BB; omega) (by unfold BB; omega) (by unfold BB; omega) (by unfold BB; omega) (by unfold BB; omega) (by unfold BB; omega) (by unfold BB; omega)
          have t2 : AF.fin (dwoA a0 a1 a2 a3 a4 a5 a6 a7 a8 a9 a10 a11 a12 a13 q4 q5 (a10 q1.toNat) r) = true ∧ _ := dwo_val tw st (by omega) (by omega) (by omega)
          have t1v : AF.val (dtgA a0 a1 a2 a3 a4 a5 (fun i => a6 i) (fun i => a7 i) a8 (fun i => a9 i) (fun i => a10 i) (fun i => a11 i) (fun i => a12 i) a13 (a11 q1.toNat) (a12 q1.toNat) q4 q5) = _ := t1.2
          have t2v : AF.val (dwoA a0 a1 a2 a3 a4 a5 (fun i => a6 i) (fun i => a7 i) a8 (fun i => a9 i) (fun i => a10 i) (fun i => a11 i) (fun i => a12 i) a13 q4 q5 (a10 q1.toNat) r) = _ := t2.2
          have jc : cN a16 a17 (q0 + a9 q1.toNat) = cN a16 a17 q0 + n := by omega
          have lost := fun (x : Nat) (hx : x < n) => part_lost (a0 := a0) (a1 := a1) (a2 := a2) (a3 := a3) (a4 := a4) (a6 := a6) (a7 := a7) (a10 := a10) (a11 := a11) (a12 := a12) (t1 := a14) (t2 := a15) hk hx
          rw [← e2, ← e3, ← e4, ← e5] at lost
          have wk : (0 ≤ a6 (a10 q1.toNat).toNat ∧ a6 (a10 q1.toNat).toNat ≤ a7 (a10 q1.toNat).toNat ∧ a7 (a10 q1.toNat).toNat ≤ 100000) := tw _ (by omega)
          refine ⟨Nat.le_refl _, shape_ok fun i _ => rfl, Nat.le_refl _, shape_ok fun i _ => rfl, sf, fun hr => ?_, fun hr => ?_⟩
          · obtain ⟨x, hx⟩ : ∃ x : Nat, (x : Int) = r - 1 := ⟨(r - 1).toNat, by omega⟩
            have t3 : AF.fin (dwoA a0 a1 a2 a3 a4 a5 a6 a7 a8 a9 a10 a11 a12 a13 q4 q5 (a10 q1.toNat) (r - 1)) = true ∧ _ := dwo_val tw st (by omega) (by omega) (by omega)
            have m1 := wear_bd (n := r - 1) (w := a6 (a10 q1.toNat).toNat) (by omega) (by omega)
            have m2 := wear_bd (n := r - 1) (w := a7 (a10 q1.toNat).toNat) (by omega) (by omega)
            have t4 : AF.fin (dtgA a0 a1 a2 a3 a4 a5 a6 a7 a8 a9 a10 a11 a12 a13 (a11 q1.toNat) (a12 q1.toNat) (q4 + (r - 1) * a6 (a10 q1.toNat).toNat) (q5 + (r - 1) * a7 (a10 q1.toNat).toNat)) = true ∧ _ := dtg_val (by unfold BB; omega) (by unfold BB; omega) (by unfold BB; omega) (by unfold BB; omega) (by unfold BB; omega) (by unfold BB; omega) (by unfold BB; omega) (by unfold BB; omega)
            have e7 : Ar.run .sub .i64 r 1 = r - 1 := arSub (by omega)
            have t3v : AF.val (dwoA a0 a1 a2 a3 a4 a5 (fun i => a6 i) (fun i => a7 i) a8 (fun i => a9 i) (fun i => a10 i) (fun i => a11 i) (fun i => a12 i) a13 q4 q5 (a10 q1.toNat) (r - 1)) = _ := t3.2
            have t4v : AF.val (dtgA a0 a1 a2 a3 a4 a5 (fun i => a6 i) (fun i => a7 i) a8 (fun i => a9 i) (fun i => a10 i) (fun i => a11 i) (fun i => a12 i) a13 (a11 q1.toNat) (a12 q1.toNat) (q4 + (r - 1) * a6 (a10 q1.toNat).toNat) (q5 + (r - 1) * a7 (a10 q1.toNat).toNat)) = _ := t4.2
            have lox := part_lo (a0 := a0) (a1 := a1) (a3 := a3) (a6 := a6) (a7 := a7) (a10 := a10) (a11 := a11) a14 hk (h := x) (by omega)
            have hix := part_hi (a0 := a0) (a2 := a2) (a4 := a4) (a6 := a6) (a7 := a7) (a10 := a10) (a12 := a12) a15 hk (h := x) (by omega)
            have nl := fun hl => r3 hr ((lost x (by omega)).2 hl |> fun q => by rw [← hx]; exact q)
            rw [← e2, ← e4, ← e5, hx] at lox
            rw [← e3, ← e4, ← e5, hx] at hix
            have nl2 := Int.not_lt.1 nl
            simp only [e7, t1v, t3v, t4v, t2v]
            rw [← lox, ← hix]
            refine ⟨Nat.le_refl _, shape_ok fun i _ => rfl, Nat.le_refl _, shape_ok fun i _ => rfl, t1.1, Nat.le_refl _, shape_ok fun i _ => rfl, Nat.le_refl _, shape_ok fun i _ => rfl, t3.1, Nat.le_refl _, shape_ok fun i _ => rfl, Nat.le_refl _, shape_ok fun i _ => rfl, t4.1, fun hrn => ?_, fun hrn => ⟨Nat.le_refl _, shape_ok fun i _ => rfl, Nat.le_refl _, shape_ok fun i _ => rfl, t2.1, ?_⟩⟩
            · refine ⟨cN a16 a17 q0 + (x + 1), by omega, fun _ => ?_, fun _ => nl2, rfl, rfl, ?_⟩
              · have := (lost (x + 1) (by omega)).1 (by
                  rw [show ((x + 1 : Nat) : Int) = r by omega]; exact r4 hrn)
                rw [show cN a16 a17 q0 + (x + 1) + 1 = cN a16 a17 q0 + (x + 1 + 1) by omega]
                exact this
              · rw [arAdd (by omega)]; omega
            · obtain rfl : r = n := by omega
              have xn : x + 1 = n := by omega
              rw [jc, ← xn]
              have w1 := part_w (a10 := a10) a6 hk n (Nat.le_refl _)
              have w2 := part_w (a10 := a10) a7 hk n (Nat.le_refl _)
              refine ⟨⟨by omega, by omega, nx.symm, rfl, rfl, ?_, ?_, fun _ => nl2⟩, by omega⟩
              · rw [xn, w1, ← e4]
              · rw [xn, w2, ← e5]
          · obtain rfl : r = 0 := by omega
            refine ⟨fun hrn => ⟨cN a16 a17 q0, by omega, fun _ => (lost 0 (by omega)).1 (r4 hrn), fun hj => by rw [← e2, ← e3]; exact e6 hj, e2, e3, ?_⟩, fun hrn => by omega⟩
            rw [arAdd (by omega)]; omega
        · rw [ps2 hn]
          exact ⟨⟨by omega, by omega, nx.symm, e2, e3, e4, e5, e6⟩, by omega⟩
      · simp only [DD.sat, cmLss, cmLssF]
        refine ⟨fun hx => by omega, fun _ => ⟨cN a16 a17 q0, cb, fun hx => ?_, fun hj => by rw [← e2, ← e3]; exact e6 hj, e2, e3, ?_⟩⟩
        · have : q1.toNat = a8 := by omega
          rw [this] at e0
          unfold cN at hx; omega
        · have : q1.toNat = a8 := by omega
          rw [this] at e0
          unfold cN; omega
  · have z : cN a16 a17 0 = 0 := by unfold cN; omega
    show 0 ≤ (0 : Int) ∧ (0 : Int) ≤ a8 ∧ _ ∧ _ ∧ _ ∧ _ ∧ _ ∧ _
    rw [z]
    exact ⟨by omega, by omega, rfl, rfl, rfl, rfl, rfl, fun h => by omega⟩
end
end Go.Proofs.Ythagjhadjpangaa.Cx
