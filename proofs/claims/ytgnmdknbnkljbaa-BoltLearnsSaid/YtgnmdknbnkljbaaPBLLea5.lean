/- acme/acmeref09.End as an automaton. Made by tools/cxauto.py. -/
import Derived.Test.YtgnmdknbnkljbaaPBLLea4

namespace Go.Proofs.Ytgnmdknbnkljbaa.Cx
set_option linter.unusedVariables false
set_option linter.unusedSimpArgs false
set_option maxRecDepth 100000
open Go Go.Proofs Go.RowKit

noncomputable abbrev abeCode : Code := funcCode Try.f73


abbrev abeN := Empty

abbrev abeR := Int

noncomputable def abeD0 (a0 : Int) (a1 : Int) (a2 : Int) (a3 : Int) : DD (Lf abeN abeR) :=
 .must (Cm.run Cm.geq (Ar.run Ar.conv IntKind.u64 a3 0) 0)
   (.ask (Cm.run Cm.eql (Ar.run Ar.and IntKind.i64 (Ar.run Ar.shr IntKind.i64 a2 (Ar.run Ar.conv IntKind.u64 a3 0)) 1) 1)
   (.leaf (.done a1 []))
   (.leaf (.done a0 [])))

noncomputable def abeD (a0 : Int) (a1 : Int) (a2 : Int) (a3 : Int) : abeN → DD (Lf abeN abeR) := fun a => nomatch a

noncomputable def abeA (a0 : Int) (a1 : Int) (a2 : Int) (a3 : Int) : AF abeN abeR where
  code := abeCode
  base := 0
  nt := 17
  m := 400
  un := []
  W := []
  h0 := []
  args := [.agg [.int .i64 (.x a0), .int .i64 (.x a1)], .int .i64 (.x a2), .int .i64 (.x a3)]
  res := (Try.f73).results.toList
  path := fun a => nomatch a
  pd := fun a => nomatch a
  D0 := abeD0 a0 a1 a2 a3
  D := abeD a0 a1 a2 a3
  rc := (fun v => .int .i64 (.x v))
  rh := (fun v => [])
  rn := (fun v => 0)
  rx := (fun v => [])
  rgo := (fun _ => none)


theorem abestart (a0 : Int) (a1 : Int) (a2 : Int) (a3 : Int) : AF.edgeOk (abeA a0 a1 a2 a3) (ctxOf Try.prog memo0) (abeD0 a0 a1 a2 a3) (AF.run0 (abeA a0 a1 a2 a3) (ctxOf Try.prog memo0)) := by unfold AF.edgeOk; kernel_rfl

theorem abeok (a0 : Int) (a1 : Int) (a2 : Int) (a3 : Int) : (abeA a0 a1 a2 a3).Ok Try.prog (ctxOf Try.prog memo0) where
  regs := by kernel_rfl
  h0 := by kernel_rfl
  start := abestart a0 a1 a2 a3
  node := fun a _ => nomatch a
  pd := fun a => nomatch a
  le := fun a => nomatch a
  rd := fun v => ⟨⟨fa_nil, fa_nil, fa_nil, rfl⟩, rfl⟩
  wb := rfl


theorem abehR {ρ : Env} (a0 : Int) (a1 : Int) (a2 : Int) (a3 : Int) (hM : MemoOk Try.prog (ctxOf Try.prog memo0) ρ) : ∀ X a q n D, FxOk ρ X → X.base = (abeA a0 a1 a2 a3).base → X.nt = (abeA a0 a1 a2 a3).nt → X.W = (abeA a0 a1 a2 a3).W → (abeA a0 a1 a2 a3).rgo a = some q → q n = some D → (abeA a0 a1 a2 a3).RangeOk Try.prog ρ X a D := AF.noRange rfl

theorem abectr {ρ : Env} (a0 : Int) (a1 : Int) (a2 : Int) (a3 : Int) {n : Nat} {v : abeR} (hM : MemoOk Try.prog (ctxOf Try.prog memo0) ρ) (hv : (abeA a0 a1 a2 a3).run n = some v) :
    Ctr Try.prog ρ 73 (abeA a0 a1 a2 a3).args (abeA a0 a1 a2 a3).H0 (abeA a0 a1 a2 a3).base (abeA a0 a1 a2 a3).W ((abeA a0 a1 a2 a3).rc v) (putH (abeA a0 a1 a2 a3).H0 ((abeA a0 a1 a2 a3).rh v ++ (abeA a0 a1 a2 a3).rx v)) ((abeA a0 a1 a2 a3).rn v) :=
  AF.ctr try_ok hM (abeok a0 a1 a2 a3) (fn := Try.f73) Try.func73 rfl rfl (Nat.le_of_ble_eq_true rfl) rfl (abehR a0 a1 a2 a3 hM) hv


abbrev abeP : List AP := [.agg [.int .i64, .int .i64], .int .i64, .int .i64]
noncomputable def abeF (v : AV) : AF abeN abeR := abeA (v.i.getD 0 0) (v.i.getD 1 0) (v.i.getD 2 0) (v.i.getD 3 0)
theorem abeknown {ρ : Env} (hM : MemoOk Try.prog (ctxOf Try.prog memo0) ρ) : KnownA Try.prog ρ 73 abeP abeF where
  fn := ⟨Try.f73, Try.func73, rfl⟩
  args := fun v => rfl
  plain := fun v r => rfl
  ctr := fun v n r h => abectr (v.i.getD 0 0) (v.i.getD 1 0) (v.i.getD 2 0) (v.i.getD 3 0) hM h

end Go.Proofs.Ytgnmdknbnkljbaa.Cx

/- acme/acmeref09.Truths as an automaton. Made by tools/cxauto.py. -/
namespace Go.Proofs.Ytgnmdknbnkljbaa.Cx
set_option linter.unusedVariables false
set_option linter.unusedSimpArgs false
set_option maxRecDepth 100000
open Go Go.Proofs Go.RowKit

noncomputable abbrev abtCode : Code := funcCode Try.f31


inductive abtN where
  | n0
  | n1 (p0 : Nat) (p1 : Int) (p2 : Nat → Int) (p3 : Nat → Int) (p4 : Nat → Int) (p5 : Nat → Int) (p6 : Nat → Int) (p7 : Nat → Int) (p8 : Nat → Int) (p9 : Nat → Int)

inductive abtR where
  | r0
  | r1 (p0 : Nat) (p1 : Nat → Int) (p2 : Nat → Int) (p3 : Nat → Int) (p4 : Nat → Int) (p5 : Nat → Int) (p6 : Nat → Int) (p7 : Nat → Int) (p8 : Nat → Int)

noncomputable def abtD0 (a0 : Int) (a1 : Int) (a2 : Int) (a3 : Int) (a4 : Int) (a5 : Int) (a6 : Int) (a7 : Int) (a8 : Int) (a9 : Int) (a10 : Int) (a11 : Int) (a12 : Int) (a13 : Int) (a14 : Int) (a15 : Int) (a16 : Int) (a17 : Int) (a18 : Int) (a19 : Int) : DD (Lf abtN abtR) :=
 .leaf (.next (.n0) [0, 1, 2])

noncomputable def abtD (a0 : Int) (a1 : Int) (a2 : Int) (a3 : Int) (a4 : Int) (a5 : Int) (a6 : Int) (a7 : Int) (a8 : Int) (a9 : Int) (a10 : Int) (a11 : Int) (a12 : Int) (a13 : Int) (a14 : Int) (a15 : Int) (a16 : Int) (a17 : Int) (a18 : Int) (a19 : Int) : abtN → DD (Lf abtN abtR)
 | .n0 =>
 .ask (true)
   (.must (AF.fin (abeA a3 a4 0 0))
   (.must (AF.fin (abeA a5 a6 0 1))
   (.must (AF.fin (abeA a7 a8 0 2))
   (.must (AF.fin (abeA a9 a10 0 3))
   (.must (AF.fin (abeA a11 a12 0 4))
   (.must (AF.fin (abeA a14 a15 0 5))
   (.must (AF.fin (abeA a16 a17 0 6))
   (.must (AF.fin (abeA a18 a19 0 7))
   (.leaf (.next (.n1 1 1 (fun i => AF.val (abeA a3 a4 0 0)) (fun i => AF.val (abeA a5 a6 0 1)) (fun i => AF.val (abeA a7 a8 0 2)) (fun i => AF.val (abeA a9 a10 0 3)) (fun i => AF.val (abeA a11 a12 0 4)) (fun i => AF.val (abeA a14 a15 0 5)) (fun i => AF.val (abeA a16 a17 0 6)) (fun i => AF.val (abeA a18 a19 0 7))) [0, 1, 4]))))))))))
   (.leaf (.done (.r0) [2]))
 | .n1 p0 p1 p2 p3 p4 p5 p6 p7 p8 p9 =>
 .ask (Cm.run Cm.lss p1 256)
   (.must (AF.fin (abeA a3 a4 p1 0))
   (.must (AF.fin (abeA a5 a6 p1 1))
   (.must (AF.fin (abeA a7 a8 p1 2))
   (.must (AF.fin (abeA a9 a10 p1 3))
   (.must (AF.fin (abeA a11 a12 p1 4))
   (.must (AF.fin (abeA a14 a15 p1 5))
   (.must (AF.fin (abeA a16 a17 p1 6))
   (.must (AF.fin (abeA a18 a19 p1 7))
   (.must (decide (0 + p0 ≤ p0))
   (.must (decide (p0 + 1 ≤ 10000))
   (.leaf (.next (.n1 (p0 + 1) (Ar.run Ar.add IntKind.i64 p1 1) (fun i => bif Nat.blt i p0 then p2 (0 + i) else AF.val (abeA a3 a4 p1 0)) (fun i => bif Nat.blt i p0 then p3 (0 + i) else AF.val (abeA a5 a6 p1 1)) (fun i => bif Nat.blt i p0 then p4 (0 + i) else AF.val (abeA a7 a8 p1 2)) (fun i => bif Nat.blt i p0 then p5 (0 + i) else AF.val (abeA a9 a10 p1 3)) (fun i => bif Nat.blt i p0 then p6 (0 + i) else AF.val (abeA a11 a12 p1 4)) (fun i => bif Nat.blt i p0 then p7 (0 + i) else AF.val (abeA a14 a15 p1 5)) (fun i => bif Nat.blt i p0 then p8 (0 + i) else AF.val (abeA a16 a17 p1 6)) (fun i => bif Nat.blt i p0 then p9 (0 + i) else AF.val (abeA a18 a19 p1 7))) [0, 1, 4]))))))))))))
   (.leaf (.done (.r1 p0 (fun i => p2 i) (fun i => p3 i) (fun i => p4 i) (fun i => p5 i) (fun i => p6 i) (fun i => p7 i) (fun i => p8 i) (fun i => p9 i)) [2]))

noncomputable def abtA (a0 : Int) (a1 : Int) (a2 : Int) (a3 : Int) (a4 : Int) (a5 : Int) (a6 : Int) (a7 : Int) (a8 : Int) (a9 : Int) (a10 : Int) (a11 : Int) (a12 : Int) (a13 : Int) (a14 : Int) (a15 : Int) (a16 : Int) (a17 : Int) (a18 : Int) (a19 : Int) : AF abtN abtR where
  code := abtCode
  base := 0
  nt := 50
  m := 400
  un := []
  W := []
  h0 := []
  args := [.agg [.int .i64 (.x a0), .int .i64 (.x a1), .int .i64 (.x a2), .int .i64 (.x a3), .int .i64 (.x a4), .int .i64 (.x a5), .int .i64 (.x a6), .int .i64 (.x a7), .int .i64 (.x a8), .int .i64 (.x a9), .int .i64 (.x a10), .int .i64 (.x a11), .int .i64 (.x a12)], .agg [.int .i64 (.x a13), .int .i64 (.x a14), .int .i64 (.x a15), .int .i64 (.x a16), .int .i64 (.x a17), .int .i64 (.x a18), .int .i64 (.x a19)]]
  res := (Try.f31).results.toList
  path := fun a => match a with
   | .n0 => [1, 1, 0, 1, 0]
   | .n1 p0 p1 p2 p3 p4 p5 p6 p7 p8 p9 => [1, 1, 0, 1, 0]
  pd := fun a => match a with
   | .n0 => ⟨[(2, .ptr (some (0, 0))), (3, .ptr (some (1, 0))), (5, .slc (some (2, 0)) 0 0), (6, .int .i64 (.x 0))], [(0, ⟨.lit [.int .i64 (.x a0), .int .i64 (.x a1), .int .i64 (.x a2), .int .i64 (.x a3), .int .i64 (.x a4), .int .i64 (.x a5), .int .i64 (.x a6), .int .i64 (.x a7), .int .i64 (.x a8), .int .i64 (.x a9), .int .i64 (.x a10), .int .i64 (.x a11), .int .i64 (.x a12)], 0, true, none⟩), (1, ⟨.lit [.int .i64 (.x a13), .int .i64 (.x a14), .int .i64 (.x a15), .int .i64 (.x a16), .int .i64 (.x a17), .int .i64 (.x a18), .int .i64 (.x a19)], 0, true, none⟩), (2, ⟨.lit [], 8, true, none⟩)], 3, []⟩
   | .n1 p0 p1 p2 p3 p4 p5 p6 p7 p8 p9 => ⟨[(2, .ptr (some (0, 0))), (3, .ptr (some (1, 0))), (5, .slx 2 8 0 p0 p0), (6, .int .i64 (.x p1))], [(0, ⟨.lit [.int .i64 (.x a0), .int .i64 (.x a1), .int .i64 (.x a2), .int .i64 (.x a3), .int .i64 (.x a4), .int .i64 (.x a5), .int .i64 (.x a6), .int .i64 (.x a7), .int .i64 (.x a8), .int .i64 (.x a9), .int .i64 (.x a10), .int .i64 (.x a11), .int .i64 (.x a12)], 0, true, none⟩), (1, ⟨.lit [.int .i64 (.x a13), .int .i64 (.x a14), .int .i64 (.x a15), .int .i64 (.x a16), .int .i64 (.x a17), .int .i64 (.x a18), .int .i64 (.x a19)], 0, true, none⟩), (2, ⟨.rows p0 8 (fun i => [.int .i64 (.x (p2 i)), .int .i64 (.x (p3 i)), .int .i64 (.x (p4 i)), .int .i64 (.x (p5 i)), .int .i64 (.x (p6 i)), .int .i64 (.x (p7 i)), .int .i64 (.x (p8 i)), .int .i64 (.x (p9 i))]) (fun _ => ⟨rfl, rfl⟩), 8, true, none⟩)], 3, []⟩
  D0 := abtD0 a0 a1 a2 a3 a4 a5 a6 a7 a8 a9 a10 a11 a12 a13 a14 a15 a16 a17 a18 a19
  D := abtD a0 a1 a2 a3 a4 a5 a6 a7 a8 a9 a10 a11 a12 a13 a14 a15 a16 a17 a18 a19
  rc := (fun v => match v with
 | .r0 => .slc (some (0, 0)) 0 0
 | .r1 p0 p1 p2 p3 p4 p5 p6 p7 p8 => .slx 0 8 0 p0 p0)
  rh := (fun v => match v with
 | .r0 => [(0, ⟨.lit [], 8, true, none⟩)]
 | .r1 p0 p1 p2 p3 p4 p5 p6 p7 p8 => [(0, ⟨.rows p0 8 (fun i => [.int .i64 (.x (p1 i)), .int .i64 (.x (p2 i)), .int .i64 (.x (p3 i)), .int .i64 (.x (p4 i)), .int .i64 (.x (p5 i)), .int .i64 (.x (p6 i)), .int .i64 (.x (p7 i)), .int .i64 (.x (p8 i))]) (fun _ => ⟨rfl, rfl⟩), 8, true, none⟩)])
  rn := (fun v => match v with
 | .r0 => 1
 | .r1 p0 p1 p2 p3 p4 p5 p6 p7 p8 => 1)
  rx := (fun v => match v with
 | .r0 => []
 | .r1 p0 p1 p2 p3 p4 p5 p6 p7 p8 => [])
  rgo := (fun _ => none)


theorem abtstart (a0 : Int) (a1 : Int) (a2 : Int) (a3 : Int) (a4 : Int) (a5 : Int) (a6 : Int) (a7 : Int) (a8 : Int) (a9 : Int) (a10 : Int) (a11 : Int) (a12 : Int) (a13 : Int) (a14 : Int) (a15 : Int) (a16 : Int) (a17 : Int) (a18 : Int) (a19 : Int) : AF.edgeOk (abtA a0 a1 a2 a3 a4 a5 a6 a7 a8 a9 a10 a11 a12 a13 a14 a15 a16 a17 a18 a19) (ctxOf Try.prog memo0) (abtD0 a0 a1 a2 a3 a4 a5 a6 a7 a8 a9 a10 a11 a12 a13 a14 a15 a16 a17 a18 a19) (AF.run0 (abtA a0 a1 a2 a3 a4 a5 a6 a7 a8 a9 a10 a11 a12 a13 a14 a15 a16 a17 a18 a19) (ctxOf Try.prog (memoA 73 abeP abeF memo0))) := by unfold AF.edgeOk; kernel_rfl

theorem abtnode0 (a0 : Int) (a1 : Int) (a2 : Int) (a3 : Int) (a4 : Int) (a5 : Int) (a6 : Int) (a7 : Int) (a8 : Int) (a9 : Int) (a10 : Int) (a11 : Int) (a12 : Int) (a13 : Int) (a14 : Int) (a15 : Int) (a16 : Int) (a17 : Int) (a18 : Int) (a19 : Int) : AF.edgeOk (abtA a0 a1 a2 a3 a4 a5 a6 a7 a8 a9 a10 a11 a12 a13 a14 a15 a16 a17 a18 a19) (ctxOf Try.prog memo0) (abtD a0 a1 a2 a3 a4 a5 a6 a7 a8 a9 a10 a11 a12 a13 a14 a15 a16 a17 a18 a19 (.n0)) (AF.runN (abtA a0 a1 a2 a3 a4 a5 a6 a7 a8 a9 a10 a11 a12 a13 a14 a15 a16 a17 a18 a19) (ctxOf Try.prog (memoA 73 abeP abeF memo0)) (.n0)) := by unfold AF.edgeOk; kernel_rfl

theorem abtnode1 (a0 : Int) (a1 : Int) (a2 : Int) (a3 : Int) (a4 : Int) (a5 : Int) (a6 : Int) (a7 : Int) (a8 : Int) (a9 : Int) (a10 : Int) (a11 : Int) (a12 : Int) (a13 : Int) (a14 : Int) (a15 : Int) (a16 : Int) (a17 : Int) (a18 : Int) (a19 : Int) (p0 : Nat) (p1 : Int) (p2 : Nat → Int) (p3 : Nat → Int) (p4 : Nat → Int) (p5 : Nat → Int) (p6 : Nat → Int) (p7 : Nat → Int) (p8 : Nat → Int) (p9 : Nat → Int) : AF.edgeOk (abtA a0 a1 a2 a3 a4 a5 a6 a7 a8 a9 a10 a11 a12 a13 a14 a15 a16 a17 a18 a19) (ctxOf Try.prog memo0) (abtD a0 a1 a2 a3 a4 a5 a6 a7 a8 a9 a10 a11 a12 a13 a14 a15 a16 a17 a18 a19 (.n1 p0 p1 p2 p3 p4 p5 p6 p7 p8 p9)) (AF.runN (abtA a0 a1 a2 a3 a4 a5 a6 a7 a8 a9 a10 a11 a12 a13 a14 a15 a16 a17 a18 a19) (ctxOf Try.prog (memoA 73 abeP abeF memo0)) (.n1 p0 p1 p2 p3 p4 p5 p6 p7 p8 p9)) := by unfold AF.edgeOk; kernel_rfl

theorem abtok (a0 : Int) (a1 : Int) (a2 : Int) (a3 : Int) (a4 : Int) (a5 : Int) (a6 : Int) (a7 : Int) (a8 : Int) (a9 : Int) (a10 : Int) (a11 : Int) (a12 : Int) (a13 : Int) (a14 : Int) (a15 : Int) (a16 : Int) (a17 : Int) (a18 : Int) (a19 : Int) : (abtA a0 a1 a2 a3 a4 a5 a6 a7 a8 a9 a10 a11 a12 a13 a14 a15 a16 a17 a18 a19).Ok Try.prog (ctxOf Try.prog (memoA 73 abeP abeF memo0)) where
  regs := by kernel_rfl
  h0 := by kernel_rfl
  start := abtstart a0 a1 a2 a3 a4 a5 a6 a7 a8 a9 a10 a11 a12 a13 a14 a15 a16 a17 a18 a19
  node := fun a _ => match a with
   | .n0 => abtnode0 a0 a1 a2 a3 a4 a5 a6 a7 a8 a9 a10 a11 a12 a13 a14 a15 a16 a17 a18 a19
   | .n1 p0 p1 p2 p3 p4 p5 p6 p7 p8 p9 => abtnode1 a0 a1 a2 a3 a4 a5 a6 a7 a8 a9 a10 a11 a12 a13 a14 a15 a16 a17 a18 a19 p0 p1 p2 p3 p4 p5 p6 p7 p8 p9
  pd := fun a => match a with
   | .n0 => ⟨(fa_cons rfl (fa_cons rfl (fa_cons rfl (fa_cons rfl fa_nil)))), (fa_cons ⟨.inl (Nat.le_of_ble_eq_true rfl), rfl, rfl⟩ (fa_cons ⟨.inl (Nat.le_of_ble_eq_true rfl), rfl, rfl⟩ (fa_cons ⟨.inl (Nat.le_of_ble_eq_true rfl), rfl, rfl⟩ fa_nil))), fa_nil, rfl⟩
   | .n1 p0 p1 p2 p3 p4 p5 p6 p7 p8 p9 => ⟨(fa_cons rfl (fa_cons rfl (fa_cons rfl (fa_cons rfl fa_nil)))), (fa_cons ⟨.inl (Nat.le_of_ble_eq_true rfl), rfl, rfl⟩ (fa_cons ⟨.inl (Nat.le_of_ble_eq_true rfl), rfl, rfl⟩ (fa_cons ⟨.inl (Nat.le_of_ble_eq_true rfl), (fun _ => rfl), rfl⟩ fa_nil))), fa_nil, rfl⟩
  le := fun a => match a with
   | .n0 => Nat.le_of_ble_eq_true rfl
   | .n1 p0 p1 p2 p3 p4 p5 p6 p7 p8 p9 => Nat.le_of_ble_eq_true rfl
  rd := fun v => match v with
   | .r0 => ⟨⟨fa_nil, (fa_cons ⟨.inl (Nat.le_of_ble_eq_true rfl), rfl, rfl⟩ fa_nil), fa_nil, rfl⟩, rfl⟩
   | .r1 p0 p1 p2 p3 p4 p5 p6 p7 p8 => ⟨⟨fa_nil, (fa_cons ⟨.inl (Nat.le_of_ble_eq_true rfl), (fun _ => rfl), rfl⟩ fa_nil), fa_nil, rfl⟩, rfl⟩
  wb := rfl


theorem abthR {ρ : Env} (a0 : Int) (a1 : Int) (a2 : Int) (a3 : Int) (a4 : Int) (a5 : Int) (a6 : Int) (a7 : Int) (a8 : Int) (a9 : Int) (a10 : Int) (a11 : Int) (a12 : Int) (a13 : Int) (a14 : Int) (a15 : Int) (a16 : Int) (a17 : Int) (a18 : Int) (a19 : Int) (hM : MemoOk Try.prog (ctxOf Try.prog (memoA 73 abeP abeF memo0)) ρ) : ∀ X a q n D, FxOk ρ X → X.base = (abtA a0 a1 a2 a3 a4 a5 a6 a7 a8 a9 a10 a11 a12 a13 a14 a15 a16 a17 a18 a19).base → X.nt = (abtA a0 a1 a2 a3 a4 a5 a6 a7 a8 a9 a10 a11 a12 a13 a14 a15 a16 a17 a18 a19).nt → X.W = (abtA a0 a1 a2 a3 a4 a5 a6 a7 a8 a9 a10 a11 a12 a13 a14 a15 a16 a17 a18 a19).W → (abtA a0 a1 a2 a3 a4 a5 a6 a7 a8 a9 a10 a11 a12 a13 a14 a15 a16 a17 a18 a19).rgo a = some q → q n = some D → (abtA a0 a1 a2 a3 a4 a5 a6 a7 a8 a9 a10 a11 a12 a13 a14 a15 a16 a17 a18 a19).RangeOk Try.prog ρ X a D := AF.noRange rfl

theorem abtctr {ρ : Env} (a0 : Int) (a1 : Int) (a2 : Int) (a3 : Int) (a4 : Int) (a5 : Int) (a6 : Int) (a7 : Int) (a8 : Int) (a9 : Int) (a10 : Int) (a11 : Int) (a12 : Int) (a13 : Int) (a14 : Int) (a15 : Int) (a16 : Int) (a17 : Int) (a18 : Int) (a19 : Int) {n : Nat} {v : abtR} (hM : MemoOk Try.prog (ctxOf Try.prog (memoA 73 abeP abeF memo0)) ρ) (hv : (abtA a0 a1 a2 a3 a4 a5 a6 a7 a8 a9 a10 a11 a12 a13 a14 a15 a16 a17 a18 a19).run n = some v) :
    Ctr Try.prog ρ 31 (abtA a0 a1 a2 a3 a4 a5 a6 a7 a8 a9 a10 a11 a12 a13 a14 a15 a16 a17 a18 a19).args (abtA a0 a1 a2 a3 a4 a5 a6 a7 a8 a9 a10 a11 a12 a13 a14 a15 a16 a17 a18 a19).H0 (abtA a0 a1 a2 a3 a4 a5 a6 a7 a8 a9 a10 a11 a12 a13 a14 a15 a16 a17 a18 a19).base (abtA a0 a1 a2 a3 a4 a5 a6 a7 a8 a9 a10 a11 a12 a13 a14 a15 a16 a17 a18 a19).W ((abtA a0 a1 a2 a3 a4 a5 a6 a7 a8 a9 a10 a11 a12 a13 a14 a15 a16 a17 a18 a19).rc v) (putH (abtA a0 a1 a2 a3 a4 a5 a6 a7 a8 a9 a10 a11 a12 a13 a14 a15 a16 a17 a18 a19).H0 ((abtA a0 a1 a2 a3 a4 a5 a6 a7 a8 a9 a10 a11 a12 a13 a14 a15 a16 a17 a18 a19).rh v ++ (abtA a0 a1 a2 a3 a4 a5 a6 a7 a8 a9 a10 a11 a12 a13 a14 a15 a16 a17 a18 a19).rx v)) ((abtA a0 a1 a2 a3 a4 a5 a6 a7 a8 a9 a10 a11 a12 a13 a14 a15 a16 a17 a18 a19).rn v) :=
  AF.ctr try_ok hM (abtok a0 a1 a2 a3 a4 a5 a6 a7 a8 a9 a10 a11 a12 a13 a14 a15 a16 a17 a18 a19) (fn := Try.f31) Try.func31 rfl rfl (Nat.le_of_ble_eq_true rfl) rfl (abthR a0 a1 a2 a3 a4 a5 a6 a7 a8 a9 a10 a11 a12 a13 a14 a15 a16 a17 a18 a19 hM) hv


abbrev abtP : List AQ := [.agg [.int .i64, .int .i64, .int .i64, .int .i64, .int .i64, .int .i64, .int .i64, .int .i64, .int .i64, .int .i64, .int .i64, .int .i64, .int .i64], .agg [.int .i64, .int .i64, .int .i64, .int .i64, .int .i64, .int .i64, .int .i64]]

noncomputable def abtF (v : AW) : AF abtN abtR := abtA (v.i.getD 0 0) (v.i.getD 1 0) (v.i.getD 2 0) (v.i.getD 3 0) (v.i.getD 4 0) (v.i.getD 5 0) (v.i.getD 6 0) (v.i.getD 7 0) (v.i.getD 8 0) (v.i.getD 9 0) (v.i.getD 10 0) (v.i.getD 11 0) (v.i.getD 12 0) (v.i.getD 13 0) (v.i.getD 14 0) (v.i.getD 15 0) (v.i.getD 16 0) (v.i.getD 17 0) (v.i.getD 18 0) (v.i.getD 19 0)

def abtw0 : abtR → Nat
  | .r0 => 0
  | .r1 p0 p1 p2 p3 p4 p5 p6 p7 p8 => p0

def abtw1 : abtR → (Nat → Int)
  | .r0 => fun _ => 0
  | .r1 p0 p1 p2 p3 p4 p5 p6 p7 p8 => p1

def abtw2 : abtR → (Nat → Int)
  | .r0 => fun _ => 0
  | .r1 p0 p1 p2 p3 p4 p5 p6 p7 p8 => p2

def abtw3 : abtR → (Nat → Int)
  | .r0 => fun _ => 0
  | .r1 p0 p1 p2 p3 p4 p5 p6 p7 p8 => p3

def abtw4 : abtR → (Nat → Int)
  | .r0 => fun _ => 0
  | .r1 p0 p1 p2 p3 p4 p5 p6 p7 p8 => p4

def abtw5 : abtR → (Nat → Int)
  | .r0 => fun _ => 0
  | .r1 p0 p1 p2 p3 p4 p5 p6 p7 p8 => p5

def abtw6 : abtR → (Nat → Int)
  | .r0 => fun _ => 0
  | .r1 p0 p1 p2 p3 p4 p5 p6 p7 p8 => p6

def abtw7 : abtR → (Nat → Int)
  | .r0 => fun _ => 0
  | .r1 p0 p1 p2 p3 p4 p5 p6 p7 p8 => p7

def abtw8 : abtR → (Nat → Int)
  | .r0 => fun _ => 0
  | .r1 p0 p1 p2 p3 p4 p5 p6 p7 p8 => p8

noncomputable def abtW : abtR → CV := fun v => .sla 0 8 0 ((abtw0 v))
noncomputable def abtH : abtR → List (Nat × Blk) := fun v => [(0, ⟨.rows ((abtw0 v)) 8 (fun i => [.int .i64 (.x ((abtw1 v) i)), .int .i64 (.x ((abtw2 v) i)), .int .i64 (.x ((abtw3 v) i)), .int .i64 (.x ((abtw4 v) i)), .int .i64 (.x ((abtw5 v) i)), .int .i64 (.x ((abtw6 v) i)), .int .i64 (.x ((abtw7 v) i)), .int .i64 (.x ((abtw8 v) i))]) (fun _ => ⟨rfl, rfl⟩), 8, true, none⟩)]

instance : Inhabited abtR := ⟨.r0⟩
theorem abtknown {ρ : Env} (hM : MemoOk Try.prog (ctxOf Try.prog (memoA 73 abeP abeF memo0)) ρ) : KnownS Try.prog ρ 31 abtP abtF abtW abtH 1 where
  fn := ⟨Try.f31, Try.func31, rfl⟩
  le := Nat.le_of_ble_eq_true rfl
  full := fun r => rfl
  rg := fun r => rfl
  hg := fun r => (fa_cons ⟨fun _ => rfl, rfl⟩ fa_nil)
  ctr := fun v n r h => match r, h with
    | .r0, h => Ctr.forget (abtctr (v.i.getD 0 0) (v.i.getD 1 0) (v.i.getD 2 0) (v.i.getD 3 0) (v.i.getD 4 0) (v.i.getD 5 0) (v.i.getD 6 0) (v.i.getD 7 0) (v.i.getD 8 0) (v.i.getD 9 0) (v.i.getD 10 0) (v.i.getD 11 0) (v.i.getD 12 0) (v.i.getD 13 0) (v.i.getD 14 0) (v.i.getD 15 0) (v.i.getD 16 0) (v.i.getD 17 0) (v.i.getD 18 0) (v.i.getD 19 0) hM h) (Nat.le_of_ble_eq_true rfl) (Nat.le_of_ble_eq_true rfl) (fun _ _ h => h.empty_sla) (fun b h1 h2 k hk => by
      obtain rfl : b = 0 := Nat.le_antisymm (Nat.le_of_lt_succ h2) h1
      have hk := Option.some.inj hk
      subst hk
      exact ⟨_, rfl, rfl, rfl, rfl, rfl, rfl⟩)
    | .r1 p0 p1 p2 p3 p4 p5 p6 p7 p8, h => Ctr.weaken (abtctr (v.i.getD 0 0) (v.i.getD 1 0) (v.i.getD 2 0) (v.i.getD 3 0) (v.i.getD 4 0) (v.i.getD 5 0) (v.i.getD 6 0) (v.i.getD 7 0) (v.i.getD 8 0) (v.i.getD 9 0) (v.i.getD 10 0) (v.i.getD 11 0) (v.i.getD 12 0) (v.i.getD 13 0) (v.i.getD 14 0) (v.i.getD 15 0) (v.i.getD 16 0) (v.i.getD 17 0) (v.i.getD 18 0) (v.i.getD 19 0) hM h) (Nat.le_of_ble_eq_true rfl) (Nat.le_of_ble_eq_true rfl) (fun σ => (fun _ h => h.as_sla)) (fun b h1 h2 => rfl)

end Go.Proofs.Ytgnmdknbnkljbaa.Cx

/- acmeref09.Truths yields 256 truths, each cell of which is an end of its span, by a bit of its number. -/
namespace Go.Proofs.Ytgnmdknbnkljbaa.Cx
set_option linter.unusedVariables false
set_option linter.unusedSimpArgs false
set_option maxRecDepth 100000
open Go Go.RowKit

def bitB (k b : Int) : Bool := Cm.run Cm.eql (Ar.run Ar.and IntKind.i64 (Ar.run Ar.shr IntKind.i64 k (Ar.run Ar.conv IntKind.u64 b 0)) 1) 1
def endB (lo hi : Int) (i : Nat) (b : Int) : Int := bif bitB i b then hi else lo

theorem abe_val (lo hi k b : Int) (hb : Cm.run Cm.geq (Ar.run Ar.conv IntKind.u64 b 0) 0 = true) : AF.fin (abeA lo hi k b) = true ∧ AF.val (abeA lo hi k b) = (bif bitB k b then hi else lo) :=
  AF.val_sat (Inv := fun _ => False) (E := fun v => v = (bif bitB k b then hi else lo)) (fun _ => 0) (fun _ => rfl) (fun a => nomatch a) (by
    show DD.sat _ _ (abeD0 lo hi k b)
    refine ⟨hb, fun h => ?_, fun h => ?_⟩
    · show hi = _
      unfold bitB; rw [h]; rfl
    · show lo = _
      unfold bitB; rw [h]; rfl)

structure TruOk (a3 a4 a5 a6 a7 a8 a9 a10 a11 a12 a14 a15 a16 a17 a18 a19 : Int) (n : Nat) (c1 c2 c3 c4 c5 c6 c7 c8 : Nat → Int) : Prop where
  c1 : ∀ i, i < n → c1 i = endB a3 a4 i 0
  c2 : ∀ i, i < n → c2 i = endB a5 a6 i 1
  c3 : ∀ i, i < n → c3 i = endB a7 a8 i 2
  c4 : ∀ i, i < n → c4 i = endB a9 a10 i 3
  c5 : ∀ i, i < n → c5 i = endB a11 a12 i 4
  c6 : ∀ i, i < n → c6 i = endB a14 a15 i 5
  c7 : ∀ i, i < n → c7 i = endB a16 a17 i 6
  c8 : ∀ i, i < n → c8 i = endB a18 a19 i 7

theorem col_next {p : Nat → Int} {lo hi b : Int} {n : Nat} {k : Int} (hk : k = (n : Int)) (h : ∀ i, i < n → p i = endB lo hi i b) {x : Int} (hx : x = (bif bitB k b then hi else lo)) : ∀ i, i < n + 1 → (bif Nat.blt i n then p (0 + i) else x) = endB lo hi i b := by
  intro i hi
  cases hb : Nat.blt i n with
  | true => rw [cond_true, Nat.zero_add]; exact h i (Nat.lt_of_succ_le (Nat.le_of_ble_eq_true hb))
  | false =>
    have : i = n := by
      have : ¬ i < n := by intro hlt; have := Nat.ble_eq_true_of_le hlt; rw [Nat.blt] at hb; rw [this] at hb; cases hb
      omega
    subst this
    rw [cond_false, hx, hk]; rfl

section
variable (a0 a1 a2 a3 a4 a5 a6 a7 a8 a9 a10 a11 a12 a13 a14 a15 a16 a17 a18 a19 : Int)

def abtInv : abtN → Prop
  | .n0 => True
  | .n1 p0 p1 p2 p3 p4 p5 p6 p7 p8 p9 => p1 = (p0 : Int) ∧ 1 ≤ p0 ∧ p0 ≤ 256 ∧ TruOk a3 a4 a5 a6 a7 a8 a9 a10 a11 a12 a14 a15 a16 a17 a18 a19 p0 p2 p3 p4 p5 p6 p7 p8 p9

def abtMu : abtN → Nat
  | .n0 => 300
  | .n1 p0 _ _ _ _ _ _ _ _ _ => 256 - p0

def abtPost (v : abtR) : Prop := abtw0 v = 256 ∧ TruOk a3 a4 a5 a6 a7 a8 a9 a10 a11 a12 a14 a15 a16 a17 a18 a19 256 (abtw1 v) (abtw2 v) (abtw3 v) (abtw4 v) (abtw5 v) (abtw6 v) (abtw7 v) (abtw8 v)

theorem abt_val : AF.fin (abtA a0 a1 a2 a3 a4 a5 a6 a7 a8 a9 a10 a11 a12 a13 a14 a15 a16 a17 a18 a19) = true ∧ abtPost a3 a4 a5 a6 a7 a8 a9 a10 a11 a12 a14 a15 a16 a17 a18 a19 (AF.val (abtA a0 a1 a2 a3 a4 a5 a6 a7 a8 a9 a10 a11 a12 a13 a14 a15 a16 a17 a18 a19)) := by
  have f0 := fun lo hi k => abe_val lo hi k 0 (by decide)
  have f1 := fun lo hi k => abe_val lo hi k 1 (by decide)
  have f2 := fun lo hi k => abe_val lo hi k 2 (by decide)
  have f3 := fun lo hi k => abe_val lo hi k 3 (by decide)
  have f4 := fun lo hi k => abe_val lo hi k 4 (by decide)
  have f5 := fun lo hi k => abe_val lo hi k 5 (by decide)
  have f6 := fun lo hi k => abe_val lo hi k 6 (by decide)
  have f7 := fun lo hi k => abe_val lo hi k 7 (by decide)
  have one : ∀ {lo hi x b : Int}, x = (bif bitB 0 b then hi else lo) → ∀ i, i < 1 → x = endB lo hi i b := fun hx i hi => by
    obtain rfl : i = 0 := by omega
    exact hx
  refine AF.val_sat (Inv := abtInv a3 a4 a5 a6 a7 a8 a9 a10 a11 a12 a14 a15 a16 a17 a18 a19) (E := abtPost a3 a4 a5 a6 a7 a8 a9 a10 a11 a12 a14 a15 a16 a17 a18 a19) abtMu (fun _ => rfl) (fun a hI => ?_) trivial
  cases a with
  | n0 =>
    refine ⟨fun _ => ⟨(f0 _ _ _).1, (f1 _ _ _).1, (f2 _ _ _).1, (f3 _ _ _).1, (f4 _ _ _).1, (f5 _ _ _).1, (f6 _ _ _).1, (f7 _ _ _).1, ?_, ?_⟩, fun h => by cases h⟩
    · exact ⟨rfl, Nat.le_refl _, by omega, ⟨one (f0 _ _ _).2, one (f1 _ _ _).2, one (f2 _ _ _).2, one (f3 _ _ _).2, one (f4 _ _ _).2, one (f5 _ _ _).2, one (f6 _ _ _).2, one (f7 _ _ _).2⟩⟩
    · show 256 - 1 < 300
      omega
  | n1 p0 p1 p2 p3 p4 p5 p6 p7 p8 p9 =>
    obtain ⟨h1, h2, h3, h4⟩ := hI
    refine ⟨fun h => ?_, fun h => ?_⟩
    · have h := cmLss.1 h
      have e : Ar.run Ar.add IntKind.i64 p1 1 = ((p0 + 1 : Nat) : Int) := by rw [arAdd (by omega)]; omega
      refine ⟨(f0 _ _ _).1, (f1 _ _ _).1, (f2 _ _ _).1, (f3 _ _ _).1, (f4 _ _ _).1, (f5 _ _ _).1, (f6 _ _ _).1, (f7 _ _ _).1, decide_eq_true (by omega), decide_eq_true (by omega), ⟨e, by omega, by omega, ?_⟩, ?_⟩
      · exact ⟨col_next h1 h4.c1 (f0 _ _ _).2, col_next h1 h4.c2 (f1 _ _ _).2, col_next h1 h4.c3 (f2 _ _ _).2, col_next h1 h4.c4 (f3 _ _ _).2, col_next h1 h4.c5 (f4 _ _ _).2, col_next h1 h4.c6 (f5 _ _ _).2, col_next h1 h4.c7 (f6 _ _ _).2, col_next h1 h4.c8 (f7 _ _ _).2⟩
      · show 256 - (p0 + 1) < 256 - p0
        omega
    · have h := cmLssF.1 h
      obtain rfl : p0 = 256 := by omega
      exact ⟨rfl, h4⟩
end
end Go.Proofs.Ytgnmdknbnkljbaa.Cx

/- acme/acmeref09.Force as an automaton. Made by tools/cxauto.py. -/
namespace Go.Proofs.Ytgnmdknbnkljbaa.Cx
set_option linter.unusedVariables false
set_option linter.unusedSimpArgs false
set_option maxRecDepth 100000
open Go Go.Proofs Go.RowKit

noncomputable abbrev abfCode : Code := funcCode Try.f60


abbrev abfN := Empty

abbrev abfR := Int

noncomputable def abfD0 (a0 : Int) (a1 : Int) (a2 : Int) (a3 : Int) (a4 : Int) (a5 : Int) (a6 : Int) (a7 : Int) (a8 : Int) (a9 : Int) (a10 : Int) (a11 : Int) (a12 : Int) (a13 : Int) (a14 : Int) (a15 : Int) (a16 : Int) (a17 : Int) (a18 : Int) (a19 : Int) (a20 : Int) (a21 : Int) : DD (Lf abfN abfR) :=
 .ask (Cm.run Cm.eql a13 3)
   (.leaf (.done (Ar.run Ar.mul IntKind.i64 a17 a21) []))
   (.must (Cm.run Cm.neq (Ar.run Ar.add IntKind.i64 (Ar.run Ar.add IntKind.i64 (Ar.run Ar.mul IntKind.i64 1000 a0) (Ar.run Ar.mul IntKind.i64 a1 a14)) (Ar.run Ar.mul IntKind.i64 a2 a15)) 0)
   (.ask (Cm.run Cm.eql a13 2)
   (.leaf (.done (Ar.run Ar.add IntKind.i64 (Ar.run Ar.quo IntKind.i64 (Ar.run Ar.mul IntKind.i64 1000 a19) (Ar.run Ar.add IntKind.i64 (Ar.run Ar.add IntKind.i64 (Ar.run Ar.mul IntKind.i64 1000 a0) (Ar.run Ar.mul IntKind.i64 a1 a14)) (Ar.run Ar.mul IntKind.i64 a2 a15))) (Ar.run Ar.quo IntKind.i64 (Ar.run Ar.mul IntKind.i64 a16 a20) 1000)) []))
   (.leaf (.done (Ar.run Ar.quo IntKind.i64 (Ar.run Ar.mul IntKind.i64 1000 a19) (Ar.run Ar.add IntKind.i64 (Ar.run Ar.add IntKind.i64 (Ar.run Ar.mul IntKind.i64 1000 a0) (Ar.run Ar.mul IntKind.i64 a1 a14)) (Ar.run Ar.mul IntKind.i64 a2 a15))) []))))

noncomputable def abfD (a0 : Int) (a1 : Int) (a2 : Int) (a3 : Int) (a4 : Int) (a5 : Int) (a6 : Int) (a7 : Int) (a8 : Int) (a9 : Int) (a10 : Int) (a11 : Int) (a12 : Int) (a13 : Int) (a14 : Int) (a15 : Int) (a16 : Int) (a17 : Int) (a18 : Int) (a19 : Int) (a20 : Int) (a21 : Int) : abfN → DD (Lf abfN abfR) := fun a => nomatch a

noncomputable def abfA (a0 : Int) (a1 : Int) (a2 : Int) (a3 : Int) (a4 : Int) (a5 : Int) (a6 : Int) (a7 : Int) (a8 : Int) (a9 : Int) (a10 : Int) (a11 : Int) (a12 : Int) (a13 : Int) (a14 : Int) (a15 : Int) (a16 : Int) (a17 : Int) (a18 : Int) (a19 : Int) (a20 : Int) (a21 : Int) : AF abfN abfR where
  code := abfCode
  base := 0
  nt := 34
  m := 400
  un := []
  W := []
  h0 := []
  args := [.agg [.int .i64 (.x a0), .int .i64 (.x a1), .int .i64 (.x a2), .int .i64 (.x a3), .int .i64 (.x a4), .int .i64 (.x a5), .int .i64 (.x a6), .int .i64 (.x a7), .int .i64 (.x a8), .int .i64 (.x a9), .int .i64 (.x a10), .int .i64 (.x a11), .int .i64 (.x a12)], .int .i64 (.x a13), .agg [.int .i64 (.x a14), .int .i64 (.x a15), .int .i64 (.x a16), .int .i64 (.x a17), .int .i64 (.x a18), .int .i64 (.x a19), .int .i64 (.x a20), .int .i64 (.x a21)]]
  res := (Try.f60).results.toList
  path := fun a => nomatch a
  pd := fun a => nomatch a
  D0 := abfD0 a0 a1 a2 a3 a4 a5 a6 a7 a8 a9 a10 a11 a12 a13 a14 a15 a16 a17 a18 a19 a20 a21
  D := abfD a0 a1 a2 a3 a4 a5 a6 a7 a8 a9 a10 a11 a12 a13 a14 a15 a16 a17 a18 a19 a20 a21
  rc := (fun v => .int .i64 (.x v))
  rh := (fun v => [])
  rn := (fun v => 0)
  rx := (fun v => [])
  rgo := (fun _ => none)


theorem abfstart (a0 : Int) (a1 : Int) (a2 : Int) (a3 : Int) (a4 : Int) (a5 : Int) (a6 : Int) (a7 : Int) (a8 : Int) (a9 : Int) (a10 : Int) (a11 : Int) (a12 : Int) (a13 : Int) (a14 : Int) (a15 : Int) (a16 : Int) (a17 : Int) (a18 : Int) (a19 : Int) (a20 : Int) (a21 : Int) : AF.edgeOk (abfA a0 a1 a2 a3 a4 a5 a6 a7 a8 a9 a10 a11 a12 a13 a14 a15 a16 a17 a18 a19 a20 a21) (ctxOf Try.prog memo0) (abfD0 a0 a1 a2 a3 a4 a5 a6 a7 a8 a9 a10 a11 a12 a13 a14 a15 a16 a17 a18 a19 a20 a21) (AF.run0 (abfA a0 a1 a2 a3 a4 a5 a6 a7 a8 a9 a10 a11 a12 a13 a14 a15 a16 a17 a18 a19 a20 a21) (ctxOf Try.prog memo0)) := by unfold AF.edgeOk; kernel_rfl

theorem abfok (a0 : Int) (a1 : Int) (a2 : Int) (a3 : Int) (a4 : Int) (a5 : Int) (a6 : Int) (a7 : Int) (a8 : Int) (a9 : Int) (a10 : Int) (a11 : Int) (a12 : Int) (a13 : Int) (a14 : Int) (a15 : Int) (a16 : Int) (a17 : Int) (a18 : Int) (a19 : Int) (a20 : Int) (a21 : Int) : (abfA a0 a1 a2 a3 a4 a5 a6 a7 a8 a9 a10 a11 a12 a13 a14 a15 a16 a17 a18 a19 a20 a21).Ok Try.prog (ctxOf Try.prog memo0) where
  regs := by kernel_rfl
  h0 := by kernel_rfl
  start := abfstart a0 a1 a2 a3 a4 a5 a6 a7 a8 a9 a10 a11 a12 a13 a14 a15 a16 a17 a18 a19 a20 a21
  node := fun a _ => nomatch a
  pd := fun a => nomatch a
  le := fun a => nomatch a
  rd := fun v => ⟨⟨fa_nil, fa_nil, fa_nil, rfl⟩, rfl⟩
  wb := rfl


theorem abfhR {ρ : Env} (a0 : Int) (a1 : Int) (a2 : Int) (a3 : Int) (a4 : Int) (a5 : Int) (a6 : Int) (a7 : Int) (a8 : Int) (a9 : Int) (a10 : Int) (a11 : Int) (a12 : Int) (a13 : Int) (a14 : Int) (a15 : Int) (a16 : Int) (a17 : Int) (a18 : Int) (a19 : Int) (a20 : Int) (a21 : Int) (hM : MemoOk Try.prog (ctxOf Try.prog memo0) ρ) : ∀ X a q n D, FxOk ρ X → X.base = (abfA a0 a1 a2 a3 a4 a5 a6 a7 a8 a9 a10 a11 a12 a13 a14 a15 a16 a17 a18 a19 a20 a21).base → X.nt = (abfA a0 a1 a2 a3 a4 a5 a6 a7 a8 a9 a10 a11 a12 a13 a14 a15 a16 a17 a18 a19 a20 a21).nt → X.W = (abfA a0 a1 a2 a3 a4 a5 a6 a7 a8 a9 a10 a11 a12 a13 a14 a15 a16 a17 a18 a19 a20 a21).W → (abfA a0 a1 a2 a3 a4 a5 a6 a7 a8 a9 a10 a11 a12 a13 a14 a15 a16 a17 a18 a19 a20 a21).rgo a = some q → q n = some D → (abfA a0 a1 a2 a3 a4 a5 a6 a7 a8 a9 a10 a11 a12 a13 a14 a15 a16 a17 a18 a19 a20 a21).RangeOk Try.prog ρ X a D := AF.noRange rfl

theorem abfctr {ρ : Env} (a0 : Int) (a1 : Int) (a2 : Int) (a3 : Int) (a4 : Int) (a5 : Int) (a6 : Int) (a7 : Int) (a8 : Int) (a9 : Int) (a10 : Int) (a11 : Int) (a12 : Int) (a13 : Int) (a14 : Int) (a15 : Int) (a16 : Int) (a17 : Int) (a18 : Int) (a19 : Int) (a20 : Int) (a21 : Int) {n : Nat} {v : abfR} (hM : MemoOk Try.prog (ctxOf Try.prog memo0) ρ) (hv : (abfA a0 a1 a2 a3 a4 a5 a6 a7 a8 a9 a10 a11 a12 a13 a14 a15 a16 a17 a18 a19 a20 a21).run n = some v) :
    Ctr Try.prog ρ 60 (abfA a0 a1 a2 a3 a4 a5 a6 a7 a8 a9 a10 a11 a12 a13 a14 a15 a16 a17 a18 a19 a20 a21).args (abfA a0 a1 a2 a3 a4 a5 a6 a7 a8 a9 a10 a11 a12 a13 a14 a15 a16 a17 a18 a19 a20 a21).H0 (abfA a0 a1 a2 a3 a4 a5 a6 a7 a8 a9 a10 a11 a12 a13 a14 a15 a16 a17 a18 a19 a20 a21).base (abfA a0 a1 a2 a3 a4 a5 a6 a7 a8 a9 a10 a11 a12 a13 a14 a15 a16 a17 a18 a19 a20 a21).W ((abfA a0 a1 a2 a3 a4 a5 a6 a7 a8 a9 a10 a11 a12 a13 a14 a15 a16 a17 a18 a19 a20 a21).rc v) (putH (abfA a0 a1 a2 a3 a4 a5 a6 a7 a8 a9 a10 a11 a12 a13 a14 a15 a16 a17 a18 a19 a20 a21).H0 ((abfA a0 a1 a2 a3 a4 a5 a6 a7 a8 a9 a10 a11 a12 a13 a14 a15 a16 a17 a18 a19 a20 a21).rh v ++ (abfA a0 a1 a2 a3 a4 a5 a6 a7 a8 a9 a10 a11 a12 a13 a14 a15 a16 a17 a18 a19 a20 a21).rx v)) ((abfA a0 a1 a2 a3 a4 a5 a6 a7 a8 a9 a10 a11 a12 a13 a14 a15 a16 a17 a18 a19 a20 a21).rn v) :=
  AF.ctr try_ok hM (abfok a0 a1 a2 a3 a4 a5 a6 a7 a8 a9 a10 a11 a12 a13 a14 a15 a16 a17 a18 a19 a20 a21) (fn := Try.f60) Try.func60 rfl rfl (Nat.le_of_ble_eq_true rfl) rfl (abfhR a0 a1 a2 a3 a4 a5 a6 a7 a8 a9 a10 a11 a12 a13 a14 a15 a16 a17 a18 a19 a20 a21 hM) hv


abbrev abfP : List AP := [.agg [.int .i64, .int .i64, .int .i64, .int .i64, .int .i64, .int .i64, .int .i64, .int .i64, .int .i64, .int .i64, .int .i64, .int .i64, .int .i64], .int .i64, .agg [.int .i64, .int .i64, .int .i64, .int .i64, .int .i64, .int .i64, .int .i64, .int .i64]]
noncomputable def abfF (v : AV) : AF abfN abfR := abfA (v.i.getD 0 0) (v.i.getD 1 0) (v.i.getD 2 0) (v.i.getD 3 0) (v.i.getD 4 0) (v.i.getD 5 0) (v.i.getD 6 0) (v.i.getD 7 0) (v.i.getD 8 0) (v.i.getD 9 0) (v.i.getD 10 0) (v.i.getD 11 0) (v.i.getD 12 0) (v.i.getD 13 0) (v.i.getD 14 0) (v.i.getD 15 0) (v.i.getD 16 0) (v.i.getD 17 0) (v.i.getD 18 0) (v.i.getD 19 0) (v.i.getD 20 0) (v.i.getD 21 0)
theorem abfknown {ρ : Env} (hM : MemoOk Try.prog (ctxOf Try.prog memo0) ρ) : KnownA Try.prog ρ 60 abfP abfF where
  fn := ⟨Try.f60, Try.func60, rfl⟩
  args := fun v => rfl
  plain := fun v r => rfl
  ctr := fun v n r h => abfctr (v.i.getD 0 0) (v.i.getD 1 0) (v.i.getD 2 0) (v.i.getD 3 0) (v.i.getD 4 0) (v.i.getD 5 0) (v.i.getD 6 0) (v.i.getD 7 0) (v.i.getD 8 0) (v.i.getD 9 0) (v.i.getD 10 0) (v.i.getD 11 0) (v.i.getD 12 0) (v.i.getD 13 0) (v.i.getD 14 0) (v.i.getD 15 0) (v.i.getD 16 0) (v.i.getD 17 0) (v.i.getD 18 0) (v.i.getD 19 0) (v.i.getD 20 0) (v.i.getD 21 0) hM h

end Go.Proofs.Ytgnmdknbnkljbaa.Cx

/- acme/acmeref09.Forces as an automaton. Made by tools/cxauto.py. -/
namespace Go.Proofs.Ytgnmdknbnkljbaa.Cx
set_option linter.unusedVariables false
set_option linter.unusedSimpArgs false
set_option maxRecDepth 100000
open Go Go.Proofs Go.RowKit

noncomputable abbrev abgCode : Code := funcCode Try.f19


inductive abgN where
  | n0 (p0 : Nat) (p1 : Nat → Int) (p2 : Nat → Int) (p3 : Nat → Int) (p4 : Nat → Int) (p5 : Nat → Int) (p6 : Nat → Int) (p7 : Nat → Int) (p8 : Nat → Int)
  | n1 (p0 : Nat) (p1 : Bool) (p2 : Bool) (p3 : Int) (p4 : Nat) (p5 : Nat → Int) (p6 : Nat → Int) (p7 : Nat → Int) (p8 : Nat → Int) (p9 : Nat → Int) (p10 : Nat → Int) (p11 : Nat → Int) (p12 : Nat → Int) (p13 : Int) (p14 : Int)

abbrev abgR := Int × Int × Bool × Bool

noncomputable def abgD0 (a0 : Int) (a1 : Int) (a2 : Int) (a3 : Int) (a4 : Int) (a5 : Int) (a6 : Int) (a7 : Int) (a8 : Int) (a9 : Int) (a10 : Int) (a11 : Int) (a12 : Int) (a13 : Int) (a14 : Int) (a15 : Int) (a16 : Int) (a17 : Int) (a18 : Int) (a19 : Int) : DD (Lf abgN abgR) :=
 .must (AF.fin (abtA a0 a1 a2 a3 a4 a5 a6 a7 a8 a9 a10 a11 a12 a13 a14 a15 a16 a17 a18 a19))
   (.leaf (.next (.n0 (abtw0 (AF.val (abtA a0 a1 a2 a3 a4 a5 a6 a7 a8 a9 a10 a11 a12 a13 a14 a15 a16 a17 a18 a19))) (fun i => abtw1 (AF.val (abtA a0 a1 a2 a3 a4 a5 a6 a7 a8 a9 a10 a11 a12 a13 a14 a15 a16 a17 a18 a19)) i) (fun i => abtw2 (AF.val (abtA a0 a1 a2 a3 a4 a5 a6 a7 a8 a9 a10 a11 a12 a13 a14 a15 a16 a17 a18 a19)) i) (fun i => abtw3 (AF.val (abtA a0 a1 a2 a3 a4 a5 a6 a7 a8 a9 a10 a11 a12 a13 a14 a15 a16 a17 a18 a19)) i) (fun i => abtw4 (AF.val (abtA a0 a1 a2 a3 a4 a5 a6 a7 a8 a9 a10 a11 a12 a13 a14 a15 a16 a17 a18 a19)) i) (fun i => abtw5 (AF.val (abtA a0 a1 a2 a3 a4 a5 a6 a7 a8 a9 a10 a11 a12 a13 a14 a15 a16 a17 a18 a19)) i) (fun i => abtw6 (AF.val (abtA a0 a1 a2 a3 a4 a5 a6 a7 a8 a9 a10 a11 a12 a13 a14 a15 a16 a17 a18 a19)) i) (fun i => abtw7 (AF.val (abtA a0 a1 a2 a3 a4 a5 a6 a7 a8 a9 a10 a11 a12 a13 a14 a15 a16 a17 a18 a19)) i) (fun i => abtw8 (AF.val (abtA a0 a1 a2 a3 a4 a5 a6 a7 a8 a9 a10 a11 a12 a13 a14 a15 a16 a17 a18 a19)) i)) [0, 1, 2, 3, 4]))

noncomputable def abgD (a0 : Int) (a1 : Int) (a2 : Int) (a3 : Int) (a4 : Int) (a5 : Int) (a6 : Int) (a7 : Int) (a8 : Int) (a9 : Int) (a10 : Int) (a11 : Int) (a12 : Int) (a13 : Int) (a14 : Int) (a15 : Int) (a16 : Int) (a17 : Int) (a18 : Int) (a19 : Int) : abgN → DD (Lf abgN abgR)
 | .n0 p0 p1 p2 p3 p4 p5 p6 p7 p8 =>
 .ask (Cm.run Cm.lss 0 (↑p0 : Int))
   (.must (true)
   (.must (decide (0 < (↑p0 : Int)))
   (.must (decide (0 + Int.toNat 0 < p0))
   (.must (AF.fin (abfA a0 a1 a2 a3 a4 a5 a6 a7 a8 a9 a10 a11 a12 a13 (p1 (0 + Int.toNat 0)) (p2 (0 + Int.toNat 0)) (p3 (0 + Int.toNat 0)) (p4 (0 + Int.toNat 0)) (p5 (0 + Int.toNat 0)) (p6 (0 + Int.toNat 0)) (p7 (0 + Int.toNat 0)) (p8 (0 + Int.toNat 0))))
   (.ask (true)
   (.ask (true)
   (.must (true)
   (.must (decide (0 < (↑p0 : Int)))
   (.must (decide (0 + Int.toNat 0 < p0))
   (.ask (Cm.run Cm.leq (AF.val (abfA a0 a1 a2 a3 a4 a5 a6 a7 a8 a9 a10 a11 a12 a13 (p1 (0 + Int.toNat 0)) (p2 (0 + Int.toNat 0)) (p3 (0 + Int.toNat 0)) (p4 (0 + Int.toNat 0)) (p5 (0 + Int.toNat 0)) (p6 (0 + Int.toNat 0)) (p7 (0 + Int.toNat 0)) (p8 (0 + Int.toNat 0)))) (p5 (0 + Int.toNat 0)))
   (.ask (false)
   (.leaf (.next (.n1 p0 true true 1 p0 (fun i => p1 i) (fun i => p2 i) (fun i => p3 i) (fun i => p4 i) (fun i => p5 i) (fun i => p6 i) (fun i => p7 i) (fun i => p8 i) (Ar.run Ar.mn IntKind.i64 (AF.val (abfA a0 a1 a2 a3 a4 a5 a6 a7 a8 a9 a10 a11 a12 a13 (p1 (0 + Int.toNat 0)) (p2 (0 + Int.toNat 0)) (p3 (0 + Int.toNat 0)) (p4 (0 + Int.toNat 0)) (p5 (0 + Int.toNat 0)) (p6 (0 + Int.toNat 0)) (p7 (0 + Int.toNat 0)) (p8 (0 + Int.toNat 0)))) (AF.val (abfA a0 a1 a2 a3 a4 a5 a6 a7 a8 a9 a10 a11 a12 a13 (p1 (0 + Int.toNat 0)) (p2 (0 + Int.toNat 0)) (p3 (0 + Int.toNat 0)) (p4 (0 + Int.toNat 0)) (p5 (0 + Int.toNat 0)) (p6 (0 + Int.toNat 0)) (p7 (0 + Int.toNat 0)) (p8 (0 + Int.toNat 0))))) (Ar.run Ar.mx IntKind.i64 (AF.val (abfA a0 a1 a2 a3 a4 a5 a6 a7 a8 a9 a10 a11 a12 a13 (p1 (0 + Int.toNat 0)) (p2 (0 + Int.toNat 0)) (p3 (0 + Int.toNat 0)) (p4 (0 + Int.toNat 0)) (p5 (0 + Int.toNat 0)) (p6 (0 + Int.toNat 0)) (p7 (0 + Int.toNat 0)) (p8 (0 + Int.toNat 0)))) (AF.val (abfA a0 a1 a2 a3 a4 a5 a6 a7 a8 a9 a10 a11 a12 a13 (p1 (0 + Int.toNat 0)) (p2 (0 + Int.toNat 0)) (p3 (0 + Int.toNat 0)) (p4 (0 + Int.toNat 0)) (p5 (0 + Int.toNat 0)) (p6 (0 + Int.toNat 0)) (p7 (0 + Int.toNat 0)) (p8 (0 + Int.toNat 0)))))) [0, 1, 2, 3, 4]))
   (.must (true)
   (.must (decide (0 < (↑p0 : Int)))
   (.must (decide (0 + Int.toNat 0 < p0))
   (.ask (Cm.run Cm.leq (AF.val (abfA a0 a1 a2 a3 a4 a5 a6 a7 a8 a9 a10 a11 a12 a13 (p1 (0 + Int.toNat 0)) (p2 (0 + Int.toNat 0)) (p3 (0 + Int.toNat 0)) (p4 (0 + Int.toNat 0)) (p5 (0 + Int.toNat 0)) (p6 (0 + Int.toNat 0)) (p7 (0 + Int.toNat 0)) (p8 (0 + Int.toNat 0)))) (p5 (0 + Int.toNat 0)))
   (.leaf (.next (.n1 p0 true true 1 p0 (fun i => p1 i) (fun i => p2 i) (fun i => p3 i) (fun i => p4 i) (fun i => p5 i) (fun i => p6 i) (fun i => p7 i) (fun i => p8 i) (Ar.run Ar.mn IntKind.i64 (AF.val (abfA a0 a1 a2 a3 a4 a5 a6 a7 a8 a9 a10 a11 a12 a13 (p1 (0 + Int.toNat 0)) (p2 (0 + Int.toNat 0)) (p3 (0 + Int.toNat 0)) (p4 (0 + Int.toNat 0)) (p5 (0 + Int.toNat 0)) (p6 (0 + Int.toNat 0)) (p7 (0 + Int.toNat 0)) (p8 (0 + Int.toNat 0)))) (AF.val (abfA a0 a1 a2 a3 a4 a5 a6 a7 a8 a9 a10 a11 a12 a13 (p1 (0 + Int.toNat 0)) (p2 (0 + Int.toNat 0)) (p3 (0 + Int.toNat 0)) (p4 (0 + Int.toNat 0)) (p5 (0 + Int.toNat 0)) (p6 (0 + Int.toNat 0)) (p7 (0 + Int.toNat 0)) (p8 (0 + Int.toNat 0))))) (Ar.run Ar.mx IntKind.i64 (AF.val (abfA a0 a1 a2 a3 a4 a5 a6 a7 a8 a9 a10 a11 a12 a13 (p1 (0 + Int.toNat 0)) (p2 (0 + Int.toNat 0)) (p3 (0 + Int.toNat 0)) (p4 (0 + Int.toNat 0)) (p5 (0 + Int.toNat 0)) (p6 (0 + Int.toNat 0)) (p7 (0 + Int.toNat 0)) (p8 (0 + Int.toNat 0)))) (AF.val (abfA a0 a1 a2 a3 a4 a5 a6 a7 a8 a9 a10 a11 a12 a13 (p1 (0 + Int.toNat 0)) (p2 (0 + Int.toNat 0)) (p3 (0 + Int.toNat 0)) (p4 (0 + Int.toNat 0)) (p5 (0 + Int.toNat 0)) (p6 (0 + Int.toNat 0)) (p7 (0 + Int.toNat 0)) (p8 (0 + Int.toNat 0)))))) [0, 1, 2, 3, 4]))
   (.leaf (.next (.n1 p0 true false 1 p0 (fun i => p1 i) (fun i => p2 i) (fun i => p3 i) (fun i => p4 i) (fun i => p5 i) (fun i => p6 i) (fun i => p7 i) (fun i => p8 i) (Ar.run Ar.mn IntKind.i64 (AF.val (abfA a0 a1 a2 a3 a4 a5 a6 a7 a8 a9 a10 a11 a12 a13 (p1 (0 + Int.toNat 0)) (p2 (0 + Int.toNat 0)) (p3 (0 + Int.toNat 0)) (p4 (0 + Int.toNat 0)) (p5 (0 + Int.toNat 0)) (p6 (0 + Int.toNat 0)) (p7 (0 + Int.toNat 0)) (p8 (0 + Int.toNat 0)))) (AF.val (abfA a0 a1 a2 a3 a4 a5 a6 a7 a8 a9 a10 a11 a12 a13 (p1 (0 + Int.toNat 0)) (p2 (0 + Int.toNat 0)) (p3 (0 + Int.toNat 0)) (p4 (0 + Int.toNat 0)) (p5 (0 + Int.toNat 0)) (p6 (0 + Int.toNat 0)) (p7 (0 + Int.toNat 0)) (p8 (0 + Int.toNat 0))))) (Ar.run Ar.mx IntKind.i64 (AF.val (abfA a0 a1 a2 a3 a4 a5 a6 a7 a8 a9 a10 a11 a12 a13 (p1 (0 + Int.toNat 0)) (p2 (0 + Int.toNat 0)) (p3 (0 + Int.toNat 0)) (p4 (0 + Int.toNat 0)) (p5 (0 + Int.toNat 0)) (p6 (0 + Int.toNat 0)) (p7 (0 + Int.toNat 0)) (p8 (0 + Int.toNat 0)))) (AF.val (abfA a0 a1 a2 a3 a4 a5 a6 a7 a8 a9 a10 a11 a12 a13 (p1 (0 + Int.toNat 0)) (p2 (0 + Int.toNat 0)) (p3 (0 + Int.toNat 0)) (p4 (0 + Int.toNat 0)) (p5 (0 + Int.toNat 0)) (p6 (0 + Int.toNat 0)) (p7 (0 + Int.toNat 0)) (p8 (0 + Int.toNat 0)))))) [0, 1, 2, 3, 4])))))))
   (.ask (false)
   (.leaf (.next (.n1 p0 false true 1 p0 (fun i => p1 i) (fun i => p2 i) (fun i => p3 i) (fun i => p4 i) (fun i => p5 i) (fun i => p6 i) (fun i => p7 i) (fun i => p8 i) (Ar.run Ar.mn IntKind.i64 (AF.val (abfA a0 a1 a2 a3 a4 a5 a6 a7 a8 a9 a10 a11 a12 a13 (p1 (0 + Int.toNat 0)) (p2 (0 + Int.toNat 0)) (p3 (0 + Int.toNat 0)) (p4 (0 + Int.toNat 0)) (p5 (0 + Int.toNat 0)) (p6 (0 + Int.toNat 0)) (p7 (0 + Int.toNat 0)) (p8 (0 + Int.toNat 0)))) (AF.val (abfA a0 a1 a2 a3 a4 a5 a6 a7 a8 a9 a10 a11 a12 a13 (p1 (0 + Int.toNat 0)) (p2 (0 + Int.toNat 0)) (p3 (0 + Int.toNat 0)) (p4 (0 + Int.toNat 0)) (p5 (0 + Int.toNat 0)) (p6 (0 + Int.toNat 0)) (p7 (0 + Int.toNat 0)) (p8 (0 + Int.toNat 0))))) (Ar.run Ar.mx IntKind.i64 (AF.val (abfA a0 a1 a2 a3 a4 a5 a6 a7 a8 a9 a10 a11 a12 a13 (p1 (0 + Int.toNat 0)) (p2 (0 + Int.toNat 0)) (p3 (0 + Int.toNat 0)) (p4 (0 + Int.toNat 0)) (p5 (0 + Int.toNat 0)) (p6 (0 + Int.toNat 0)) (p7 (0 + Int.toNat 0)) (p8 (0 + Int.toNat 0)))) (AF.val (abfA a0 a1 a2 a3 a4 a5 a6 a7 a8 a9 a10 a11 a12 a13 (p1 (0 + Int.toNat 0)) (p2 (0 + Int.toNat 0)) (p3 (0 + Int.toNat 0)) (p4 (0 + Int.toNat 0)) (p5 (0 + Int.toNat 0)) (p6 (0 + Int.toNat 0)) (p7 (0 + Int.toNat 0)) (p8 (0 + Int.toNat 0)))))) [0, 1, 2, 3, 4]))
   (.must (true)
   (.must (decide (0 < (↑p0 : Int)))
   (.must (decide (0 + Int.toNat 0 < p0))
   (.ask (Cm.run Cm.leq (AF.val (abfA a0 a1 a2 a3 a4 a5 a6 a7 a8 a9 a10 a11 a12 a13 (p1 (0 + Int.toNat 0)) (p2 (0 + Int.toNat 0)) (p3 (0 + Int.toNat 0)) (p4 (0 + Int.toNat 0)) (p5 (0 + Int.toNat 0)) (p6 (0 + Int.toNat 0)) (p7 (0 + Int.toNat 0)) (p8 (0 + Int.toNat 0)))) (p5 (0 + Int.toNat 0)))
   (.leaf (.next (.n1 p0 false true 1 p0 (fun i => p1 i) (fun i => p2 i) (fun i => p3 i) (fun i => p4 i) (fun i => p5 i) (fun i => p6 i) (fun i => p7 i) (fun i => p8 i) (Ar.run Ar.mn IntKind.i64 (AF.val (abfA a0 a1 a2 a3 a4 a5 a6 a7 a8 a9 a10 a11 a12 a13 (p1 (0 + Int.toNat 0)) (p2 (0 + Int.toNat 0)) (p3 (0 + Int.toNat 0)) (p4 (0 + Int.toNat 0)) (p5 (0 + Int.toNat 0)) (p6 (0 + Int.toNat 0)) (p7 (0 + Int.toNat 0)) (p8 (0 + Int.toNat 0)))) (AF.val (abfA a0 a1 a2 a3 a4 a5 a6 a7 a8 a9 a10 a11 a12 a13 (p1 (0 + Int.toNat 0)) (p2 (0 + Int.toNat 0)) (p3 (0 + Int.toNat 0)) (p4 (0 + Int.toNat 0)) (p5 (0 + Int.toNat 0)) (p6 (0 + Int.toNat 0)) (p7 (0 + Int.toNat 0)) (p8 (0 + Int.toNat 0))))) (Ar.run Ar.mx IntKind.i64 (AF.val (abfA a0 a1 a2 a3 a4 a5 a6 a7 a8 a9 a10 a11 a12 a13 (p1 (0 + Int.toNat 0)) (p2 (0 + Int.toNat 0)) (p3 (0 + Int.toNat 0)) (p4 (0 + Int.toNat 0)) (p5 (0 + Int.toNat 0)) (p6 (0 + Int.toNat 0)) (p7 (0 + Int.toNat 0)) (p8 (0 + Int.toNat 0)))) (AF.val (abfA a0 a1 a2 a3 a4 a5 a6 a7 a8 a9 a10 a11 a12 a13 (p1 (0 + Int.toNat 0)) (p2 (0 + Int.toNat 0)) (p3 (0 + Int.toNat 0)) (p4 (0 + Int.toNat 0)) (p5 (0 + Int.toNat 0)) (p6 (0 + Int.toNat 0)) (p7 (0 + Int.toNat 0)) (p8 (0 + Int.toNat 0)))))) [0, 1, 2, 3, 4]))
   (.leaf (.next (.n1 p0 false false 1 p0 (fun i => p1 i) (fun i => p2 i) (fun i => p3 i) (fun i => p4 i) (fun i => p5 i) (fun i => p6 i) (fun i => p7 i) (fun i => p8 i) (Ar.run Ar.mn IntKind.i64 (AF.val (abfA a0 a1 a2 a3 a4 a5 a6 a7 a8 a9 a10 a11 a12 a13 (p1 (0 + Int.toNat 0)) (p2 (0 + Int.toNat 0)) (p3 (0 + Int.toNat 0)) (p4 (0 + Int.toNat 0)) (p5 (0 + Int.toNat 0)) (p6 (0 + Int.toNat 0)) (p7 (0 + Int.toNat 0)) (p8 (0 + Int.toNat 0)))) (AF.val (abfA a0 a1 a2 a3 a4 a5 a6 a7 a8 a9 a10 a11 a12 a13 (p1 (0 + Int.toNat 0)) (p2 (0 + Int.toNat 0)) (p3 (0 + Int.toNat 0)) (p4 (0 + Int.toNat 0)) (p5 (0 + Int.toNat 0)) (p6 (0 + Int.toNat 0)) (p7 (0 + Int.toNat 0)) (p8 (0 + Int.toNat 0))))) (Ar.run Ar.mx IntKind.i64 (AF.val (abfA a0 a1 a2 a3 a4 a5 a6 a7 a8 a9 a10 a11 a12 a13 (p1 (0 + Int.toNat 0)) (p2 (0 + Int.toNat 0)) (p3 (0 + Int.toNat 0)) (p4 (0 + Int.toNat 0)) (p5 (0 + Int.toNat 0)) (p6 (0 + Int.toNat 0)) (p7 (0 + Int.toNat 0)) (p8 (0 + Int.toNat 0)))) (AF.val (abfA a0 a1 a2 a3 a4 a5 a6 a7 a8 a9 a10 a11 a12 a13 (p1 (0 + Int.toNat 0)) (p2 (0 + Int.toNat 0)) (p3 (0 + Int.toNat 0)) (p4 (0 + Int.toNat 0)) (p5 (0 + Int.toNat 0)) (p6 (0 + Int.toNat 0)) (p7 (0 + Int.toNat 0)) (p8 (0 + Int.toNat 0)))))) [0, 1, 2, 3, 4])))))))))))
   (.ask (false)
   (.leaf (.next (.n1 p0 false true 1 p0 (fun i => p1 i) (fun i => p2 i) (fun i => p3 i) (fun i => p4 i) (fun i => p5 i) (fun i => p6 i) (fun i => p7 i) (fun i => p8 i) (Ar.run Ar.mn IntKind.i64 (AF.val (abfA a0 a1 a2 a3 a4 a5 a6 a7 a8 a9 a10 a11 a12 a13 (p1 (0 + Int.toNat 0)) (p2 (0 + Int.toNat 0)) (p3 (0 + Int.toNat 0)) (p4 (0 + Int.toNat 0)) (p5 (0 + Int.toNat 0)) (p6 (0 + Int.toNat 0)) (p7 (0 + Int.toNat 0)) (p8 (0 + Int.toNat 0)))) (AF.val (abfA a0 a1 a2 a3 a4 a5 a6 a7 a8 a9 a10 a11 a12 a13 (p1 (0 + Int.toNat 0)) (p2 (0 + Int.toNat 0)) (p3 (0 + Int.toNat 0)) (p4 (0 + Int.toNat 0)) (p5 (0 + Int.toNat 0)) (p6 (0 + Int.toNat 0)) (p7 (0 + Int.toNat 0)) (p8 (0 + Int.toNat 0))))) (Ar.run Ar.mx IntKind.i64 (AF.val (abfA a0 a1 a2 a3 a4 a5 a6 a7 a8 a9 a10 a11 a12 a13 (p1 (0 + Int.toNat 0)) (p2 (0 + Int.toNat 0)) (p3 (0 + Int.toNat 0)) (p4 (0 + Int.toNat 0)) (p5 (0 + Int.toNat 0)) (p6 (0 + Int.toNat 0)) (p7 (0 + Int.toNat 0)) (p8 (0 + Int.toNat 0)))) (AF.val (abfA a0 a1 a2 a3 a4 a5 a6 a7 a8 a9 a10 a11 a12 a13 (p1 (0 + Int.toNat 0)) (p2 (0 + Int.toNat 0)) (p3 (0 + Int.toNat 0)) (p4 (0 + Int.toNat 0)) (p5 (0 + Int.toNat 0)) (p6 (0 + Int.toNat 0)) (p7 (0 + Int.toNat 0)) (p8 (0 + Int.toNat 0)))))) [0, 1, 2, 3, 4]))
   (.must (true)
   (.must (decide (0 < (↑p0 : Int)))
   (.must (decide (0 + Int.toNat 0 < p0))
   (.ask (Cm.run Cm.leq (AF.val (abfA a0 a1 a2 a3 a4 a5 a6 a7 a8 a9 a10 a11 a12 a13 (p1 (0 + Int.toNat 0)) (p2 (0 + Int.toNat 0)) (p3 (0 + Int.toNat 0)) (p4 (0 + Int.toNat 0)) (p5 (0 + Int.toNat 0)) (p6 (0 + Int.toNat 0)) (p7 (0 + Int.toNat 0)) (p8 (0 + Int.toNat 0)))) (p5 (0 + Int.toNat 0)))
   (.leaf (.next (.n1 p0 false true 1 p0 (fun i => p1 i) (fun i => p2 i) (fun i => p3 i) (fun i => p4 i) (fun i => p5 i) (fun i => p6 i) (fun i => p7 i) (fun i => p8 i) (Ar.run Ar.mn IntKind.i64 (AF.val (abfA a0 a1 a2 a3 a4 a5 a6 a7 a8 a9 a10 a11 a12 a13 (p1 (0 + Int.toNat 0)) (p2 (0 + Int.toNat 0)) (p3 (0 + Int.toNat 0)) (p4 (0 + Int.toNat 0)) (p5 (0 + Int.toNat 0)) (p6 (0 + Int.toNat 0)) (p7 (0 + Int.toNat 0)) (p8 (0 + Int.toNat 0)))) (AF.val (abfA a0 a1 a2 a3 a4 a5 a6 a7 a8 a9 a10 a11 a12 a13 (p1 (0 + Int.toNat 0)) (p2 (0 + Int.toNat 0)) (p3 (0 + Int.toNat 0)) (p4 (0 + Int.toNat 0)) (p5 (0 + Int.toNat 0)) (p6 (0 + Int.toNat 0)) (p7 (0 + Int.toNat 0)) (p8 (0 + Int.toNat 0))))) (Ar.run Ar.mx IntKind.i64 (AF.val (abfA a0 a1 a2 a3 a4 a5 a6 a7 a8 a9 a10 a11 a12 a13 (p1 (0 + Int.toNat 0)) (p2 (0 + Int.toNat 0)) (p3 (0 + Int.toNat 0)) (p4 (0 + Int.toNat 0)) (p5 (0 + Int.toNat 0)) (p6 (0 + Int.toNat 0)) (p7 (0 + Int.toNat 0)) (p8 (0 + Int.toNat 0)))) (AF.val (abfA a0 a1 a2 a3 a4 a5 a6 a7 a8 a9 a10 a11 a12 a13 (p1 (0 + Int.toNat 0)) (p2 (0 + Int.toNat 0)) (p3 (0 + Int.toNat 0)) (p4 (0 + Int.toNat 0)) (p5 (0 + Int.toNat 0)) (p6 (0 + Int.toNat 0)) (p7 (0 + Int.toNat 0)) (p8 (0 + Int.toNat 0)))))) [0, 1, 2, 3, 4]))
   (.leaf (.next (.n1 p0 false false 1 p0 (fun i => p1 i) (fun i => p2 i) (fun i => p3 i) (fun i => p4 i) (fun i => p5 i) (fun i => p6 i) (fun i => p7 i) (fun i => p8 i) (Ar.run Ar.mn IntKind.i64 (AF.val (abfA a0 a1 a2 a3 a4 a5 a6 a7 a8 a9 a10 a11 a12 a13 (p1 (0 + Int.toNat 0)) (p2 (0 + Int.toNat 0)) (p3 (0 + Int.toNat 0)) (p4 (0 + Int.toNat 0)) (p5 (0 + Int.toNat 0)) (p6 (0 + Int.toNat 0)) (p7 (0 + Int.toNat 0)) (p8 (0 + Int.toNat 0)))) (AF.val (abfA a0 a1 a2 a3 a4 a5 a6 a7 a8 a9 a10 a11 a12 a13 (p1 (0 + Int.toNat 0)) (p2 (0 + Int.toNat 0)) (p3 (0 + Int.toNat 0)) (p4 (0 + Int.toNat 0)) (p5 (0 + Int.toNat 0)) (p6 (0 + Int.toNat 0)) (p7 (0 + Int.toNat 0)) (p8 (0 + Int.toNat 0))))) (Ar.run Ar.mx IntKind.i64 (AF.val (abfA a0 a1 a2 a3 a4 a5 a6 a7 a8 a9 a10 a11 a12 a13 (p1 (0 + Int.toNat 0)) (p2 (0 + Int.toNat 0)) (p3 (0 + Int.toNat 0)) (p4 (0 + Int.toNat 0)) (p5 (0 + Int.toNat 0)) (p6 (0 + Int.toNat 0)) (p7 (0 + Int.toNat 0)) (p8 (0 + Int.toNat 0)))) (AF.val (abfA a0 a1 a2 a3 a4 a5 a6 a7 a8 a9 a10 a11 a12 a13 (p1 (0 + Int.toNat 0)) (p2 (0 + Int.toNat 0)) (p3 (0 + Int.toNat 0)) (p4 (0 + Int.toNat 0)) (p5 (0 + Int.toNat 0)) (p6 (0 + Int.toNat 0)) (p7 (0 + Int.toNat 0)) (p8 (0 + Int.toNat 0)))))) [0, 1, 2, 3, 4]))))))))
   (.ask (true)
   (.must (true)
   (.must (decide (0 < (↑p0 : Int)))
   (.must (decide (0 + Int.toNat 0 < p0))
   (.ask (Cm.run Cm.leq (AF.val (abfA a0 a1 a2 a3 a4 a5 a6 a7 a8 a9 a10 a11 a12 a13 (p1 (0 + Int.toNat 0)) (p2 (0 + Int.toNat 0)) (p3 (0 + Int.toNat 0)) (p4 (0 + Int.toNat 0)) (p5 (0 + Int.toNat 0)) (p6 (0 + Int.toNat 0)) (p7 (0 + Int.toNat 0)) (p8 (0 + Int.toNat 0)))) (p5 (0 + Int.toNat 0)))
   (.ask (false)
   (.leaf (.next (.n1 p0 true true 1 p0 (fun i => p1 i) (fun i => p2 i) (fun i => p3 i) (fun i => p4 i) (fun i => p5 i) (fun i => p6 i) (fun i => p7 i) (fun i => p8 i) (Ar.run Ar.mn IntKind.i64 0 (AF.val (abfA a0 a1 a2 a3 a4 a5 a6 a7 a8 a9 a10 a11 a12 a13 (p1 (0 + Int.toNat 0)) (p2 (0 + Int.toNat 0)) (p3 (0 + Int.toNat 0)) (p4 (0 + Int.toNat 0)) (p5 (0 + Int.toNat 0)) (p6 (0 + Int.toNat 0)) (p7 (0 + Int.toNat 0)) (p8 (0 + Int.toNat 0))))) (Ar.run Ar.mx IntKind.i64 0 (AF.val (abfA a0 a1 a2 a3 a4 a5 a6 a7 a8 a9 a10 a11 a12 a13 (p1 (0 + Int.toNat 0)) (p2 (0 + Int.toNat 0)) (p3 (0 + Int.toNat 0)) (p4 (0 + Int.toNat 0)) (p5 (0 + Int.toNat 0)) (p6 (0 + Int.toNat 0)) (p7 (0 + Int.toNat 0)) (p8 (0 + Int.toNat 0)))))) [0, 1, 2, 3, 4]))
   (.must (true)
   (.must (decide (0 < (↑p0 : Int)))
   (.must (decide (0 + Int.toNat 0 < p0))
   (.ask (Cm.run Cm.leq (AF.val (abfA a0 a1 a2 a3 a4 a5 a6 a7 a8 a9 a10 a11 a12 a13 (p1 (0 + Int.toNat 0)) (p2 (0 + Int.toNat 0)) (p3 (0 + Int.toNat 0)) (p4 (0 + Int.toNat 0)) (p5 (0 + Int.toNat 0)) (p6 (0 + Int.toNat 0)) (p7 (0 + Int.toNat 0)) (p8 (0 + Int.toNat 0)))) (p5 (0 + Int.toNat 0)))
   (.leaf (.next (.n1 p0 true true 1 p0 (fun i => p1 i) (fun i => p2 i) (fun i => p3 i) (fun i => p4 i) (fun i => p5 i) (fun i => p6 i) (fun i => p7 i) (fun i => p8 i) (Ar.run Ar.mn IntKind.i64 0 (AF.val (abfA a0 a1 a2 a3 a4 a5 a6 a7 a8 a9 a10 a11 a12 a13 (p1 (0 + Int.toNat 0)) (p2 (0 + Int.toNat 0)) (p3 (0 + Int.toNat 0)) (p4 (0 + Int.toNat 0)) (p5 (0 + Int.toNat 0)) (p6 (0 + Int.toNat 0)) (p7 (0 + Int.toNat 0)) (p8 (0 + Int.toNat 0))))) (Ar.run Ar.mx IntKind.i64 0 (AF.val (abfA a0 a1 a2 a3 a4 a5 a6 a7 a8 a9 a10 a11 a12 a13 (p1 (0 + Int.toNat 0)) (p2 (0 + Int.toNat 0)) (p3 (0 + Int.toNat 0)) (p4 (0 + Int.toNat 0)) (p5 (0 + Int.toNat 0)) (p6 (0 + Int.toNat 0)) (p7 (0 + Int.toNat 0)) (p8 (0 + Int.toNat 0)))))) [0, 1, 2, 3, 4]))
   (.leaf (.next (.n1 p0 true false 1 p0 (fun i => p1 i) (fun i => p2 i) (fun i => p3 i) (fun i => p4 i) (fun i => p5 i) (fun i => p6 i) (fun i => p7 i) (fun i => p8 i) (Ar.run Ar.mn IntKind.i64 0 (AF.val (abfA a0 a1 a2 a3 a4 a5 a6 a7 a8 a9 a10 a11 a12 a13 (p1 (0 + Int.toNat 0)) (p2 (0 + Int.toNat 0)) (p3 (0 + Int.toNat 0)) (p4 (0 + Int.toNat 0)) (p5 (0 + Int.toNat 0)) (p6 (0 + Int.toNat 0)) (p7 (0 + Int.toNat 0)) (p8 (0 + Int.toNat 0))))) (Ar.run Ar.mx IntKind.i64 0 (AF.val (abfA a0 a1 a2 a3 a4 a5 a6 a7 a8 a9 a10 a11 a12 a13 (p1 (0 + Int.toNat 0)) (p2 (0 + Int.toNat 0)) (p3 (0 + Int.toNat 0)) (p4 (0 + Int.toNat 0)) (p5 (0 + Int.toNat 0)) (p6 (0 + Int.toNat 0)) (p7 (0 + Int.toNat 0)) (p8 (0 + Int.toNat 0)))))) [0, 1, 2, 3, 4])))))))
   (.ask (false)
   (.leaf (.next (.n1 p0 false true 1 p0 (fun i => p1 i) (fun i => p2 i) (fun i => p3 i) (fun i => p4 i) (fun i => p5 i) (fun i => p6 i) (fun i => p7 i) (fun i => p8 i) (Ar.run Ar.mn IntKind.i64 0 (AF.val (abfA a0 a1 a2 a3 a4 a5 a6 a7 a8 a9 a10 a11 a12 a13 (p1 (0 + Int.toNat 0)) (p2 (0 + Int.toNat 0)) (p3 (0 + Int.toNat 0)) (p4 (0 + Int.toNat 0)) (p5 (0 + Int.toNat 0)) (p6 (0 + Int.toNat 0)) (p7 (0 + Int.toNat 0)) (p8 (0 + Int.toNat 0))))) (Ar.run Ar.mx IntKind.i64 0 (AF.val (abfA a0 a1 a2 a3 a4 a5 a6 a7 a8 a9 a10 a11 a12 a13 (p1 (0 + Int.toNat 0)) (p2 (0 + Int.toNat 0)) (p3 (0 + Int.toNat 0)) (p4 (0 + Int.toNat 0)) (p5 (0 + Int.toNat 0)) (p6 (0 + Int.toNat 0)) (p7 (0 + Int.toNat 0)) (p8 (0 + Int.toNat 0)))))) [0, 1, 2, 3, 4]))
   (.must (true)
   (.must (decide (0 < (↑p0 : Int)))
   (.must (decide (0 + Int.toNat 0 < p0))
   (.ask (Cm.run Cm.leq (AF.val (abfA a0 a1 a2 a3 a4 a5 a6 a7 a8 a9 a10 a11 a12 a13 (p1 (0 + Int.toNat 0)) (p2 (0 + Int.toNat 0)) (p3 (0 + Int.toNat 0)) (p4 (0 + Int.toNat 0)) (p5 (0 + Int.toNat 0)) (p6 (0 + Int.toNat 0)) (p7 (0 + Int.toNat 0)) (p8 (0 + Int.toNat 0)))) (p5 (0 + Int.toNat 0)))
   (.leaf (.next (.n1 p0 false true 1 p0 (fun i => p1 i) (fun i => p2 i) (fun i => p3 i) (fun i => p4 i) (fun i => p5 i) (fun i => p6 i) (fun i => p7 i) (fun i => p8 i) (Ar.run Ar.mn IntKind.i64 0 (AF.val (abfA a0 a1 a2 a3 a4 a5 a6 a7 a8 a9 a10 a11 a12 a13 (p1 (0 + Int.toNat 0)) (p2 (0 + Int.toNat 0)) (p3 (0 + Int.toNat 0)) (p4 (0 + Int.toNat 0)) (p5 (0 + Int.toNat 0)) (p6 (0 + Int.toNat 0)) (p7 (0 + Int.toNat 0)) (p8 (0 + Int.toNat 0))))) (Ar.run Ar.mx IntKind.i64 0 (AF.val (abfA a0 a1 a2 a3 a4 a5 a6 a7 a8 a9 a10 a11 a12 a13 (p1 (0 + Int.toNat 0)) (p2 (0 + Int.toNat 0)) (p3 (0 + Int.toNat 0)) (p4 (0 + Int.toNat 0)) (p5 (0 + Int.toNat 0)) (p6 (0 + Int.toNat 0)) (p7 (0 + Int.toNat 0)) (p8 (0 + Int.toNat 0)))))) [0, 1, 2, 3, 4]))
   (.leaf (.next (.n1 p0 false false 1 p0 (fun i => p1 i) (fun i => p2 i) (fun i => p3 i) (fun i => p4 i) (fun i => p5 i) (fun i => p6 i) (fun i => p7 i) (fun i => p8 i) (Ar.run Ar.mn IntKind.i64 0 (AF.val (abfA a0 a1 a2 a3 a4 a5 a6 a7 a8 a9 a10 a11 a12 a13 (p1 (0 + Int.toNat 0)) (p2 (0 + Int.toNat 0)) (p3 (0 + Int.toNat 0)) (p4 (0 + Int.toNat 0)) (p5 (0 + Int.toNat 0)) (p6 (0 + Int.toNat 0)) (p7 (0 + Int.toNat 0)) (p8 (0 + Int.toNat 0))))) (Ar.run Ar.mx IntKind.i64 0 (AF.val (abfA a0 a1 a2 a3 a4 a5 a6 a7 a8 a9 a10 a11 a12 a13 (p1 (0 + Int.toNat 0)) (p2 (0 + Int.toNat 0)) (p3 (0 + Int.toNat 0)) (p4 (0 + Int.toNat 0)) (p5 (0 + Int.toNat 0)) (p6 (0 + Int.toNat 0)) (p7 (0 + Int.toNat 0)) (p8 (0 + Int.toNat 0)))))) [0, 1, 2, 3, 4])))))))))))
   (.ask (false)
   (.leaf (.next (.n1 p0 false true 1 p0 (fun i => p1 i) (fun i => p2 i) (fun i => p3 i) (fun i => p4 i) (fun i => p5 i) (fun i => p6 i) (fun i => p7 i) (fun i => p8 i) (Ar.run Ar.mn IntKind.i64 0 (AF.val (abfA a0 a1 a2 a3 a4 a5 a6 a7 a8 a9 a10 a11 a12 a13 (p1 (0 + Int.toNat 0)) (p2 (0 + Int.toNat 0)) (p3 (0 + Int.toNat 0)) (p4 (0 + Int.toNat 0)) (p5 (0 + Int.toNat 0)) (p6 (0 + Int.toNat 0)) (p7 (0 + Int.toNat 0)) (p8 (0 + Int.toNat 0))))) (Ar.run Ar.mx IntKind.i64 0 (AF.val (abfA a0 a1 a2 a3 a4 a5 a6 a7 a8 a9 a10 a11 a12 a13 (p1 (0 + Int.toNat 0)) (p2 (0 + Int.toNat 0)) (p3 (0 + Int.toNat 0)) (p4 (0 + Int.toNat 0)) (p5 (0 + Int.toNat 0)) (p6 (0 + Int.toNat 0)) (p7 (0 + Int.toNat 0)) (p8 (0 + Int.toNat 0)))))) [0, 1, 2, 3, 4]))
   (.must (true)
   (.must (decide (0 < (↑p0 : Int)))
   (.must (decide (0 + Int.toNat 0 < p0))
   (.ask (Cm.run Cm.leq (AF.val (abfA a0 a1 a2 a3 a4 a5 a6 a7 a8 a9 a10 a11 a12 a13 (p1 (0 + Int.toNat 0)) (p2 (0 + Int.toNat 0)) (p3 (0 + Int.toNat 0)) (p4 (0 + Int.toNat 0)) (p5 (0 + Int.toNat 0)) (p6 (0 + Int.toNat 0)) (p7 (0 + Int.toNat 0)) (p8 (0 + Int.toNat 0)))) (p5 (0 + Int.toNat 0)))
   (.leaf (.next (.n1 p0 false true 1 p0 (fun i => p1 i) (fun i => p2 i) (fun i => p3 i) (fun i => p4 i) (fun i => p5 i) (fun i => p6 i) (fun i => p7 i) (fun i => p8 i) (Ar.run Ar.mn IntKind.i64 0 (AF.val (abfA a0 a1 a2 a3 a4 a5 a6 a7 a8 a9 a10 a11 a12 a13 (p1 (0 + Int.toNat 0)) (p2 (0 + Int.toNat 0)) (p3 (0 + Int.toNat 0)) (p4 (0 + Int.toNat 0)) (p5 (0 + Int.toNat 0)) (p6 (0 + Int.toNat 0)) (p7 (0 + Int.toNat 0)) (p8 (0 + Int.toNat 0))))) (Ar.run Ar.mx IntKind.i64 0 (AF.val (abfA a0 a1 a2 a3 a4 a5 a6 a7 a8 a9 a10 a11 a12 a13 (p1 (0 + Int.toNat 0)) (p2 (0 + Int.toNat 0)) (p3 (0 + Int.toNat 0)) (p4 (0 + Int.toNat 0)) (p5 (0 + Int.toNat 0)) (p6 (0 + Int.toNat 0)) (p7 (0 + Int.toNat 0)) (p8 (0 + Int.toNat 0)))))) [0, 1, 2, 3, 4]))
   (.leaf (.next (.n1 p0 false false 1 p0 (fun i => p1 i) (fun i => p2 i) (fun i => p3 i) (fun i => p4 i) (fun i => p5 i) (fun i => p6 i) (fun i => p7 i) (fun i => p8 i) (Ar.run Ar.mn IntKind.i64 0 (AF.val (abfA a0 a1 a2 a3 a4 a5 a6 a7 a8 a9 a10 a11 a12 a13 (p1 (0 + Int.toNat 0)) (p2 (0 + Int.toNat 0)) (p3 (0 + Int.toNat 0)) (p4 (0 + Int.toNat 0)) (p5 (0 + Int.toNat 0)) (p6 (0 + Int.toNat 0)) (p7 (0 + Int.toNat 0)) (p8 (0 + Int.toNat 0))))) (Ar.run Ar.mx IntKind.i64 0 (AF.val (abfA a0 a1 a2 a3 a4 a5 a6 a7 a8 a9 a10 a11 a12 a13 (p1 (0 + Int.toNat 0)) (p2 (0 + Int.toNat 0)) (p3 (0 + Int.toNat 0)) (p4 (0 + Int.toNat 0)) (p5 (0 + Int.toNat 0)) (p6 (0 + Int.toNat 0)) (p7 (0 + Int.toNat 0)) (p8 (0 + Int.toNat 0)))))) [0, 1, 2, 3, 4])))))))))))))
   (.leaf (.done (0, 0, true, false) []))
 | .n1 p0 p1 p2 p3 p4 p5 p6 p7 p8 p9 p10 p11 p12 p13 p14 =>
 .ask (Cm.run Cm.lss p3 (↑p0 : Int))
   (.must (decide (0 ≤ p3))
   (.must (decide (p3 < (↑p0 : Int)))
   (.must (decide (0 + Int.toNat p3 < p4))
   (.must (AF.fin (abfA a0 a1 a2 a3 a4 a5 a6 a7 a8 a9 a10 a11 a12 a13 (p5 (0 + Int.toNat p3)) (p6 (0 + Int.toNat p3)) (p7 (0 + Int.toNat p3)) (p8 (0 + Int.toNat p3)) (p9 (0 + Int.toNat p3)) (p10 (0 + Int.toNat p3)) (p11 (0 + Int.toNat p3)) (p12 (0 + Int.toNat p3))))
   (.ask (Cm.run Cm.eql p3 0)
   (.ask (p1)
   (.must (decide (0 ≤ p3))
   (.must (decide (p3 < (↑p0 : Int)))
   (.must (decide (0 + Int.toNat p3 < p4))
   (.ask (Cm.run Cm.leq (AF.val (abfA a0 a1 a2 a3 a4 a5 a6 a7 a8 a9 a10 a11 a12 a13 (p5 (0 + Int.toNat p3)) (p6 (0 + Int.toNat p3)) (p7 (0 + Int.toNat p3)) (p8 (0 + Int.toNat p3)) (p9 (0 + Int.toNat p3)) (p10 (0 + Int.toNat p3)) (p11 (0 + Int.toNat p3)) (p12 (0 + Int.toNat p3)))) (p9 (0 + Int.toNat p3)))
   (.ask (p2)
   (.leaf (.next (.n1 p0 true true (Ar.run Ar.add IntKind.i64 p3 1) p4 (fun i => p5 i) (fun i => p6 i) (fun i => p7 i) (fun i => p8 i) (fun i => p9 i) (fun i => p10 i) (fun i => p11 i) (fun i => p12 i) (Ar.run Ar.mn IntKind.i64 (AF.val (abfA a0 a1 a2 a3 a4 a5 a6 a7 a8 a9 a10 a11 a12 a13 (p5 (0 + Int.toNat p3)) (p6 (0 + Int.toNat p3)) (p7 (0 + Int.toNat p3)) (p8 (0 + Int.toNat p3)) (p9 (0 + Int.toNat p3)) (p10 (0 + Int.toNat p3)) (p11 (0 + Int.toNat p3)) (p12 (0 + Int.toNat p3)))) (AF.val (abfA a0 a1 a2 a3 a4 a5 a6 a7 a8 a9 a10 a11 a12 a13 (p5 (0 + Int.toNat p3)) (p6 (0 + Int.toNat p3)) (p7 (0 + Int.toNat p3)) (p8 (0 + Int.toNat p3)) (p9 (0 + Int.toNat p3)) (p10 (0 + Int.toNat p3)) (p11 (0 + Int.toNat p3)) (p12 (0 + Int.toNat p3))))) (Ar.run Ar.mx IntKind.i64 (AF.val (abfA a0 a1 a2 a3 a4 a5 a6 a7 a8 a9 a10 a11 a12 a13 (p5 (0 + Int.toNat p3)) (p6 (0 + Int.toNat p3)) (p7 (0 + Int.toNat p3)) (p8 (0 + Int.toNat p3)) (p9 (0 + Int.toNat p3)) (p10 (0 + Int.toNat p3)) (p11 (0 + Int.toNat p3)) (p12 (0 + Int.toNat p3)))) (AF.val (abfA a0 a1 a2 a3 a4 a5 a6 a7 a8 a9 a10 a11 a12 a13 (p5 (0 + Int.toNat p3)) (p6 (0 + Int.toNat p3)) (p7 (0 + Int.toNat p3)) (p8 (0 + Int.toNat p3)) (p9 (0 + Int.toNat p3)) (p10 (0 + Int.toNat p3)) (p11 (0 + Int.toNat p3)) (p12 (0 + Int.toNat p3)))))) [0, 1, 2, 3, 4]))
   (.must (decide (0 ≤ p3))
   (.must (decide (p3 < (↑p0 : Int)))
   (.must (decide (0 + Int.toNat p3 < p4))
   (.ask (Cm.run Cm.leq (AF.val (abfA a0 a1 a2 a3 a4 a5 a6 a7 a8 a9 a10 a11 a12 a13 (p5 (0 + Int.toNat p3)) (p6 (0 + Int.toNat p3)) (p7 (0 + Int.toNat p3)) (p8 (0 + Int.toNat p3)) (p9 (0 + Int.toNat p3)) (p10 (0 + Int.toNat p3)) (p11 (0 + Int.toNat p3)) (p12 (0 + Int.toNat p3)))) (p9 (0 + Int.toNat p3)))
   (.leaf (.next (.n1 p0 true true (Ar.run Ar.add IntKind.i64 p3 1) p4 (fun i => p5 i) (fun i => p6 i) (fun i => p7 i) (fun i => p8 i) (fun i => p9 i) (fun i => p10 i) (fun i => p11 i) (fun i => p12 i) (Ar.run Ar.mn IntKind.i64 (AF.val (abfA a0 a1 a2 a3 a4 a5 a6 a7 a8 a9 a10 a11 a12 a13 (p5 (0 + Int.toNat p3)) (p6 (0 + Int.toNat p3)) (p7 (0 + Int.toNat p3)) (p8 (0 + Int.toNat p3)) (p9 (0 + Int.toNat p3)) (p10 (0 + Int.toNat p3)) (p11 (0 + Int.toNat p3)) (p12 (0 + Int.toNat p3)))) (AF.val (abfA a0 a1 a2 a3 a4 a5 a6 a7 a8 a9 a10 a11 a12 a13 (p5 (0 + Int.toNat p3)) (p6 (0 + Int.toNat p3)) (p7 (0 + Int.toNat p3)) (p8 (0 + Int.toNat p3)) (p9 (0 + Int.toNat p3)) (p10 (0 + Int.toNat p3)) (p11 (0 + Int.toNat p3)) (p12 (0 + Int.toNat p3))))) (Ar.run Ar.mx IntKind.i64 (AF.val (abfA a0 a1 a2 a3 a4 a5 a6 a7 a8 a9 a10 a11 a12 a13 (p5 (0 + Int.toNat p3)) (p6 (0 + Int.toNat p3)) (p7 (0 + Int.toNat p3)) (p8 (0 + Int.toNat p3)) (p9 (0 + Int.toNat p3)) (p10 (0 + Int.toNat p3)) (p11 (0 + Int.toNat p3)) (p12 (0 + Int.toNat p3)))) (AF.val (abfA a0 a1 a2 a3 a4 a5 a6 a7 a8 a9 a10 a11 a12 a13 (p5 (0 + Int.toNat p3)) (p6 (0 + Int.toNat p3)) (p7 (0 + Int.toNat p3)) (p8 (0 + Int.toNat p3)) (p9 (0 + Int.toNat p3)) (p10 (0 + Int.toNat p3)) (p11 (0 + Int.toNat p3)) (p12 (0 + Int.toNat p3)))))) [0, 1, 2, 3, 4]))
   (.leaf (.next (.n1 p0 true false (Ar.run Ar.add IntKind.i64 p3 1) p4 (fun i => p5 i) (fun i => p6 i) (fun i => p7 i) (fun i => p8 i) (fun i => p9 i) (fun i => p10 i) (fun i => p11 i) (fun i => p12 i) (Ar.run Ar.mn IntKind.i64 (AF.val (abfA a0 a1 a2 a3 a4 a5 a6 a7 a8 a9 a10 a11 a12 a13 (p5 (0 + Int.toNat p3)) (p6 (0 + Int.toNat p3)) (p7 (0 + Int.toNat p3)) (p8 (0 + Int.toNat p3)) (p9 (0 + Int.toNat p3)) (p10 (0 + Int.toNat p3)) (p11 (0 + Int.toNat p3)) (p12 (0 + Int.toNat p3)))) (AF.val (abfA a0 a1 a2 a3 a4 a5 a6 a7 a8 a9 a10 a11 a12 a13 (p5 (0 + Int.toNat p3)) (p6 (0 + Int.toNat p3)) (p7 (0 + Int.toNat p3)) (p8 (0 + Int.toNat p3)) (p9 (0 + Int.toNat p3)) (p10 (0 + Int.toNat p3)) (p11 (0 + Int.toNat p3)) (p12 (0 + Int.toNat p3))))) (Ar.run Ar.mx IntKind.i64 (AF.val (abfA a0 a1 a2 a3 a4 a5 a6 a7 a8 a9 a10 a11 a12 a13 (p5 (0 + Int.toNat p3)) (p6 (0 + Int.toNat p3)) (p7 (0 + Int.toNat p3)) (p8 (0 + Int.toNat p3)) (p9 (0 + Int.toNat p3)) (p10 (0 + Int.toNat p3)) (p11 (0 + Int.toNat p3)) (p12 (0 + Int.toNat p3)))) (AF.val (abfA a0 a1 a2 a3 a4 a5 a6 a7 a8 a9 a10 a11 a12 a13 (p5 (0 + Int.toNat p3)) (p6 (0 + Int.toNat p3)) (p7 (0 + Int.toNat p3)) (p8 (0 + Int.toNat p3)) (p9 (0 + Int.toNat p3)) (p10 (0 + Int.toNat p3)) (p11 (0 + Int.toNat p3)) (p12 (0 + Int.toNat p3)))))) [0, 1, 2, 3, 4])))))))
   (.ask (p2)
   (.leaf (.next (.n1 p0 false true (Ar.run Ar.add IntKind.i64 p3 1) p4 (fun i => p5 i) (fun i => p6 i) (fun i => p7 i) (fun i => p8 i) (fun i => p9 i) (fun i => p10 i) (fun i => p11 i) (fun i => p12 i) (Ar.run Ar.mn IntKind.i64 (AF.val (abfA a0 a1 a2 a3 a4 a5 a6 a7 a8 a9 a10 a11 a12 a13 (p5 (0 + Int.toNat p3)) (p6 (0 + Int.toNat p3)) (p7 (0 + Int.toNat p3)) (p8 (0 + Int.toNat p3)) (p9 (0 + Int.toNat p3)) (p10 (0 + Int.toNat p3)) (p11 (0 + Int.toNat p3)) (p12 (0 + Int.toNat p3)))) (AF.val (abfA a0 a1 a2 a3 a4 a5 a6 a7 a8 a9 a10 a11 a12 a13 (p5 (0 + Int.toNat p3)) (p6 (0 + Int.toNat p3)) (p7 (0 + Int.toNat p3)) (p8 (0 + Int.toNat p3)) (p9 (0 + Int.toNat p3)) (p10 (0 + Int.toNat p3)) (p11 (0 + Int.toNat p3)) (p12 (0 + Int.toNat p3))))) (Ar.run Ar.mx IntKind.i64 (AF.val (abfA a0 a1 a2 a3 a4 a5 a6 a7 a8 a9 a10 a11 a12 a13 (p5 (0 + Int.toNat p3)) (p6 (0 + Int.toNat p3)) (p7 (0 + Int.toNat p3)) (p8 (0 + Int.toNat p3)) (p9 (0 + Int.toNat p3)) (p10 (0 + Int.toNat p3)) (p11 (0 + Int.toNat p3)) (p12 (0 + Int.toNat p3)))) (AF.val (abfA a0 a1 a2 a3 a4 a5 a6 a7 a8 a9 a10 a11 a12 a13 (p5 (0 + Int.toNat p3)) (p6 (0 + Int.toNat p3)) (p7 (0 + Int.toNat p3)) (p8 (0 + Int.toNat p3)) (p9 (0 + Int.toNat p3)) (p10 (0 + Int.toNat p3)) (p11 (0 + Int.toNat p3)) (p12 (0 + Int.toNat p3)))))) [0, 1, 2, 3, 4]))
   (.must (decide (0 ≤ p3))
   (.must (decide (p3 < (↑p0 : Int)))
   (.must (decide (0 + Int.toNat p3 < p4))
   (.ask (Cm.run Cm.leq (AF.val (abfA a0 a1 a2 a3 a4 a5 a6 a7 a8 a9 a10 a11 a12 a13 (p5 (0 + Int.toNat p3)) (p6 (0 + Int.toNat p3)) (p7 (0 + Int.toNat p3)) (p8 (0 + Int.toNat p3)) (p9 (0 + Int.toNat p3)) (p10 (0 + Int.toNat p3)) (p11 (0 + Int.toNat p3)) (p12 (0 + Int.toNat p3)))) (p9 (0 + Int.toNat p3)))
   (.leaf (.next (.n1 p0 false true (Ar.run Ar.add IntKind.i64 p3 1) p4 (fun i => p5 i) (fun i => p6 i) (fun i => p7 i) (fun i => p8 i) (fun i => p9 i) (fun i => p10 i) (fun i => p11 i) (fun i => p12 i) (Ar.run Ar.mn IntKind.i64 (AF.val (abfA a0 a1 a2 a3 a4 a5 a6 a7 a8 a9 a10 a11 a12 a13 (p5 (0 + Int.toNat p3)) (p6 (0 + Int.toNat p3)) (p7 (0 + Int.toNat p3)) (p8 (0 + Int.toNat p3)) (p9 (0 + Int.toNat p3)) (p10 (0 + Int.toNat p3)) (p11 (0 + Int.toNat p3)) (p12 (0 + Int.toNat p3)))) (AF.val (abfA a0 a1 a2 a3 a4 a5 a6 a7 a8 a9 a10 a11 a12 a13 (p5 (0 + Int.toNat p3)) (p6 (0 + Int.toNat p3)) (p7 (0 + Int.toNat p3)) (p8 (0 + Int.toNat p3)) (p9 (0 + Int.toNat p3)) (p10 (0 + Int.toNat p3)) (p11 (0 + Int.toNat p3)) (p12 (0 + Int.toNat p3))))) (Ar.run Ar.mx IntKind.i64 (AF.val (abfA a0 a1 a2 a3 a4 a5 a6 a7 a8 a9 a10 a11 a12 a13 (p5 (0 + Int.toNat p3)) (p6 (0 + Int.toNat p3)) (p7 (0 + Int.toNat p3)) (p8 (0 + Int.toNat p3)) (p9 (0 + Int.toNat p3)) (p10 (0 + Int.toNat p3)) (p11 (0 + Int.toNat p3)) (p12 (0 + Int.toNat p3)))) (AF.val (abfA a0 a1 a2 a3 a4 a5 a6 a7 a8 a9 a10 a11 a12 a13 (p5 (0 + Int.toNat p3)) (p6 (0 + Int.toNat p3)) (p7 (0 + Int.toNat p3)) (p8 (0 + Int.toNat p3)) (p9 (0 + Int.toNat p3)) (p10 (0 + Int.toNat p3)) (p11 (0 + Int.toNat p3)) (p12 (0 + Int.toNat p3)))))) [0, 1, 2, 3, 4]))
   (.leaf (.next (.n1 p0 false false (Ar.run Ar.add IntKind.i64 p3 1) p4 (fun i => p5 i) (fun i => p6 i) (fun i => p7 i) (fun i => p8 i) (fun i => p9 i) (fun i => p10 i) (fun i => p11 i) (fun i => p12 i) (Ar.run Ar.mn IntKind.i64 (AF.val (abfA a0 a1 a2 a3 a4 a5 a6 a7 a8 a9 a10 a11 a12 a13 (p5 (0 + Int.toNat p3)) (p6 (0 + Int.toNat p3)) (p7 (0 + Int.toNat p3)) (p8 (0 + Int.toNat p3)) (p9 (0 + Int.toNat p3)) (p10 (0 + Int.toNat p3)) (p11 (0 + Int.toNat p3)) (p12 (0 + Int.toNat p3)))) (AF.val (abfA a0 a1 a2 a3 a4 a5 a6 a7 a8 a9 a10 a11 a12 a13 (p5 (0 + Int.toNat p3)) (p6 (0 + Int.toNat p3)) (p7 (0 + Int.toNat p3)) (p8 (0 + Int.toNat p3)) (p9 (0 + Int.toNat p3)) (p10 (0 + Int.toNat p3)) (p11 (0 + Int.toNat p3)) (p12 (0 + Int.toNat p3))))) (Ar.run Ar.mx IntKind.i64 (AF.val (abfA a0 a1 a2 a3 a4 a5 a6 a7 a8 a9 a10 a11 a12 a13 (p5 (0 + Int.toNat p3)) (p6 (0 + Int.toNat p3)) (p7 (0 + Int.toNat p3)) (p8 (0 + Int.toNat p3)) (p9 (0 + Int.toNat p3)) (p10 (0 + Int.toNat p3)) (p11 (0 + Int.toNat p3)) (p12 (0 + Int.toNat p3)))) (AF.val (abfA a0 a1 a2 a3 a4 a5 a6 a7 a8 a9 a10 a11 a12 a13 (p5 (0 + Int.toNat p3)) (p6 (0 + Int.toNat p3)) (p7 (0 + Int.toNat p3)) (p8 (0 + Int.toNat p3)) (p9 (0 + Int.toNat p3)) (p10 (0 + Int.toNat p3)) (p11 (0 + Int.toNat p3)) (p12 (0 + Int.toNat p3)))))) [0, 1, 2, 3, 4])))))))))))
   (.ask (p2)
   (.leaf (.next (.n1 p0 false true (Ar.run Ar.add IntKind.i64 p3 1) p4 (fun i => p5 i) (fun i => p6 i) (fun i => p7 i) (fun i => p8 i) (fun i => p9 i) (fun i => p10 i) (fun i => p11 i) (fun i => p12 i) (Ar.run Ar.mn IntKind.i64 (AF.val (abfA a0 a1 a2 a3 a4 a5 a6 a7 a8 a9 a10 a11 a12 a13 (p5 (0 + Int.toNat p3)) (p6 (0 + Int.toNat p3)) (p7 (0 + Int.toNat p3)) (p8 (0 + Int.toNat p3)) (p9 (0 + Int.toNat p3)) (p10 (0 + Int.toNat p3)) (p11 (0 + Int.toNat p3)) (p12 (0 + Int.toNat p3)))) (AF.val (abfA a0 a1 a2 a3 a4 a5 a6 a7 a8 a9 a10 a11 a12 a13 (p5 (0 + Int.toNat p3)) (p6 (0 + Int.toNat p3)) (p7 (0 + Int.toNat p3)) (p8 (0 + Int.toNat p3)) (p9 (0 + Int.toNat p3)) (p10 (0 + Int.toNat p3)) (p11 (0 + Int.toNat p3)) (p12 (0 + Int.toNat p3))))) (Ar.run Ar.mx IntKind.i64 (AF.val (abfA a0 a1 a2 a3 a4 a5 a6 a7 a8 a9 a10 a11 a12 a13 (p5 (0 + Int.toNat p3)) (p6 (0 + Int.toNat p3)) (p7 (0 + Int.toNat p3)) (p8 (0 + Int.toNat p3)) (p9 (0 + Int.toNat p3)) (p10 (0 + Int.toNat p3)) (p11 (0 + Int.toNat p3)) (p12 (0 + Int.toNat p3)))) (AF.val (abfA a0 a1 a2 a3 a4 a5 a6 a7 a8 a9 a10 a11 a12 a13 (p5 (0 + Int.toNat p3)) (p6 (0 + Int.toNat p3)) (p7 (0 + Int.toNat p3)) (p8 (0 + Int.toNat p3)) (p9 (0 + Int.toNat p3)) (p10 (0 + Int.toNat p3)) (p11 (0 + Int.toNat p3)) (p12 (0 + Int.toNat p3)))))) [0, 1, 2, 3, 4]))
   (.must (decide (0 ≤ p3))
   (.must (decide (p3 < (↑p0 : Int)))
   (.must (decide (0 + Int.toNat p3 < p4))
   (.ask (Cm.run Cm.leq (AF.val (abfA a0 a1 a2 a3 a4 a5 a6 a7 a8 a9 a10 a11 a12 a13 (p5 (0 + Int.toNat p3)) (p6 (0 + Int.toNat p3)) (p7 (0 + Int.toNat p3)) (p8 (0 + Int.toNat p3)) (p9 (0 + Int.toNat p3)) (p10 (0 + Int.toNat p3)) (p11 (0 + Int.toNat p3)) (p12 (0 + Int.toNat p3)))) (p9 (0 + Int.toNat p3)))
   (.leaf (.next (.n1 p0 false true (Ar.run Ar.add IntKind.i64 p3 1) p4 (fun i => p5 i) (fun i => p6 i) (fun i => p7 i) (fun i => p8 i) (fun i => p9 i) (fun i => p10 i) (fun i => p11 i) (fun i => p12 i) (Ar.run Ar.mn IntKind.i64 (AF.val (abfA a0 a1 a2 a3 a4 a5 a6 a7 a8 a9 a10 a11 a12 a13 (p5 (0 + Int.toNat p3)) (p6 (0 + Int.toNat p3)) (p7 (0 + Int.toNat p3)) (p8 (0 + Int.toNat p3)) (p9 (0 + Int.toNat p3)) (p10 (0 + Int.toNat p3)) (p11 (0 + Int.toNat p3)) (p12 (0 + Int.toNat p3)))) (AF.val (abfA a0 a1 a2 a3 a4 a5 a6 a7 a8 a9 a10 a11 a12 a13 (p5 (0 + Int.toNat p3)) (p6 (0 + Int.toNat p3)) (p7 (0 + Int.toNat p3)) (p8 (0 + Int.toNat p3)) (p9 (0 + Int.toNat p3)) (p10 (0 + Int.toNat p3)) (p11 (0 + Int.toNat p3)) (p12 (0 + Int.toNat p3))))) (Ar.run Ar.mx IntKind.i64 (AF.val (abfA a0 a1 a2 a3 a4 a5 a6 a7 a8 a9 a10 a11 a12 a13 (p5 (0 + Int.toNat p3)) (p6 (0 + Int.toNat p3)) (p7 (0 + Int.toNat p3)) (p8 (0 + Int.toNat p3)) (p9 (0 + Int.toNat p3)) (p10 (0 + Int.toNat p3)) (p11 (0 + Int.toNat p3)) (p12 (0 + Int.toNat p3)))) (AF.val (abfA a0 a1 a2 a3 a4 a5 a6 a7 a8 a9 a10 a11 a12 a13 (p5 (0 + Int.toNat p3)) (p6 (0 + Int.toNat p3)) (p7 (0 + Int.toNat p3)) (p8 (0 + Int.toNat p3)) (p9 (0 + Int.toNat p3)) (p10 (0 + Int.toNat p3)) (p11 (0 + Int.toNat p3)) (p12 (0 + Int.toNat p3)))))) [0, 1, 2, 3, 4]))
   (.leaf (.next (.n1 p0 false false (Ar.run Ar.add IntKind.i64 p3 1) p4 (fun i => p5 i) (fun i => p6 i) (fun i => p7 i) (fun i => p8 i) (fun i => p9 i) (fun i => p10 i) (fun i => p11 i) (fun i => p12 i) (Ar.run Ar.mn IntKind.i64 (AF.val (abfA a0 a1 a2 a3 a4 a5 a6 a7 a8 a9 a10 a11 a12 a13 (p5 (0 + Int.toNat p3)) (p6 (0 + Int.toNat p3)) (p7 (0 + Int.toNat p3)) (p8 (0 + Int.toNat p3)) (p9 (0 + Int.toNat p3)) (p10 (0 + Int.toNat p3)) (p11 (0 + Int.toNat p3)) (p12 (0 + Int.toNat p3)))) (AF.val (abfA a0 a1 a2 a3 a4 a5 a6 a7 a8 a9 a10 a11 a12 a13 (p5 (0 + Int.toNat p3)) (p6 (0 + Int.toNat p3)) (p7 (0 + Int.toNat p3)) (p8 (0 + Int.toNat p3)) (p9 (0 + Int.toNat p3)) (p10 (0 + Int.toNat p3)) (p11 (0 + Int.toNat p3)) (p12 (0 + Int.toNat p3))))) (Ar.run Ar.mx IntKind.i64 (AF.val (abfA a0 a1 a2 a3 a4 a5 a6 a7 a8 a9 a10 a11 a12 a13 (p5 (0 + Int.toNat p3)) (p6 (0 + Int.toNat p3)) (p7 (0 + Int.toNat p3)) (p8 (0 + Int.toNat p3)) (p9 (0 + Int.toNat p3)) (p10 (0 + Int.toNat p3)) (p11 (0 + Int.toNat p3)) (p12 (0 + Int.toNat p3)))) (AF.val (abfA a0 a1 a2 a3 a4 a5 a6 a7 a8 a9 a10 a11 a12 a13 (p5 (0 + Int.toNat p3)) (p6 (0 + Int.toNat p3)) (p7 (0 + Int.toNat p3)) (p8 (0 + Int.toNat p3)) (p9 (0 + Int.toNat p3)) (p10 (0 + Int.toNat p3)) (p11 (0 + Int.toNat p3)) (p12 (0 + Int.toNat p3)))))) [0, 1, 2, 3, 4]))))))))
   (.ask (p1)
   (.must (decide (0 ≤ p3))
   (.must (decide (p3 < (↑p0 : Int)))
   (.must (decide (0 + Int.toNat p3 < p4))
   (.ask (Cm.run Cm.leq (AF.val (abfA a0 a1 a2 a3 a4 a5 a6 a7 a8 a9 a10 a11 a12 a13 (p5 (0 + Int.toNat p3)) (p6 (0 + Int.toNat p3)) (p7 (0 + Int.toNat p3)) (p8 (0 + Int.toNat p3)) (p9 (0 + Int.toNat p3)) (p10 (0 + Int.toNat p3)) (p11 (0 + Int.toNat p3)) (p12 (0 + Int.toNat p3)))) (p9 (0 + Int.toNat p3)))
   (.ask (p2)
   (.leaf (.next (.n1 p0 true true (Ar.run Ar.add IntKind.i64 p3 1) p4 (fun i => p5 i) (fun i => p6 i) (fun i => p7 i) (fun i => p8 i) (fun i => p9 i) (fun i => p10 i) (fun i => p11 i) (fun i => p12 i) (Ar.run Ar.mn IntKind.i64 p13 (AF.val (abfA a0 a1 a2 a3 a4 a5 a6 a7 a8 a9 a10 a11 a12 a13 (p5 (0 + Int.toNat p3)) (p6 (0 + Int.toNat p3)) (p7 (0 + Int.toNat p3)) (p8 (0 + Int.toNat p3)) (p9 (0 + Int.toNat p3)) (p10 (0 + Int.toNat p3)) (p11 (0 + Int.toNat p3)) (p12 (0 + Int.toNat p3))))) (Ar.run Ar.mx IntKind.i64 p14 (AF.val (abfA a0 a1 a2 a3 a4 a5 a6 a7 a8 a9 a10 a11 a12 a13 (p5 (0 + Int.toNat p3)) (p6 (0 + Int.toNat p3)) (p7 (0 + Int.toNat p3)) (p8 (0 + Int.toNat p3)) (p9 (0 + Int.toNat p3)) (p10 (0 + Int.toNat p3)) (p11 (0 + Int.toNat p3)) (p12 (0 + Int.toNat p3)))))) [0, 1, 2, 3, 4]))
   (.must (decide (0 ≤ p3))
   (.must (decide (p3 < (↑p0 : Int)))
   (.must (decide (0 + Int.toNat p3 < p4))
   (.ask (Cm.run Cm.leq (AF.val (abfA a0 a1 a2 a3 a4 a5 a6 a7 a8 a9 a10 a11 a12 a13 (p5 (0 + Int.toNat p3)) (p6 (0 + Int.toNat p3)) (p7 (0 + Int.toNat p3)) (p8 (0 + Int.toNat p3)) (p9 (0 + Int.toNat p3)) (p10 (0 + Int.toNat p3)) (p11 (0 + Int.toNat p3)) (p12 (0 + Int.toNat p3)))) (p9 (0 + Int.toNat p3)))
   (.leaf (.next (.n1 p0 true true (Ar.run Ar.add IntKind.i64 p3 1) p4 (fun i => p5 i) (fun i => p6 i) (fun i => p7 i) (fun i => p8 i) (fun i => p9 i) (fun i => p10 i) (fun i => p11 i) (fun i => p12 i) (Ar.run Ar.mn IntKind.i64 p13 (AF.val (abfA a0 a1 a2 a3 a4 a5 a6 a7 a8 a9 a10 a11 a12 a13 (p5 (0 + Int.toNat p3)) (p6 (0 + Int.toNat p3)) (p7 (0 + Int.toNat p3)) (p8 (0 + Int.toNat p3)) (p9 (0 + Int.toNat p3)) (p10 (0 + Int.toNat p3)) (p11 (0 + Int.toNat p3)) (p12 (0 + Int.toNat p3))))) (Ar.run Ar.mx IntKind.i64 p14 (AF.val (abfA a0 a1 a2 a3 a4 a5 a6 a7 a8 a9 a10 a11 a12 a13 (p5 (0 + Int.toNat p3)) (p6 (0 + Int.toNat p3)) (p7 (0 + Int.toNat p3)) (p8 (0 + Int.toNat p3)) (p9 (0 + Int.toNat p3)) (p10 (0 + Int.toNat p3)) (p11 (0 + Int.toNat p3)) (p12 (0 + Int.toNat p3)))))) [0, 1, 2, 3, 4]))
   (.leaf (.next (.n1 p0 true false (Ar.run Ar.add IntKind.i64 p3 1) p4 (fun i => p5 i) (fun i => p6 i) (fun i => p7 i) (fun i => p8 i) (fun i => p9 i) (fun i => p10 i) (fun i => p11 i) (fun i => p12 i) (Ar.run Ar.mn IntKind.i64 p13 (AF.val (abfA a0 a1 a2 a3 a4 a5 a6 a7 a8 a9 a10 a11 a12 a13 (p5 (0 + Int.toNat p3)) (p6 (0 + Int.toNat p3)) (p7 (0 + Int.toNat p3)) (p8 (0 + Int.toNat p3)) (p9 (0 + Int.toNat p3)) (p10 (0 + Int.toNat p3)) (p11 (0 + Int.toNat p3)) (p12 (0 + Int.toNat p3))))) (Ar.run Ar.mx IntKind.i64 p14 (AF.val (abfA a0 a1 a2 a3 a4 a5 a6 a7 a8 a9 a10 a11 a12 a13 (p5 (0 + Int.toNat p3)) (p6 (0 + Int.toNat p3)) (p7 (0 + Int.toNat p3)) (p8 (0 + Int.toNat p3)) (p9 (0 + Int.toNat p3)) (p10 (0 + Int.toNat p3)) (p11 (0 + Int.toNat p3)) (p12 (0 + Int.toNat p3)))))) [0, 1, 2, 3, 4])))))))
   (.ask (p2)
   (.leaf (.next (.n1 p0 false true (Ar.run Ar.add IntKind.i64 p3 1) p4 (fun i => p5 i) (fun i => p6 i) (fun i => p7 i) (fun i => p8 i) (fun i => p9 i) (fun i => p10 i) (fun i => p11 i) (fun i => p12 i) (Ar.run Ar.mn IntKind.i64 p13 (AF.val (abfA a0 a1 a2 a3 a4 a5 a6 a7 a8 a9 a10 a11 a12 a13 (p5 (0 + Int.toNat p3)) (p6 (0 + Int.toNat p3)) (p7 (0 + Int.toNat p3)) (p8 (0 + Int.toNat p3)) (p9 (0 + Int.toNat p3)) (p10 (0 + Int.toNat p3)) (p11 (0 + Int.toNat p3)) (p12 (0 + Int.toNat p3))))) (Ar.run Ar.mx IntKind.i64 p14 (AF.val (abfA a0 a1 a2 a3 a4 a5 a6 a7 a8 a9 a10 a11 a12 a13 (p5 (0 + Int.toNat p3)) (p6 (0 + Int.toNat p3)) (p7 (0 + Int.toNat p3)) (p8 (0 + Int.toNat p3)) (p9 (0 + Int.toNat p3)) (p10 (0 + Int.toNat p3)) (p11 (0 + Int.toNat p3)) (p12 (0 + Int.toNat p3)))))) [0, 1, 2, 3, 4]))
   (.must (decide (0 ≤ p3))
   (.must (decide (p3 < (↑p0 : Int)))
   (.must (decide (0 + Int.toNat p3 < p4))
   (.ask (Cm.run Cm.leq (AF.val (abfA a0 a1 a2 a3 a4 a5 a6 a7 a8 a9 a10 a11 a12 a13 (p5 (0 + Int.toNat p3)) (p6 (0 + Int.toNat p3)) (p7 (0 + Int.toNat p3)) (p8 (0 + Int.toNat p3)) (p9 (0 + Int.toNat p3)) (p10 (0 + Int.toNat p3)) (p11 (0 + Int.toNat p3)) (p12 (0 + Int.toNat p3)))) (p9 (0 + Int.toNat p3)))
   (.leaf (.next (.n1 p0 false true (Ar.run Ar.add IntKind.i64 p3 1) p4 (fun i => p5 i) (fun i => p6 i) (fun i => p7 i) (fun i => p8 i) (fun i => p9 i) (fun i => p10 i) (fun i => p11 i) (fun i => p12 i) (Ar.run Ar.mn IntKind.i64 p13 (AF.val (abfA a0 a1 a2 a3 a4 a5 a6 a7 a8 a9 a10 a11 a12 a13 (p5 (0 + Int.toNat p3)) (p6 (0 + Int.toNat p3)) (p7 (0 + Int.toNat p3)) (p8 (0 + Int.toNat p3)) (p9 (0 + Int.toNat p3)) (p10 (0 + Int.toNat p3)) (p11 (0 + Int.toNat p3)) (p12 (0 + Int.toNat p3))))) (Ar.run Ar.mx IntKind.i64 p14 (AF.val (abfA a0 a1 a2 a3 a4 a5 a6 a7 a8 a9 a10 a11 a12 a13 (p5 (0 + Int.toNat p3)) (p6 (0 + Int.toNat p3)) (p7 (0 + Int.toNat p3)) (p8 (0 + Int.toNat p3)) (p9 (0 + Int.toNat p3)) (p10 (0 + Int.toNat p3)) (p11 (0 + Int.toNat p3)) (p12 (0 + Int.toNat p3)))))) [0, 1, 2, 3, 4]))
   (.leaf (.next (.n1 p0 false false (Ar.run Ar.add IntKind.i64 p3 1) p4 (fun i => p5 i) (fun i => p6 i) (fun i => p7 i) (fun i => p8 i) (fun i => p9 i) (fun i => p10 i) (fun i => p11 i) (fun i => p12 i) (Ar.run Ar.mn IntKind.i64 p13 (AF.val (abfA a0 a1 a2 a3 a4 a5 a6 a7 a8 a9 a10 a11 a12 a13 (p5 (0 + Int.toNat p3)) (p6 (0 + Int.toNat p3)) (p7 (0 + Int.toNat p3)) (p8 (0 + Int.toNat p3)) (p9 (0 + Int.toNat p3)) (p10 (0 + Int.toNat p3)) (p11 (0 + Int.toNat p3)) (p12 (0 + Int.toNat p3))))) (Ar.run Ar.mx IntKind.i64 p14 (AF.val (abfA a0 a1 a2 a3 a4 a5 a6 a7 a8 a9 a10 a11 a12 a13 (p5 (0 + Int.toNat p3)) (p6 (0 + Int.toNat p3)) (p7 (0 + Int.toNat p3)) (p8 (0 + Int.toNat p3)) (p9 (0 + Int.toNat p3)) (p10 (0 + Int.toNat p3)) (p11 (0 + Int.toNat p3)) (p12 (0 + Int.toNat p3)))))) [0, 1, 2, 3, 4])))))))))))
   (.ask (p2)
   (.leaf (.next (.n1 p0 false true (Ar.run Ar.add IntKind.i64 p3 1) p4 (fun i => p5 i) (fun i => p6 i) (fun i => p7 i) (fun i => p8 i) (fun i => p9 i) (fun i => p10 i) (fun i => p11 i) (fun i => p12 i) (Ar.run Ar.mn IntKind.i64 p13 (AF.val (abfA a0 a1 a2 a3 a4 a5 a6 a7 a8 a9 a10 a11 a12 a13 (p5 (0 + Int.toNat p3)) (p6 (0 + Int.toNat p3)) (p7 (0 + Int.toNat p3)) (p8 (0 + Int.toNat p3)) (p9 (0 + Int.toNat p3)) (p10 (0 + Int.toNat p3)) (p11 (0 + Int.toNat p3)) (p12 (0 + Int.toNat p3))))) (Ar.run Ar.mx IntKind.i64 p14 (AF.val (abfA a0 a1 a2 a3 a4 a5 a6 a7 a8 a9 a10 a11 a12 a13 (p5 (0 + Int.toNat p3)) (p6 (0 + Int.toNat p3)) (p7 (0 + Int.toNat p3)) (p8 (0 + Int.toNat p3)) (p9 (0 + Int.toNat p3)) (p10 (0 + Int.toNat p3)) (p11 (0 + Int.toNat p3)) (p12 (0 + Int.toNat p3)))))) [0, 1, 2, 3, 4]))
   (.must (decide (0 ≤ p3))
   (.must (decide (p3 < (↑p0 : Int)))
   (.must (decide (0 + Int.toNat p3 < p4))
   (.ask (Cm.run Cm.leq (AF.val (abfA a0 a1 a2 a3 a4 a5 a6 a7 a8 a9 a10 a11 a12 a13 (p5 (0 + Int.toNat p3)) (p6 (0 + Int.toNat p3)) (p7 (0 + Int.toNat p3)) (p8 (0 + Int.toNat p3)) (p9 (0 + Int.toNat p3)) (p10 (0 + Int.toNat p3)) (p11 (0 + Int.toNat p3)) (p12 (0 + Int.toNat p3)))) (p9 (0 + Int.toNat p3)))
   (.leaf (.next (.n1 p0 false true (Ar.run Ar.add IntKind.i64 p3 1) p4 (fun i => p5 i) (fun i => p6 i) (fun i => p7 i) (fun i => p8 i) (fun i => p9 i) (fun i => p10 i) (fun i => p11 i) (fun i => p12 i) (Ar.run Ar.mn IntKind.i64 p13 (AF.val (abfA a0 a1 a2 a3 a4 a5 a6 a7 a8 a9 a10 a11 a12 a13 (p5 (0 + Int.toNat p3)) (p6 (0 + Int.toNat p3)) (p7 (0 + Int.toNat p3)) (p8 (0 + Int.toNat p3)) (p9 (0 + Int.toNat p3)) (p10 (0 + Int.toNat p3)) (p11 (0 + Int.toNat p3)) (p12 (0 + Int.toNat p3))))) (Ar.run Ar.mx IntKind.i64 p14 (AF.val (abfA a0 a1 a2 a3 a4 a5 a6 a7 a8 a9 a10 a11 a12 a13 (p5 (0 + Int.toNat p3)) (p6 (0 + Int.toNat p3)) (p7 (0 + Int.toNat p3)) (p8 (0 + Int.toNat p3)) (p9 (0 + Int.toNat p3)) (p10 (0 + Int.toNat p3)) (p11 (0 + Int.toNat p3)) (p12 (0 + Int.toNat p3)))))) [0, 1, 2, 3, 4]))
   (.leaf (.next (.n1 p0 false false (Ar.run Ar.add IntKind.i64 p3 1) p4 (fun i => p5 i) (fun i => p6 i) (fun i => p7 i) (fun i => p8 i) (fun i => p9 i) (fun i => p10 i) (fun i => p11 i) (fun i => p12 i) (Ar.run Ar.mn IntKind.i64 p13 (AF.val (abfA a0 a1 a2 a3 a4 a5 a6 a7 a8 a9 a10 a11 a12 a13 (p5 (0 + Int.toNat p3)) (p6 (0 + Int.toNat p3)) (p7 (0 + Int.toNat p3)) (p8 (0 + Int.toNat p3)) (p9 (0 + Int.toNat p3)) (p10 (0 + Int.toNat p3)) (p11 (0 + Int.toNat p3)) (p12 (0 + Int.toNat p3))))) (Ar.run Ar.mx IntKind.i64 p14 (AF.val (abfA a0 a1 a2 a3 a4 a5 a6 a7 a8 a9 a10 a11 a12 a13 (p5 (0 + Int.toNat p3)) (p6 (0 + Int.toNat p3)) (p7 (0 + Int.toNat p3)) (p8 (0 + Int.toNat p3)) (p9 (0 + Int.toNat p3)) (p10 (0 + Int.toNat p3)) (p11 (0 + Int.toNat p3)) (p12 (0 + Int.toNat p3)))))) [0, 1, 2, 3, 4])))))))))))))
   (.leaf (.done (p13, p14, p1, p2) []))

noncomputable def abgA (a0 : Int) (a1 : Int) (a2 : Int) (a3 : Int) (a4 : Int) (a5 : Int) (a6 : Int) (a7 : Int) (a8 : Int) (a9 : Int) (a10 : Int) (a11 : Int) (a12 : Int) (a13 : Int) (a14 : Int) (a15 : Int) (a16 : Int) (a17 : Int) (a18 : Int) (a19 : Int) : AF abgN abgR where
  code := abgCode
  base := 0
  nt := 68
  m := 400
  un := []
  W := []
  h0 := []
  args := [.agg [.int .i64 (.x a0), .int .i64 (.x a1), .int .i64 (.x a2), .int .i64 (.x a3), .int .i64 (.x a4), .int .i64 (.x a5), .int .i64 (.x a6), .int .i64 (.x a7), .int .i64 (.x a8), .int .i64 (.x a9), .int .i64 (.x a10), .int .i64 (.x a11), .int .i64 (.x a12)], .agg [.int .i64 (.x a13), .int .i64 (.x a14), .int .i64 (.x a15), .int .i64 (.x a16), .int .i64 (.x a17), .int .i64 (.x a18), .int .i64 (.x a19)]]
  res := (Try.f19).results.toList
  path := fun a => match a with
   | .n0 p0 p1 p2 p3 p4 p5 p6 p7 p8 => [1, 1, 1, 0, 1, 0]
   | .n1 p0 p1 p2 p3 p4 p5 p6 p7 p8 p9 p10 p11 p12 p13 p14 => [1, 1, 1, 0, 1, 0]
  pd := fun a => match a with
   | .n0 p0 p1 p2 p3 p4 p5 p6 p7 p8 => ⟨[(2, .ptr (some (0, 0))), (3, .ptr (some (1, 0))), (4, .ptr (some (2, 0))), (7, .sla 3 8 0 p0), (8, .ptr (some (4, 0))), (9, .bool (.x true)), (10, .bool (.x false)), (11, .int .i64 (.x 0))], [(0, ⟨.lit [.int .i64 (.x a0), .int .i64 (.x a1), .int .i64 (.x a2), .int .i64 (.x a3), .int .i64 (.x a4), .int .i64 (.x a5), .int .i64 (.x a6), .int .i64 (.x a7), .int .i64 (.x a8), .int .i64 (.x a9), .int .i64 (.x a10), .int .i64 (.x a11), .int .i64 (.x a12)], 0, true, none⟩), (1, ⟨.lit [.int .i64 (.x a13), .int .i64 (.x a14), .int .i64 (.x a15), .int .i64 (.x a16), .int .i64 (.x a17), .int .i64 (.x a18), .int .i64 (.x a19)], 0, true, none⟩), (2, ⟨.lit [.int .i64 (.x 0), .int .i64 (.x 0)], 0, true, none⟩), (3, ⟨.rows p0 8 (fun i => [.int .i64 (.x (p1 i)), .int .i64 (.x (p2 i)), .int .i64 (.x (p3 i)), .int .i64 (.x (p4 i)), .int .i64 (.x (p5 i)), .int .i64 (.x (p6 i)), .int .i64 (.x (p7 i)), .int .i64 (.x (p8 i))]) (fun _ => ⟨rfl, rfl⟩), 8, true, none⟩), (4, ⟨.lit [.int .i64 (.x 0), .int .i64 (.x 0)], 0, true, none⟩)], 5, []⟩
   | .n1 p0 p1 p2 p3 p4 p5 p6 p7 p8 p9 p10 p11 p12 p13 p14 => ⟨[(2, .ptr (some (0, 0))), (3, .ptr (some (1, 0))), (4, .ptr (some (2, 0))), (7, .sla 3 8 0 p0), (8, .ptr (some (4, 0))), (9, .bool (.x p1)), (10, .bool (.x p2)), (11, .int .i64 (.x p3)), (23, .agg [.int .i64 (.x a0), .int .i64 (.x a1), .int .i64 (.x a2), .int .i64 (.x a3), .int .i64 (.x a4), .int .i64 (.x a5), .int .i64 (.x a6), .int .i64 (.x a7), .int .i64 (.x a8), .int .i64 (.x a9), .int .i64 (.x a10), .int .i64 (.x a11), .int .i64 (.x a12)])], [(0, ⟨.lit [.int .i64 (.x a0), .int .i64 (.x a1), .int .i64 (.x a2), .int .i64 (.x a3), .int .i64 (.x a4), .int .i64 (.x a5), .int .i64 (.x a6), .int .i64 (.x a7), .int .i64 (.x a8), .int .i64 (.x a9), .int .i64 (.x a10), .int .i64 (.x a11), .int .i64 (.x a12)], 0, true, none⟩), (1, ⟨.lit [.int .i64 (.x a13), .int .i64 (.x a14), .int .i64 (.x a15), .int .i64 (.x a16), .int .i64 (.x a17), .int .i64 (.x a18), .int .i64 (.x a19)], 0, true, none⟩), (2, ⟨.lit [.int .i64 (.x 0), .int .i64 (.x 0)], 0, true, none⟩), (3, ⟨.rows p4 8 (fun i => [.int .i64 (.x (p5 i)), .int .i64 (.x (p6 i)), .int .i64 (.x (p7 i)), .int .i64 (.x (p8 i)), .int .i64 (.x (p9 i)), .int .i64 (.x (p10 i)), .int .i64 (.x (p11 i)), .int .i64 (.x (p12 i))]) (fun _ => ⟨rfl, rfl⟩), 8, true, none⟩), (4, ⟨.lit [.int .i64 (.x p13), .int .i64 (.x p14)], 0, true, none⟩)], 5, []⟩
  D0 := abgD0 a0 a1 a2 a3 a4 a5 a6 a7 a8 a9 a10 a11 a12 a13 a14 a15 a16 a17 a18 a19
  D := abgD a0 a1 a2 a3 a4 a5 a6 a7 a8 a9 a10 a11 a12 a13 a14 a15 a16 a17 a18 a19
  rc := (fun v => .tup [.agg [.int .i64 (.x v.1), .int .i64 (.x v.2.1)], .bool (.x v.2.2.1), .bool (.x v.2.2.2)])
  rh := (fun v => [])
  rn := (fun v => 0)
  rx := (fun v => [])
  rgo := (fun _ => none)


theorem abgstart (a0 : Int) (a1 : Int) (a2 : Int) (a3 : Int) (a4 : Int) (a5 : Int) (a6 : Int) (a7 : Int) (a8 : Int) (a9 : Int) (a10 : Int) (a11 : Int) (a12 : Int) (a13 : Int) (a14 : Int) (a15 : Int) (a16 : Int) (a17 : Int) (a18 : Int) (a19 : Int) : AF.edgeOk (abgA a0 a1 a2 a3 a4 a5 a6 a7 a8 a9 a10 a11 a12 a13 a14 a15 a16 a17 a18 a19) (ctxOf Try.prog memo0) (abgD0 a0 a1 a2 a3 a4 a5 a6 a7 a8 a9 a10 a11 a12 a13 a14 a15 a16 a17 a18 a19) (AF.run0 (abgA a0 a1 a2 a3 a4 a5 a6 a7 a8 a9 a10 a11 a12 a13 a14 a15 a16 a17 a18 a19) (ctxOf Try.prog (memoA 60 abfP abfF (memoS 31 abtP abtF abtW abtH 1 memo0)))) := by unfold AF.edgeOk; kernel_rfl

theorem abgnode0 (a0 : Int) (a1 : Int) (a2 : Int) (a3 : Int) (a4 : Int) (a5 : Int) (a6 : Int) (a7 : Int) (a8 : Int) (a9 : Int) (a10 : Int) (a11 : Int) (a12 : Int) (a13 : Int) (a14 : Int) (a15 : Int) (a16 : Int) (a17 : Int) (a18 : Int) (a19 : Int) (p0 : Nat) (p1 : Nat → Int) (p2 : Nat → Int) (p3 : Nat → Int) (p4 : Nat → Int) (p5 : Nat → Int) (p6 : Nat → Int) (p7 : Nat → Int) (p8 : Nat → Int) : AF.edgeOk (abgA a0 a1 a2 a3 a4 a5 a6 a7 a8 a9 a10 a11 a12 a13 a14 a15 a16 a17 a18 a19) (ctxOf Try.prog memo0) (abgD a0 a1 a2 a3 a4 a5 a6 a7 a8 a9 a10 a11 a12 a13 a14 a15 a16 a17 a18 a19 (.n0 p0 p1 p2 p3 p4 p5 p6 p7 p8)) (AF.runN (abgA a0 a1 a2 a3 a4 a5 a6 a7 a8 a9 a10 a11 a12 a13 a14 a15 a16 a17 a18 a19) (ctxOf Try.prog (memoA 60 abfP abfF (memoS 31 abtP abtF abtW abtH 1 memo0))) (.n0 p0 p1 p2 p3 p4 p5 p6 p7 p8)) := by unfold AF.edgeOk; kernel_rfl

theorem abgnode1 (a0 : Int) (a1 : Int) (a2 : Int) (a3 : Int) (a4 : Int) (a5 : Int) (a6 : Int) (a7 : Int) (a8 : Int) (a9 : Int) (a10 : Int) (a11 : Int) (a12 : Int) (a13 : Int) (a14 : Int) (a15 : Int) (a16 : Int) (a17 : Int) (a18 : Int) (a19 : Int) (p0 : Nat) (p1 : Bool) (p2 : Bool) (p3 : Int) (p4 : Nat) (p5 : Nat → Int) (p6 : Nat → Int) (p7 : Nat → Int) (p8 : Nat → Int) (p9 : Nat → Int) (p10 : Nat → Int) (p11 : Nat → Int) (p12 : Nat → Int) (p13 : Int) (p14 : Int) : AF.edgeOk (abgA a0 a1 a2 a3 a4 a5 a6 a7 a8 a9 a10 a11 a12 a13 a14 a15 a16 a17 a18 a19) (ctxOf Try.prog memo0) (abgD a0 a1 a2 a3 a4 a5 a6 a7 a8 a9 a10 a11 a12 a13 a14 a15 a16 a17 a18 a19 (.n1 p0 p1 p2 p3 p4 p5 p6 p7 p8 p9 p10 p11 p12 p13 p14)) (AF.runN (abgA a0 a1 a2 a3 a4 a5 a6 a7 a8 a9 a10 a11 a12 a13 a14 a15 a16 a17 a18 a19) (ctxOf Try.prog (memoA 60 abfP abfF (memoS 31 abtP abtF abtW abtH 1 memo0))) (.n1 p0 p1 p2 p3 p4 p5 p6 p7 p8 p9 p10 p11 p12 p13 p14)) := by unfold AF.edgeOk; kernel_rfl

theorem abgok (a0 : Int) (a1 : Int) (a2 : Int) (a3 : Int) (a4 : Int) (a5 : Int) (a6 : Int) (a7 : Int) (a8 : Int) (a9 : Int) (a10 : Int) (a11 : Int) (a12 : Int) (a13 : Int) (a14 : Int) (a15 : Int) (a16 : Int) (a17 : Int) (a18 : Int) (a19 : Int) : (abgA a0 a1 a2 a3 a4 a5 a6 a7 a8 a9 a10 a11 a12 a13 a14 a15 a16 a17 a18 a19).Ok Try.prog (ctxOf Try.prog (memoA 60 abfP abfF (memoS 31 abtP abtF abtW abtH 1 memo0))) where
  regs := by kernel_rfl
  h0 := by kernel_rfl
  start := abgstart a0 a1 a2 a3 a4 a5 a6 a7 a8 a9 a10 a11 a12 a13 a14 a15 a16 a17 a18 a19
  node := fun a _ => match a with
   | .n0 p0 p1 p2 p3 p4 p5 p6 p7 p8 => abgnode0 a0 a1 a2 a3 a4 a5 a6 a7 a8 a9 a10 a11 a12 a13 a14 a15 a16 a17 a18 a19 p0 p1 p2 p3 p4 p5 p6 p7 p8
   | .n1 p0 p1 p2 p3 p4 p5 p6 p7 p8 p9 p10 p11 p12 p13 p14 => abgnode1 a0 a1 a2 a3 a4 a5 a6 a7 a8 a9 a10 a11 a12 a13 a14 a15 a16 a17 a18 a19 p0 p1 p2 p3 p4 p5 p6 p7 p8 p9 p10 p11 p12 p13 p14
  pd := fun a => match a with
   | .n0 p0 p1 p2 p3 p4 p5 p6 p7 p8 => ⟨(fa_cons rfl (fa_cons rfl (fa_cons rfl (fa_cons rfl (fa_cons rfl (fa_cons rfl (fa_cons rfl (fa_cons rfl fa_nil)))))))), (fa_cons ⟨.inl (Nat.le_of_ble_eq_true rfl), rfl, rfl⟩ (fa_cons ⟨.inl (Nat.le_of_ble_eq_true rfl), rfl, rfl⟩ (fa_cons ⟨.inl (Nat.le_of_ble_eq_true rfl), rfl, rfl⟩ (fa_cons ⟨.inl (Nat.le_of_ble_eq_true rfl), (fun _ => rfl), rfl⟩ (fa_cons ⟨.inl (Nat.le_of_ble_eq_true rfl), rfl, rfl⟩ fa_nil))))), fa_nil, rfl⟩
   | .n1 p0 p1 p2 p3 p4 p5 p6 p7 p8 p9 p10 p11 p12 p13 p14 => ⟨(fa_cons rfl (fa_cons rfl (fa_cons rfl (fa_cons rfl (fa_cons rfl (fa_cons rfl (fa_cons rfl (fa_cons rfl (fa_cons rfl fa_nil))))))))), (fa_cons ⟨.inl (Nat.le_of_ble_eq_true rfl), rfl, rfl⟩ (fa_cons ⟨.inl (Nat.le_of_ble_eq_true rfl), rfl, rfl⟩ (fa_cons ⟨.inl (Nat.le_of_ble_eq_true rfl), rfl, rfl⟩ (fa_cons ⟨.inl (Nat.le_of_ble_eq_true rfl), (fun _ => rfl), rfl⟩ (fa_cons ⟨.inl (Nat.le_of_ble_eq_true rfl), rfl, rfl⟩ fa_nil))))), fa_nil, rfl⟩
  le := fun a => match a with
   | .n0 p0 p1 p2 p3 p4 p5 p6 p7 p8 => Nat.le_of_ble_eq_true rfl
   | .n1 p0 p1 p2 p3 p4 p5 p6 p7 p8 p9 p10 p11 p12 p13 p14 => Nat.le_of_ble_eq_true rfl
  rd := fun v => ⟨⟨fa_nil, fa_nil, fa_nil, rfl⟩, rfl⟩
  wb := rfl


theorem abghR {ρ : Env} (a0 : Int) (a1 : Int) (a2 : Int) (a3 : Int) (a4 : Int) (a5 : Int) (a6 : Int) (a7 : Int) (a8 : Int) (a9 : Int) (a10 : Int) (a11 : Int) (a12 : Int) (a13 : Int) (a14 : Int) (a15 : Int) (a16 : Int) (a17 : Int) (a18 : Int) (a19 : Int) (hM : MemoOk Try.prog (ctxOf Try.prog (memoA 60 abfP abfF (memoS 31 abtP abtF abtW abtH 1 memo0))) ρ) : ∀ X a q n D, FxOk ρ X → X.base = (abgA a0 a1 a2 a3 a4 a5 a6 a7 a8 a9 a10 a11 a12 a13 a14 a15 a16 a17 a18 a19).base → X.nt = (abgA a0 a1 a2 a3 a4 a5 a6 a7 a8 a9 a10 a11 a12 a13 a14 a15 a16 a17 a18 a19).nt → X.W = (abgA a0 a1 a2 a3 a4 a5 a6 a7 a8 a9 a10 a11 a12 a13 a14 a15 a16 a17 a18 a19).W → (abgA a0 a1 a2 a3 a4 a5 a6 a7 a8 a9 a10 a11 a12 a13 a14 a15 a16 a17 a18 a19).rgo a = some q → q n = some D → (abgA a0 a1 a2 a3 a4 a5 a6 a7 a8 a9 a10 a11 a12 a13 a14 a15 a16 a17 a18 a19).RangeOk Try.prog ρ X a D := AF.noRange rfl

theorem abgctr {ρ : Env} (a0 : Int) (a1 : Int) (a2 : Int) (a3 : Int) (a4 : Int) (a5 : Int) (a6 : Int) (a7 : Int) (a8 : Int) (a9 : Int) (a10 : Int) (a11 : Int) (a12 : Int) (a13 : Int) (a14 : Int) (a15 : Int) (a16 : Int) (a17 : Int) (a18 : Int) (a19 : Int) {n : Nat} {v : abgR} (hM : MemoOk Try.prog (ctxOf Try.prog (memoA 60 abfP abfF (memoS 31 abtP abtF abtW abtH 1 memo0))) ρ) (hv : (abgA a0 a1 a2 a3 a4 a5 a6 a7 a8 a9 a10 a11 a12 a13 a14 a15 a16 a17 a18 a19).run n = some v) :
    Ctr Try.prog ρ 19 (abgA a0 a1 a2 a3 a4 a5 a6 a7 a8 a9 a10 a11 a12 a13 a14 a15 a16 a17 a18 a19).args (abgA a0 a1 a2 a3 a4 a5 a6 a7 a8 a9 a10 a11 a12 a13 a14 a15 a16 a17 a18 a19).H0 (abgA a0 a1 a2 a3 a4 a5 a6 a7 a8 a9 a10 a11 a12 a13 a14 a15 a16 a17 a18 a19).base (abgA a0 a1 a2 a3 a4 a5 a6 a7 a8 a9 a10 a11 a12 a13 a14 a15 a16 a17 a18 a19).W ((abgA a0 a1 a2 a3 a4 a5 a6 a7 a8 a9 a10 a11 a12 a13 a14 a15 a16 a17 a18 a19).rc v) (putH (abgA a0 a1 a2 a3 a4 a5 a6 a7 a8 a9 a10 a11 a12 a13 a14 a15 a16 a17 a18 a19).H0 ((abgA a0 a1 a2 a3 a4 a5 a6 a7 a8 a9 a10 a11 a12 a13 a14 a15 a16 a17 a18 a19).rh v ++ (abgA a0 a1 a2 a3 a4 a5 a6 a7 a8 a9 a10 a11 a12 a13 a14 a15 a16 a17 a18 a19).rx v)) ((abgA a0 a1 a2 a3 a4 a5 a6 a7 a8 a9 a10 a11 a12 a13 a14 a15 a16 a17 a18 a19).rn v) :=
  AF.ctr try_ok hM (abgok a0 a1 a2 a3 a4 a5 a6 a7 a8 a9 a10 a11 a12 a13 a14 a15 a16 a17 a18 a19) (fn := Try.f19) Try.func19 rfl rfl (Nat.le_of_ble_eq_true rfl) rfl (abghR a0 a1 a2 a3 a4 a5 a6 a7 a8 a9 a10 a11 a12 a13 a14 a15 a16 a17 a18 a19 hM) hv


abbrev abgP : List AP := [.agg [.int .i64, .int .i64, .int .i64, .int .i64, .int .i64, .int .i64, .int .i64, .int .i64, .int .i64, .int .i64, .int .i64, .int .i64, .int .i64], .agg [.int .i64, .int .i64, .int .i64, .int .i64, .int .i64, .int .i64, .int .i64]]
noncomputable def abgF (v : AV) : AF abgN abgR := abgA (v.i.getD 0 0) (v.i.getD 1 0) (v.i.getD 2 0) (v.i.getD 3 0) (v.i.getD 4 0) (v.i.getD 5 0) (v.i.getD 6 0) (v.i.getD 7 0) (v.i.getD 8 0) (v.i.getD 9 0) (v.i.getD 10 0) (v.i.getD 11 0) (v.i.getD 12 0) (v.i.getD 13 0) (v.i.getD 14 0) (v.i.getD 15 0) (v.i.getD 16 0) (v.i.getD 17 0) (v.i.getD 18 0) (v.i.getD 19 0)
theorem abgknown {ρ : Env} (hM : MemoOk Try.prog (ctxOf Try.prog (memoA 60 abfP abfF (memoS 31 abtP abtF abtW abtH 1 memo0))) ρ) : KnownA Try.prog ρ 19 abgP abgF where
  fn := ⟨Try.f19, Try.func19, rfl⟩
  args := fun v => rfl
  plain := fun v r => rfl
  ctr := fun v n r h => abgctr (v.i.getD 0 0) (v.i.getD 1 0) (v.i.getD 2 0) (v.i.getD 3 0) (v.i.getD 4 0) (v.i.getD 5 0) (v.i.getD 6 0) (v.i.getD 7 0) (v.i.getD 8 0) (v.i.getD 9 0) (v.i.getD 10 0) (v.i.getD 11 0) (v.i.getD 12 0) (v.i.getD 13 0) (v.i.getD 14 0) (v.i.getD 15 0) (v.i.getD 16 0) (v.i.getD 17 0) (v.i.getD 18 0) (v.i.getD 19 0) hM h

end Go.Proofs.Ytgnmdknbnkljbaa.Cx

/- acmeref09.Forces yields the forces of two truths: the least and the greatest one; what it says of the yield. -/
namespace Go.Proofs.Ytgnmdknbnkljbaa.Cx
set_option linter.unusedVariables false
set_option linter.unusedSimpArgs false
set_option maxRecDepth 100000
open Go Go.RowKit

def armV (l th hd o1 o2 : Int) : Int := 1000 * l + th * o1 + hd * o2
/-- The force of a truth. -/
def frc (l th hd k o1 o2 st sp q an sr : Int) : Int :=
  if k = 3 then sp * sr else if k = 2 then (1000 * q).tdiv (armV l th hd o1 o2) + (st * an).tdiv 1000 else (1000 * q).tdiv (armV l th hd o1 o2)

theorem mul_rng {a b A B : Int} (ha : 0 ≤ a ∧ a ≤ A) (hb : 0 ≤ b ∧ b ≤ B) : 0 ≤ a * b ∧ a * b ≤ A * B :=
  ⟨Int.mul_nonneg ha.1 hb.1, Int.mul_le_mul ha.2 hb.2 hb.1 (by omega)⟩
theorem tdiv_rng {a b A : Int} (ha : 0 ≤ a ∧ a ≤ A) (hb : 1 ≤ b) : 0 ≤ a.tdiv b ∧ a.tdiv b ≤ A := by
  rw [Int.tdiv_eq_ediv_of_nonneg ha.1]
  refine ⟨Int.ediv_nonneg ha.1 (by omega), Int.le_trans (Int.ediv_le_self _ ha.1) ha.2⟩
theorem tdiv_mono {x y d e : Int} (hx : 0 ≤ x) (hxy : x ≤ y) (he : 1 ≤ e) (hed : e ≤ d) : x.tdiv d ≤ y.tdiv e := by
  rw [Int.tdiv_eq_ediv_of_nonneg hx, Int.tdiv_eq_ediv_of_nonneg (by omega)]
  rw [Int.le_ediv_iff_mul_le (by omega)]
  have h1 : x / d * d ≤ x := Int.ediv_mul_le _ (by omega)
  have h2 : 0 ≤ x / d := Int.ediv_nonneg hx (by omega)
  have h3 : x / d * e ≤ x / d * d := Int.mul_le_mul_of_nonneg_left hed h2
  omega

/-- Numbers of a truth, within bounds. -/
structure TB (l th hd o1 o2 st sp q an sr : Int) : Prop where
  l : 1 ≤ l ∧ l ≤ 100000
  th : 0 ≤ th ∧ th ≤ 100000
  hd : 0 ≤ hd ∧ hd ≤ 100000
  o1 : 0 ≤ o1 ∧ o1 ≤ 1000
  o2 : 0 ≤ o2 ∧ o2 ≤ 1000
  st : 0 ≤ st ∧ st ≤ 100000000
  sp : 0 ≤ sp ∧ sp ≤ 100000
  q : 0 ≤ q ∧ q ≤ 40000000000000
  an : 0 ≤ an ∧ an ≤ 100000
  sr : 0 ≤ sr ∧ sr ≤ 100000

theorem TB.arm {l th hd o1 o2 st sp q an sr : Int} (h : TB l th hd o1 o2 st sp q an sr) : 1000 ≤ armV l th hd o1 o2 ∧ armV l th hd o1 o2 ≤ 300000000 := by
  have h1 := mul_rng h.th h.o1
  have h2 := mul_rng h.hd h.o2
  have := h.l
  unfold armV
  omega

theorem frc_rng {l th hd k o1 o2 st sp q an sr : Int} (h : TB l th hd o1 o2 st sp q an sr) : 0 ≤ frc l th hd k o1 o2 st sp q an sr ∧ frc l th hd k o1 o2 st sp q an sr ≤ 50000000000000 := by
  have ha := h.arm
  have h1 := mul_rng h.sp h.sr
  have h2 := mul_rng h.st h.an
  have hq := h.q
  have h3 := tdiv_rng (a := 1000 * q) (A := 40000000000000000) (b := armV l th hd o1 o2) (by omega) (by omega)
  have h4 := tdiv_rng (b := 1000) h2 (by omega)
  have h5 : (1000 * q).tdiv (armV l th hd o1 o2) ≤ q := by
    have := tdiv_mono (x := 1000 * q) (y := 1000 * q) (d := armV l th hd o1 o2) (e := 1000) (by omega) (by omega) (by omega) (by omega)
    rw [Int.mul_tdiv_cancel_left q (by decide)] at this
    exact this
  have h6 : (st * an).tdiv 1000 ≤ 10000000000 := by
    have := tdiv_mono (x := st * an) (y := 10000000000000) (d := 1000) (e := 1000) h2.1 (by omega) (by omega) (by omega)
    exact Int.le_trans this (by decide)
  unfold frc
  split
  · omega
  · split <;> omega

theorem frc_mono {l th hd k o1 o2 st sp q an sr o1' o2' st' sp' q' an' sr' : Int} (h : TB l th hd o1 o2 st sp q an sr) (h' : TB l th hd o1' o2' st' sp' q' an' sr') (e1 : o1' ≤ o1) (e2 : o2' ≤ o2) (e3 : st ≤ st') (e4 : sp ≤ sp') (e5 : q ≤ q') (e6 : an ≤ an') (e7 : sr ≤ sr') :
    frc l th hd k o1 o2 st sp q an sr ≤ frc l th hd k o1' o2' st' sp' q' an' sr' := by
  have m1 : sp * sr ≤ sp' * sr' := Int.mul_le_mul e4 e7 h.sr.1 h'.sp.1
  have m2 : st * an ≤ st' * an' := Int.mul_le_mul e3 e6 h.an.1 h'.st.1
  have m3 : th * o1' ≤ th * o1 := Int.mul_le_mul_of_nonneg_left e1 h.th.1
  have m4 : hd * o2' ≤ hd * o2 := Int.mul_le_mul_of_nonneg_left e2 h.hd.1
  have hq := h.q
  have ha := h'.arm
  have d1 := tdiv_mono (x := 1000 * q) (y := 1000 * q') (d := armV l th hd o1 o2) (e := armV l th hd o1' o2') (by omega) (by omega) (by omega) (by unfold armV; omega)
  have d2 := tdiv_mono (x := st * an) (y := st' * an') (d := 1000) (e := 1000) (mul_rng h.st h.an).1 m2 (by omega) (by omega)
  unfold frc
  split
  · exact m1
  · split <;> omega

theorem abf_val (a0 a1 a2 a3 a4 a5 a6 a7 a8 a9 a10 a11 a12 a13 a14 a15 a16 a17 a18 a19 a20 a21 : Int) (h : TB a0 a1 a2 a14 a15 a16 a17 a19 a20 a21) : AF.fin (abfA a0 a1 a2 a3 a4 a5 a6 a7 a8 a9 a10 a11 a12 a13 a14 a15 a16 a17 a18 a19 a20 a21) = true ∧ AF.val (abfA a0 a1 a2 a3 a4 a5 a6 a7 a8 a9 a10 a11 a12 a13 a14 a15 a16 a17 a18 a19 a20 a21) = frc a0 a1 a2 a13 a14 a15 a16 a17 a19 a20 a21 :=
  AF.val_sat (Inv := fun _ => False) (E := fun v => v = frc a0 a1 a2 a13 a14 a15 a16 a17 a19 a20 a21) (fun _ => 0) (fun _ => rfl) (fun a => nomatch a) (by
    have ha := h.arm
    have h1 := mul_rng h.sp h.sr
    have h2 := mul_rng h.st h.an
    have h3 := mul_rng h.th h.o1
    have h4 := mul_rng h.hd h.o2
    have hq := h.q
    have hl := h.l
    have t1 := tdiv_rng (a := 1000 * a19) (A := 40000000000000000) (b := armV a0 a1 a2 a14 a15) (by omega) (by omega)
    have t2 := tdiv_rng (b := 1000) h2 (by omega)
    have hr := frc_rng (k := a13) h
    have e1 : Ar.run Ar.mul IntKind.i64 1000 a0 = 1000 * a0 := arMul (by omega)
    have e2 : Ar.run Ar.mul IntKind.i64 a1 a14 = a1 * a14 := arMul (by omega)
    have e3 : Ar.run Ar.mul IntKind.i64 a2 a15 = a2 * a15 := arMul (by omega)
    have e4 : Ar.run Ar.add IntKind.i64 (Ar.run Ar.add IntKind.i64 (Ar.run Ar.mul IntKind.i64 1000 a0) (Ar.run Ar.mul IntKind.i64 a1 a14)) (Ar.run Ar.mul IntKind.i64 a2 a15) = armV a0 a1 a2 a14 a15 := by
      rw [e1, e2, e3, arAdd (a := 1000 * a0) (by omega), arAdd (by omega)]; rfl
    have e5 : Ar.run Ar.mul IntKind.i64 1000 a19 = 1000 * a19 := arMul (by omega)
    have e6 : Ar.run Ar.quo IntKind.i64 (1000 * a19) (armV a0 a1 a2 a14 a15) = (1000 * a19).tdiv (armV a0 a1 a2 a14 a15) := arQuo (by omega)
    have e7 : Ar.run Ar.mul IntKind.i64 a16 a20 = a16 * a20 := arMul (by omega)
    have e8 : Ar.run Ar.quo IntKind.i64 (a16 * a20) 1000 = (a16 * a20).tdiv 1000 := arQuo (by omega)
    have e9 : Ar.run Ar.mul IntKind.i64 a17 a21 = a17 * a21 := arMul (by omega)
    show DD.sat _ _ (abfD0 a0 a1 a2 a3 a4 a5 a6 a7 a8 a9 a10 a11 a12 a13 a14 a15 a16 a17 a18 a19 a20 a21)
    unfold abfD0
    rw [e4, e5, e6, e7, e8, e9]
    refine ⟨fun h => ?_, fun h => ⟨cmNeq.2 (by omega), fun g => ?_, fun g => ?_⟩⟩
    · show a17 * a21 = _
      unfold frc; rw [if_pos (cmEql.1 h)]
    · have h := cmEqlF.1 h
      have g := cmEql.1 g
      have hr2 := hr
      unfold frc at hr2
      rw [if_neg h, if_pos g] at hr2
      show Ar.run Ar.add IntKind.i64 _ _ = _
      rw [arAdd (by omega)]
      unfold frc; rw [if_neg h, if_pos g]
    · show (1000 * a19).tdiv _ = _
      unfold frc; rw [if_neg (cmEqlF.1 h), if_neg (cmEqlF.1 g)])

/-- What is known of a span of forces in the middle of the loop. -/
structure FInv (fm fM yl yh k : Int) (su po : Bool) (lo hi : Int) : Prop where
  k1 : 1 ≤ k
  k2 : k ≤ 256
  lo1 : fm ≤ lo
  lo2 : 20 ≤ k → lo = fm
  lo3 : lo ≤ fM
  hi1 : hi ≤ fM
  hi2 : 237 ≤ k → hi = fM
  hi3 : fm ≤ hi
  su1 : fM ≤ yl → su = true
  su2 : 237 ≤ k → ¬ fM ≤ yl → su = false
  po1 : ¬ fm ≤ yh → po = false
  po2 : 20 ≤ k → fm ≤ yh → po = true

/-- A truth's force and yield. -/
structure FAt (fm fM yl yh k f y : Int) : Prop where
  f1 : fm ≤ f
  f2 : f ≤ fM
  y1 : yl ≤ y
  y2 : y ≤ yh
  m1 : k = 19 → f = fm ∧ y = yh
  m2 : k = 236 → f = fM ∧ y = yl

theorem FInv.first {fm fM yl yh f y : Int} (h : FAt fm fM yl yh 0 f y) {su po : Bool} (hs : su = (true && Cm.run .leq f y)) (hp : po = (false || Cm.run .leq f y)) : FInv fm fM yl yh 1 su po (Ar.run .mn .i64 f f) (Ar.run .mx .i64 f f) := by
  obtain ⟨h1, h2, h3, h4, h5, h6⟩ := h
  rw [arMn, arMx]
  subst hs hp
  refine ⟨by omega, by omega, by omega, by omega, by omega, by omega, by omega, by omega, fun h => ?_, by omega, fun h => ?_, by omega⟩
  · rw [cmLeq.2 (by omega)]; rfl
  · rw [cmLeqF.2 (by omega)]; rfl

theorem FInv.next {fm fM yl yh k f y lo hi : Int} {su0 po0 : Bool} (I : FInv fm fM yl yh k su0 po0 lo hi) (hk : k < 256) (h : FAt fm fM yl yh k f y) {su po : Bool} (hs : su = (su0 && Cm.run .leq f y)) (hp : po = (po0 || Cm.run .leq f y)) : FInv fm fM yl yh (Ar.run .add .i64 k 1) su po (Ar.run .mn .i64 lo f) (Ar.run .mx .i64 hi f) := by
  obtain ⟨h1, h2, h3, h4, h5, h6⟩ := h
  obtain ⟨i1, i2, i3, i4, i5, i6, i7, i8, i9, i10, i11, i12⟩ := I
  rw [arMn, arMx, arAdd (by omega)]
  subst hs hp
  refine ⟨by omega, by omega, by omega, fun h => ?_, by omega, by omega, fun h => ?_, by omega, fun h => ?_, fun h g => ?_, fun h => ?_, fun h g => ?_⟩
  · by_cases e : k = 19
    · have := h5 e; omega
    · have := i4 (by omega); omega
  · by_cases e : k = 236
    · have := h6 e; omega
    · have := i7 (by omega); omega
  · rw [i9 h, cmLeq.2 (by omega)]; rfl
  · by_cases e : k = 236
    · have := h6 e
      rw [cmLeqF.2 (by omega)]; simp
    · rw [i10 (by omega) g]; rfl
  · rw [i11 h, cmLeqF.2 (by omega)]; rfl
  · by_cases e : k = 19
    · have := h5 e
      rw [cmLeq.2 (by omega)]; simp
    · rw [i12 (by omega) g]; rfl

/-- A kind and a way, within bounds. -/
structure KW (a0 a1 a2 a3 a4 a5 a6 a7 a8 a9 a10 a11 a12 a14 a15 a16 a17 a18 a19 : Int) : Prop where
  l : 1 ≤ a0 ∧ a0 ≤ 100000
  th : 0 ≤ a1 ∧ a1 ≤ 100000
  hd : 0 ≤ a2 ∧ a2 ≤ 100000
  o1 : 0 ≤ a3 ∧ a3 ≤ a4 ∧ a4 ≤ 1000
  o2 : 0 ≤ a5 ∧ a5 ≤ a6 ∧ a6 ≤ 1000
  st : 0 ≤ a7 ∧ a7 ≤ a8 ∧ a8 ≤ 100000000
  sp : 0 ≤ a9 ∧ a9 ≤ a10 ∧ a10 ≤ 100000
  yi : a11 ≤ a12
  q : 0 ≤ a14 ∧ a14 ≤ a15 ∧ a15 ≤ 40000000000000
  an : 0 ≤ a16 ∧ a16 ≤ a17 ∧ a17 ≤ 100000
  sr : 0 ≤ a18 ∧ a18 ≤ a19 ∧ a19 ≤ 100000

theorem endB_rng {lo hi b : Int} {i : Nat} (h : lo ≤ hi) : lo ≤ endB lo hi i b ∧ endB lo hi i b ≤ hi := by
  unfold endB
  cases bitB i b <;> simp only [cond_true, cond_false] <;> omega

section
variable {a0 a1 a2 a3 a4 a5 a6 a7 a8 a9 a10 a11 a12 a13 a14 a15 a16 a17 a18 a19 : Int}

def fMin (a0 a1 a2 a3 a4 a5 a6 a7 a8 a9 a10 a11 a12 a13 a14 a15 a16 a17 a18 a19 : Int) : Int := frc a0 a1 a2 a13 a4 a6 a7 a9 a14 a16 a18
def fMax (a0 a1 a2 a3 a4 a5 a6 a7 a8 a9 a10 a11 a12 a13 a14 a15 a16 a17 a18 a19 : Int) : Int := frc a0 a1 a2 a13 a3 a5 a8 a10 a15 a17 a19

theorem abf_at (K : KW a0 a1 a2 a3 a4 a5 a6 a7 a8 a9 a10 a11 a12 a14 a15 a16 a17 a18 a19) {c1 c2 c3 c4 c5 c6 c7 c8 : Nat → Int} (T : TruOk a3 a4 a5 a6 a7 a8 a9 a10 a11 a12 a14 a15 a16 a17 a18 a19 256 c1 c2 c3 c4 c5 c6 c7 c8) {k : Int} {j : Nat} (hk : k = (j : Int)) (hj : j < 256) :
    AF.fin (abfA a0 a1 a2 a3 a4 a5 a6 a7 a8 a9 a10 a11 a12 a13 (c1 j) (c2 j) (c3 j) (c4 j) (c5 j) (c6 j) (c7 j) (c8 j)) = true ∧ FAt (fMin a0 a1 a2 a3 a4 a5 a6 a7 a8 a9 a10 a11 a12 a13 a14 a15 a16 a17 a18 a19) (fMax a0 a1 a2 a3 a4 a5 a6 a7 a8 a9 a10 a11 a12 a13 a14 a15 a16 a17 a18 a19) a11 a12 k (AF.val (abfA a0 a1 a2 a3 a4 a5 a6 a7 a8 a9 a10 a11 a12 a13 (c1 j) (c2 j) (c3 j) (c4 j) (c5 j) (c6 j) (c7 j) (c8 j))) (c5 j) := by
  obtain ⟨kl, kth, khd, ko1, ko2, kst, ksp, kyi, kq, kan, ksr⟩ := K
  rw [T.c1 j hj, T.c2 j hj, T.c3 j hj, T.c4 j hj, T.c5 j hj, T.c6 j hj, T.c7 j hj, T.c8 j hj]
  have r1 := endB_rng (i := j) (b := 0) ko1.2.1
  have r2 := endB_rng (i := j) (b := 1) ko2.2.1
  have r3 := endB_rng (i := j) (b := 2) kst.2.1
  have r4 := endB_rng (i := j) (b := 3) ksp.2.1
  have r5 := endB_rng (i := j) (b := 4) kyi
  have r6 := endB_rng (i := j) (b := 5) kq.2.1
  have r7 := endB_rng (i := j) (b := 6) kan.2.1
  have r8 := endB_rng (i := j) (b := 7) ksr.2.1
  have tb : TB a0 a1 a2 (endB a3 a4 j 0) (endB a5 a6 j 1) (endB a7 a8 j 2) (endB a9 a10 j 3) (endB a14 a15 j 5) (endB a16 a17 j 6) (endB a18 a19 j 7) := ⟨kl, kth, khd, by omega, by omega, by omega, by omega, by omega, by omega, by omega⟩
  have tm : TB a0 a1 a2 a4 a6 a7 a9 a14 a16 a18 := ⟨kl, kth, khd, by omega, by omega, by omega, by omega, by omega, by omega, by omega⟩
  have tM : TB a0 a1 a2 a3 a5 a8 a10 a15 a17 a19 := ⟨kl, kth, khd, by omega, by omega, by omega, by omega, by omega, by omega, by omega⟩
  obtain ⟨f1, f2⟩ := abf_val a0 a1 a2 a3 a4 a5 a6 a7 a8 a9 a10 a11 a12 a13 _ _ _ _ (endB a11 a12 j 4) _ _ _ tb
  refine ⟨f1, ?_⟩
  rw [f2]
  refine ⟨frc_mono tm tb r1.2 r2.2 r3.1 r4.1 r6.1 r7.1 r8.1, frc_mono tb tM r1.1 r2.1 r3.2 r4.2 r6.2 r7.2 r8.2, r5.1, r5.2, fun h => ?_, fun h => ?_⟩
  · obtain rfl : j = 19 := by omega
    have b0 : bitB ((19 : Nat) : Int) 0 = true := by decide
    have b1 : bitB ((19 : Nat) : Int) 1 = true := by decide
    have b2 : bitB ((19 : Nat) : Int) 2 = false := by decide
    have b3 : bitB ((19 : Nat) : Int) 3 = false := by decide
    have b4 : bitB ((19 : Nat) : Int) 4 = true := by decide
    have b5 : bitB ((19 : Nat) : Int) 5 = false := by decide
    have b6 : bitB ((19 : Nat) : Int) 6 = false := by decide
    have b7 : bitB ((19 : Nat) : Int) 7 = false := by decide
    unfold endB
    rw [b0, b1, b2, b3, b4, b5, b6, b7]
    exact ⟨rfl, rfl⟩
  · obtain rfl : j = 236 := by omega
    have b0 : bitB ((236 : Nat) : Int) 0 = false := by decide
    have b1 : bitB ((236 : Nat) : Int) 1 = false := by decide
    have b2 : bitB ((236 : Nat) : Int) 2 = true := by decide
    have b3 : bitB ((236 : Nat) : Int) 3 = true := by decide
    have b4 : bitB ((236 : Nat) : Int) 4 = false := by decide
    have b5 : bitB ((236 : Nat) : Int) 5 = true := by decide
    have b6 : bitB ((236 : Nat) : Int) 6 = true := by decide
    have b7 : bitB ((236 : Nat) : Int) 7 = true := by decide
    unfold endB
    rw [b0, b1, b2, b3, b4, b5, b6, b7]
    exact ⟨rfl, rfl⟩

def abgInv (a0 a1 a2 a3 a4 a5 a6 a7 a8 a9 a10 a11 a12 a13 a14 a15 a16 a17 a18 a19 : Int) : abgN → Prop
  | .n0 p0 p1 p2 p3 p4 p5 p6 p7 p8 => p0 = 256 ∧ TruOk a3 a4 a5 a6 a7 a8 a9 a10 a11 a12 a14 a15 a16 a17 a18 a19 256 p1 p2 p3 p4 p5 p6 p7 p8
  | .n1 p0 p1 p2 p3 p4 p5 p6 p7 p8 p9 p10 p11 p12 p13 p14 => p0 = 256 ∧ p4 = 256 ∧ TruOk a3 a4 a5 a6 a7 a8 a9 a10 a11 a12 a14 a15 a16 a17 a18 a19 256 p5 p6 p7 p8 p9 p10 p11 p12 ∧ FInv (fMin a0 a1 a2 a3 a4 a5 a6 a7 a8 a9 a10 a11 a12 a13 a14 a15 a16 a17 a18 a19) (fMax a0 a1 a2 a3 a4 a5 a6 a7 a8 a9 a10 a11 a12 a13 a14 a15 a16 a17 a18 a19) a11 a12 p3 p1 p2 p13 p14

def abgMu : abgN → Nat
  | .n0 .. => 300
  | .n1 _ _ _ p3 .. => (256 - p3).toNat

def abgPost (a0 a1 a2 a3 a4 a5 a6 a7 a8 a9 a10 a11 a12 a13 a14 a15 a16 a17 a18 a19 : Int) (v : abgR) : Prop := v = (fMin a0 a1 a2 a3 a4 a5 a6 a7 a8 a9 a10 a11 a12 a13 a14 a15 a16 a17 a18 a19, fMax a0 a1 a2 a3 a4 a5 a6 a7 a8 a9 a10 a11 a12 a13 a14 a15 a16 a17 a18 a19, decide (fMax a0 a1 a2 a3 a4 a5 a6 a7 a8 a9 a10 a11 a12 a13 a14 a15 a16 a17 a18 a19 ≤ a11), decide (fMin a0 a1 a2 a3 a4 a5 a6 a7 a8 a9 a10 a11 a12 a13 a14 a15 a16 a17 a18 a19 ≤ a12))

theorem abg_val (K : KW a0 a1 a2 a3 a4 a5 a6 a7 a8 a9 a10 a11 a12 a14 a15 a16 a17 a18 a19) : AF.fin (abgA a0 a1 a2 a3 a4 a5 a6 a7 a8 a9 a10 a11 a12 a13 a14 a15 a16 a17 a18 a19) = true ∧ abgPost a0 a1 a2 a3 a4 a5 a6 a7 a8 a9 a10 a11 a12 a13 a14 a15 a16 a17 a18 a19 (AF.val (abgA a0 a1 a2 a3 a4 a5 a6 a7 a8 a9 a10 a11 a12 a13 a14 a15 a16 a17 a18 a19)) := by
  refine AF.val_sat (Inv := abgInv a0 a1 a2 a3 a4 a5 a6 a7 a8 a9 a10 a11 a12 a13 a14 a15 a16 a17 a18 a19) (E := abgPost a0 a1 a2 a3 a4 a5 a6 a7 a8 a9 a10 a11 a12 a13 a14 a15 a16 a17 a18 a19) abgMu (fun _ => rfl) (fun a hI => ?_) ?_
  · cases a with
    | n0 p0 p1 p2 p3 p4 p5 p6 p7 p8 =>
      obtain ⟨rfl, hT⟩ := hI
      obtain ⟨hf, hA⟩ := abf_at K hT (k := 0) (j := 0 + Int.toNat 0) rfl (by decide)
      have b2 : decide ((0 : Int) < ((256 : Nat) : Int)) = true := by decide
      have b3 : decide (0 + Int.toNat 0 < 256) = true := by decide
      have L : ∀ {su po : Bool}, su = (true && Cm.run .leq _ _) → po = (false || Cm.run .leq _ _) → abgInv a0 a1 a2 a3 a4 a5 a6 a7 a8 a9 a10 a11 a12 a13 a14 a15 a16 a17 a18 a19 (.n1 256 su po 1 256 p1 p2 p3 p4 p5 p6 p7 p8 _ _) := fun hs hp => ⟨rfl, rfl, hT, FInv.first hA hs hp⟩
      have M : ∀ {su po : Bool} {lo hi : Int}, abgMu (.n1 256 su po 1 256 p1 p2 p3 p4 p5 p6 p7 p8 lo hi) < abgMu (.n0 256 p1 p2 p3 p4 p5 p6 p7 p8) := by intros; show (256 - 1 : Int).toNat < 300; decide
      refine ⟨fun _ => ⟨rfl, ⟨b2, ⟨b3, ⟨hf, ⟨fun _ => ⟨fun _ => ⟨rfl, ⟨b2, ⟨b3, ⟨fun h2 => ⟨fun h => (by cases h), fun _ => ⟨rfl, ⟨b2, ⟨b3, ⟨fun h4 => ⟨L (by rw [h4]; rfl) (by rw [h4]; rfl), M⟩, fun h4 => (by rw [h2] at h4; cases h4)⟩⟩⟩⟩⟩, fun h2 => ⟨fun h => (by cases h), fun _ => ⟨rfl, ⟨b2, ⟨b3, ⟨fun h4 => (by rw [h2] at h4; cases h4), fun h4 => ⟨L (by rw [h4]; rfl) (by rw [h4]; rfl), M⟩⟩⟩⟩⟩⟩⟩⟩⟩⟩, fun h => (by cases h)⟩, fun h => (by cases h)⟩⟩⟩⟩⟩, fun h => (by cases h)⟩
    | n1 p0 p1 p2 p3 p4 p5 p6 p7 p8 p9 p10 p11 p12 p13 p14 =>
      obtain ⟨rfl, rfl, hT, hI⟩ := hI
      have k1 := hI.k1
      have k2 := hI.k2
      refine ⟨fun h => ?_, fun h => ?_⟩
      · have hk : p3 < 256 := cmLss.1 h
        obtain ⟨hf, hA⟩ := abf_at K hT (k := p3) (j := 0 + Int.toNat p3) (by omega) (by omega)
        have b1 : decide (0 ≤ p3) = true := decide_eq_true (by omega)
        have b2 : decide (p3 < ((256 : Nat) : Int)) = true := decide_eq_true (by omega)
        have b3 : decide (0 + Int.toNat p3 < 256) = true := decide_eq_true (by omega)
        have L : ∀ {su po : Bool}, su = (p1 && Cm.run .leq _ _) → po = (p2 || Cm.run .leq _ _) → abgInv a0 a1 a2 a3 a4 a5 a6 a7 a8 a9 a10 a11 a12 a13 a14 a15 a16 a17 a18 a19 (.n1 256 su po (Ar.run .add .i64 p3 1) 256 p5 p6 p7 p8 p9 p10 p11 p12 _ _) := fun hs hp => ⟨rfl, rfl, hT, FInv.next hI hk hA hs hp⟩
        have M : ∀ {su po : Bool} {lo hi : Int}, abgMu (.n1 256 su po (Ar.run .add .i64 p3 1) 256 p5 p6 p7 p8 p9 p10 p11 p12 lo hi) < abgMu (.n1 256 p1 p2 p3 256 p5 p6 p7 p8 p9 p10 p11 p12 p13 p14) := by intros; show (256 - Ar.run .add .i64 p3 1).toNat < (256 - p3).toNat; rw [arAdd (by omega)]; omega
        refine ⟨b1, ⟨b2, ⟨b3, ⟨hf, ⟨fun h0 => absurd (cmEql.1 h0) (by omega), fun _ => ⟨fun h1 => ⟨b1, ⟨b2, ⟨b3, ⟨fun h2 => ⟨fun h3 => ⟨L (by rw [h1, h2]; rfl) (by rw [h3]; rfl), M⟩, fun h3 => ⟨b1, ⟨b2, ⟨b3, ⟨fun h4 => ⟨L (by rw [h1, h4]; rfl) (by rw [h3, h4]; rfl), M⟩, fun h4 => (by rw [h2] at h4; cases h4)⟩⟩⟩⟩⟩, fun h2 => ⟨fun h3 => ⟨L (by rw [h1, h2]; rfl) (by rw [h3]; rfl), M⟩, fun h3 => ⟨b1, ⟨b2, ⟨b3, ⟨fun h4 => (by rw [h2] at h4; cases h4), fun h4 => ⟨L (by rw [h1, h4]; rfl) (by rw [h3, h4]; rfl), M⟩⟩⟩⟩⟩⟩⟩⟩⟩⟩, fun h1 => ⟨fun h3 => ⟨L (by rw [h1]; rfl) (by rw [h3]; rfl), M⟩, fun h3 => ⟨b1, ⟨b2, ⟨b3, ⟨fun h4 => ⟨L (by rw [h1]; rfl) (by rw [h3, h4]; rfl), M⟩, fun h4 => ⟨L (by rw [h1]; rfl) (by rw [h3, h4]; rfl), M⟩⟩⟩⟩⟩⟩⟩⟩⟩⟩⟩⟩
      · have hk : 256 ≤ p3 := cmLssF.1 h
        show (p13, p14, p1, p2) = _
        have e1 := hI.lo2 (by omega)
        have e2 := hI.hi2 (by omega)
        have e3 : p1 = decide (fMax a0 a1 a2 a3 a4 a5 a6 a7 a8 a9 a10 a11 a12 a13 a14 a15 a16 a17 a18 a19 ≤ a11) := by
          by_cases hc : fMax a0 a1 a2 a3 a4 a5 a6 a7 a8 a9 a10 a11 a12 a13 a14 a15 a16 a17 a18 a19 ≤ a11
          · rw [hI.su1 hc, decide_eq_true hc]
          · rw [hI.su2 (by omega) hc, decide_eq_false hc]
        have e4 : p2 = decide (fMin a0 a1 a2 a3 a4 a5 a6 a7 a8 a9 a10 a11 a12 a13 a14 a15 a16 a17 a18 a19 ≤ a12) := by
          by_cases hc : fMin a0 a1 a2 a3 a4 a5 a6 a7 a8 a9 a10 a11 a12 a13 a14 a15 a16 a17 a18 a19 ≤ a12
          · rw [hI.po2 (by omega) hc, decide_eq_true hc]
          · rw [hI.po1 hc, decide_eq_false hc]
        rw [e1, e2, e3, e4]
  · obtain ⟨hf, hw, hT⟩ := abt_val a0 a1 a2 a3 a4 a5 a6 a7 a8 a9 a10 a11 a12 a13 a14 a15 a16 a17 a18 a19
    exact ⟨hf, hw, hT⟩
end
end Go.Proofs.Ytgnmdknbnkljbaa.Cx

/- Valid kinds of bolts and ways. Made by tools/gen_bcon.py. -/
namespace Go.Proofs.Ytgnmdknbnkljbaa.Cx
set_option linter.unusedVariables false
set_option linter.unusedSimpArgs false
set_option maxRecDepth 100000
set_option maxHeartbeats 4000000
open Go Go.RowKit

def KindP (a0 a1 a2 a3 a4 a5 a6 a7 a8 a9 a10 a11 a12 : Int) : Prop := (1 ≤ a0 ∧ a0 ≤ 100000) ∧ (0 ≤ a1 ∧ a1 ≤ 100000) ∧ (0 ≤ a2 ∧ a2 ≤ 100000) ∧ (0 ≤ a3 ∧ a3 ≤ a4 ∧ a4 ≤ 1000) ∧ (0 ≤ a5 ∧ a5 ≤ a6 ∧ a6 ≤ 1000) ∧ (1 ≤ a7 ∧ a7 ≤ a8 ∧ a8 ≤ 100000000) ∧ (1 ≤ a9 ∧ a9 ≤ a10 ∧ a10 ≤ 100000) ∧ (1 ≤ a11 ∧ a11 ≤ a12 ∧ a12 ≤ 100000000)
def WayP (a13 a14 a15 a16 a17 a18 a19 : Int) : Prop := (a13 = 3 ∧ (a14 = 0 ∧ a15 = 0) ∧ (a16 = 0 ∧ a17 = 0) ∧ (0 ≤ a18 ∧ a18 ≤ a19 ∧ a19 ≤ 100000)) ∨ (a13 = 1 ∧ (0 ≤ a14 ∧ a14 ≤ a15 ∧ a15 ≤ 10000000000000) ∧ (a16 = 0 ∧ a17 = 0) ∧ (a18 = 0 ∧ a19 = 0)) ∨ (a13 = 2 ∧ (0 ≤ a14 ∧ a14 ≤ a15 ∧ a15 ≤ 10000000000000) ∧ (0 ≤ a16 ∧ a16 ≤ a17 ∧ a17 ≤ 100000) ∧ (a18 = 0 ∧ a19 = 0))

theorem kw_of {a0 a1 a2 a3 a4 a5 a6 a7 a8 a9 a10 a11 a12 a13 a14 a15 a16 a17 a18 a19 : Int} (h : KindP a0 a1 a2 a3 a4 a5 a6 a7 a8 a9 a10 a11 a12) (g : WayP a13 a14 a15 a16 a17 a18 a19) : KW a0 a1 a2 a3 a4 a5 a6 a7 a8 a9 a10 a11 a12 a14 a15 a16 a17 a18 a19 := by
  unfold KindP at h
  unfold WayP at g
  exact ⟨by omega, by omega, by omega, by omega, by omega, by omega, by omega, by omega, by omega, by omega, by omega⟩

/-- The forces of a valid way, as the program computes them. -/
theorem force_eqs {a0 a1 a2 a3 a4 a5 a6 a7 a8 a9 a10 a11 a12 a13 a14 a15 a16 a17 a18 a19 : Int} (h : KindP a0 a1 a2 a3 a4 a5 a6 a7 a8 a9 a10 a11 a12) (g : WayP a13 a14 a15 a16 a17 a18 a19) :
    Ar.run Ar.add IntKind.i64 (Ar.run Ar.add IntKind.i64 (Ar.run Ar.mul IntKind.i64 a1 a4) (Ar.run Ar.mul IntKind.i64 a2 a6)) (Ar.run Ar.mul IntKind.i64 1000 a0) = armV a0 a1 a2 a4 a6 ∧
    Ar.run Ar.add IntKind.i64 (Ar.run Ar.add IntKind.i64 (Ar.run Ar.mul IntKind.i64 a1 a3) (Ar.run Ar.mul IntKind.i64 a2 a5)) (Ar.run Ar.mul IntKind.i64 1000 a0) = armV a0 a1 a2 a3 a5 ∧
    Ar.run Ar.quo IntKind.i64 (Ar.run Ar.mul IntKind.i64 1000 a14) (armV a0 a1 a2 a4 a6) = (1000 * a14).tdiv (armV a0 a1 a2 a4 a6) ∧
    Ar.run Ar.quo IntKind.i64 (Ar.run Ar.mul IntKind.i64 1000 a15) (armV a0 a1 a2 a3 a5) = (1000 * a15).tdiv (armV a0 a1 a2 a3 a5) ∧
    Ar.run Ar.quo IntKind.i64 (Ar.run Ar.mul IntKind.i64 a7 a16) 1000 = (a7 * a16).tdiv 1000 ∧
    Ar.run Ar.quo IntKind.i64 (Ar.run Ar.mul IntKind.i64 a8 a17) 1000 = (a8 * a17).tdiv 1000 ∧
    Ar.run Ar.add IntKind.i64 ((a7 * a16).tdiv 1000) ((1000 * a14).tdiv (armV a0 a1 a2 a4 a6)) = (a7 * a16).tdiv 1000 + (1000 * a14).tdiv (armV a0 a1 a2 a4 a6) ∧
    Ar.run Ar.add IntKind.i64 ((a8 * a17).tdiv 1000) ((1000 * a15).tdiv (armV a0 a1 a2 a3 a5)) = (a8 * a17).tdiv 1000 + (1000 * a15).tdiv (armV a0 a1 a2 a3 a5) ∧
    Ar.run Ar.add IntKind.i64 0 ((1000 * a14).tdiv (armV a0 a1 a2 a4 a6)) = (1000 * a14).tdiv (armV a0 a1 a2 a4 a6) ∧
    Ar.run Ar.add IntKind.i64 0 ((1000 * a15).tdiv (armV a0 a1 a2 a3 a5)) = (1000 * a15).tdiv (armV a0 a1 a2 a3 a5) ∧
    Ar.run Ar.mul IntKind.i64 a9 a18 = a9 * a18 ∧ Ar.run Ar.mul IntKind.i64 a10 a19 = a10 * a19 ∧
    armV a0 a1 a2 a4 a6 ≠ 0 ∧ armV a0 a1 a2 a3 a5 ≠ 0 ∧
    (a13 = 3 → fMin a0 a1 a2 a3 a4 a5 a6 a7 a8 a9 a10 a11 a12 a13 a14 a15 a16 a17 a18 a19 = a9 * a18 ∧ fMax a0 a1 a2 a3 a4 a5 a6 a7 a8 a9 a10 a11 a12 a13 a14 a15 a16 a17 a18 a19 = a10 * a19) ∧
    (a13 = 2 → fMin a0 a1 a2 a3 a4 a5 a6 a7 a8 a9 a10 a11 a12 a13 a14 a15 a16 a17 a18 a19 = (a7 * a16).tdiv 1000 + (1000 * a14).tdiv (armV a0 a1 a2 a4 a6) ∧ fMax a0 a1 a2 a3 a4 a5 a6 a7 a8 a9 a10 a11 a12 a13 a14 a15 a16 a17 a18 a19 = (a8 * a17).tdiv 1000 + (1000 * a15).tdiv (armV a0 a1 a2 a3 a5)) ∧
    (a13 = 1 → fMin a0 a1 a2 a3 a4 a5 a6 a7 a8 a9 a10 a11 a12 a13 a14 a15 a16 a17 a18 a19 = (1000 * a14).tdiv (armV a0 a1 a2 a4 a6) ∧ fMax a0 a1 a2 a3 a4 a5 a6 a7 a8 a9 a10 a11 a12 a13 a14 a15 a16 a17 a18 a19 = (1000 * a15).tdiv (armV a0 a1 a2 a3 a5)) ∧
    (0 ≤ fMin a0 a1 a2 a3 a4 a5 a6 a7 a8 a9 a10 a11 a12 a13 a14 a15 a16 a17 a18 a19 ∧ fMin a0 a1 a2 a3 a4 a5 a6 a7 a8 a9 a10 a11 a12 a13 a14 a15 a16 a17 a18 a19 ≤ 50000000000000) ∧ (0 ≤ fMax a0 a1 a2 a3 a4 a5 a6 a7 a8 a9 a10 a11 a12 a13 a14 a15 a16 a17 a18 a19 ∧ fMax a0 a1 a2 a3 a4 a5 a6 a7 a8 a9 a10 a11 a12 a13 a14 a15 a16 a17 a18 a19 ≤ 50000000000000) := by
  have K := kw_of h g
  obtain ⟨kl, kth, khd, ko1, ko2, kst, ksp, kyi, kq, kan, ksr⟩ := K
  have tm : TB a0 a1 a2 a4 a6 a7 a9 a14 a16 a18 := ⟨kl, kth, khd, by omega, by omega, by omega, by omega, by omega, by omega, by omega⟩
  have tM : TB a0 a1 a2 a3 a5 a8 a10 a15 a17 a19 := ⟨kl, kth, khd, by omega, by omega, by omega, by omega, by omega, by omega, by omega⟩
  have mul := fun {x y A B : Int} (h1 : 0 ≤ x ∧ x ≤ A) (h2 : 0 ≤ y ∧ y ≤ B) => mul_rng h1 h2
  have m1 := mul_rng tm.th tm.o1
  have m2 := mul_rng tm.hd tm.o2
  have m3 := mul_rng tM.th tM.o1
  have m4 := mul_rng tM.hd tM.o2
  have m5 := mul_rng tm.st tm.an
  have m6 := mul_rng tM.st tM.an
  have m7 := mul_rng tm.sp tm.sr
  have m8 := mul_rng tM.sp tM.sr
  have r1 := tm.arm
  have r2 := tM.arm
  have t1 := tdiv_rng (a := 1000 * a14) (A := 40000000000000000) (b := armV a0 a1 a2 a4 a6) (by omega) (by omega)
  have t2 := tdiv_rng (a := 1000 * a15) (A := 40000000000000000) (b := armV a0 a1 a2 a3 a5) (by omega) (by omega)
  have t3 := tdiv_rng (b := 1000) m5 (by omega)
  have t4 := tdiv_rng (b := 1000) m6 (by omega)
  have x1 : Ar.run Ar.mul IntKind.i64 1000 a0 = 1000 * a0 := arMul (by omega)
  have x2 : Ar.run Ar.mul IntKind.i64 1000 a14 = 1000 * a14 := arMul (by omega)
  have x3 : Ar.run Ar.mul IntKind.i64 1000 a15 = 1000 * a15 := arMul (by omega)
  have x4 : Ar.run Ar.mul IntKind.i64 a1 a4 = a1 * a4 := arMul (by omega)
  have x5 : Ar.run Ar.mul IntKind.i64 a2 a6 = a2 * a6 := arMul (by omega)
  have x6 : Ar.run Ar.mul IntKind.i64 a1 a3 = a1 * a3 := arMul (by omega)
  have x7 : Ar.run Ar.mul IntKind.i64 a2 a5 = a2 * a5 := arMul (by omega)
  have x8 : Ar.run Ar.mul IntKind.i64 a7 a16 = a7 * a16 := arMul (by omega)
  have x9 : Ar.run Ar.mul IntKind.i64 a8 a17 = a8 * a17 := arMul (by omega)
  refine ⟨?_, ?_, ?_, ?_, ?_, ?_, arAdd (by omega), arAdd (by omega), ?_, ?_, arMul (by omega), arMul (by omega), by omega, by omega, fun e => ?_, fun e => ?_, fun e => ?_, frc_rng tm, frc_rng tM⟩
  · rw [x1, x4, x5, arAdd (a := a1 * a4) (by omega), arAdd (by omega)]; unfold armV; omega
  · rw [x1, x6, x7, arAdd (a := a1 * a3) (by omega), arAdd (by omega)]; unfold armV; omega
  · rw [x2]; exact arQuo (by omega)
  · rw [x3]; exact arQuo (by omega)
  · rw [x8]; exact arQuo (by omega)
  · rw [x9]; exact arQuo (by omega)
  · rw [arAdd (by omega)]; omega
  · rw [arAdd (by omega)]; omega
  · unfold fMin fMax frc; rw [if_pos e, if_pos e]; exact ⟨rfl, rfl⟩
  · unfold fMin fMax frc; rw [if_neg (by omega), if_pos e, if_neg (by omega), if_pos e]; exact ⟨Int.add_comm _ _, Int.add_comm _ _⟩
  · unfold fMin fMax frc; rw [if_neg (by omega), if_neg (by omega), if_neg (by omega), if_neg (by omega)]; exact ⟨rfl, rfl⟩

end Go.Proofs.Ytgnmdknbnkljbaa.Cx

/- acme/bolt.Check as an automaton. Made by tools/cxauto.py. -/
namespace Go.Proofs.Ytgnmdknbnkljbaa.Cx
set_option linter.unusedVariables false
set_option linter.unusedSimpArgs false
set_option maxRecDepth 100000
open Go Go.Proofs Go.RowKit

noncomputable abbrev abcCode : Code := funcCode Try.f12


abbrev abcN := Empty

abbrev abcR := Int

noncomputable def abcD0 (a0 : Int) (a1 : Int) (a2 : Int) (a3 : Int) (a4 : Int) (a5 : Int) (a6 : Int) (a7 : Int) (a8 : Int) (a9 : Int) (a10 : Int) (a11 : Int) (a12 : Int) : DD (Lf abcN abcR) :=
 .ask (Cm.run Cm.gtr a0 0)
   (.ask (Cm.run Cm.lss a0 0)
   (.leaf (.done 2 []))
   (.ask (Cm.run Cm.gtr a0 100000)
   (.leaf (.done 2 []))
   (.ask (Cm.run Cm.lss a1 0)
   (.leaf (.done 2 []))
   (.ask (Cm.run Cm.gtr a1 100000)
   (.leaf (.done 2 []))
   (.ask (Cm.run Cm.lss a2 0)
   (.leaf (.done 2 []))
   (.ask (Cm.run Cm.gtr a2 100000)
   (.leaf (.done 2 []))
   (.ask (Cm.run Cm.leq 0 a3)
   (.ask (Cm.run Cm.leq a3 a4)
   (.ask (Cm.run Cm.leq a4 1000)
   (.ask (Cm.run Cm.leq 0 a5)
   (.ask (Cm.run Cm.leq a5 a6)
   (.ask (Cm.run Cm.leq a6 1000)
   (.ask (Cm.run Cm.leq 1 a7)
   (.ask (Cm.run Cm.leq a7 a8)
   (.ask (Cm.run Cm.leq a8 100000000)
   (.ask (Cm.run Cm.leq 1 a9)
   (.ask (Cm.run Cm.leq a9 a10)
   (.ask (Cm.run Cm.leq a10 100000)
   (.ask (Cm.run Cm.leq 1 a11)
   (.ask (Cm.run Cm.leq a11 a12)
   (.ask (Cm.run Cm.leq a12 100000000)
   (.leaf (.done 0 []))
   (.leaf (.done 2 [])))
   (.leaf (.done 2 [])))
   (.leaf (.done 2 [])))
   (.leaf (.done 2 [])))
   (.leaf (.done 2 [])))
   (.leaf (.done 2 [])))
   (.leaf (.done 2 [])))
   (.leaf (.done 2 [])))
   (.leaf (.done 2 [])))
   (.leaf (.done 2 [])))
   (.leaf (.done 2 [])))
   (.leaf (.done 2 [])))
   (.leaf (.done 2 [])))
   (.leaf (.done 2 [])))
   (.leaf (.done 2 [])))))))))
   (.leaf (.done 2 []))

noncomputable def abcD (a0 : Int) (a1 : Int) (a2 : Int) (a3 : Int) (a4 : Int) (a5 : Int) (a6 : Int) (a7 : Int) (a8 : Int) (a9 : Int) (a10 : Int) (a11 : Int) (a12 : Int) : abcN → DD (Lf abcN abcR) := fun a => nomatch a

noncomputable def abcA (a0 : Int) (a1 : Int) (a2 : Int) (a3 : Int) (a4 : Int) (a5 : Int) (a6 : Int) (a7 : Int) (a8 : Int) (a9 : Int) (a10 : Int) (a11 : Int) (a12 : Int) : AF abcN abcR where
  code := abcCode
  base := 0
  nt := 26
  m := 400
  un := []
  W := []
  h0 := []
  args := [.agg [.int .i64 (.x a0), .int .i64 (.x a1), .int .i64 (.x a2), .int .i64 (.x a3), .int .i64 (.x a4), .int .i64 (.x a5), .int .i64 (.x a6), .int .i64 (.x a7), .int .i64 (.x a8), .int .i64 (.x a9), .int .i64 (.x a10), .int .i64 (.x a11), .int .i64 (.x a12)]]
  res := (Try.f12).results.toList
  path := fun a => nomatch a
  pd := fun a => nomatch a
  D0 := abcD0 a0 a1 a2 a3 a4 a5 a6 a7 a8 a9 a10 a11 a12
  D := abcD a0 a1 a2 a3 a4 a5 a6 a7 a8 a9 a10 a11 a12
  rc := (fun v => .int .i64 (.x v))
  rh := (fun v => [])
  rn := (fun v => 0)
  rx := (fun v => [])
  rgo := (fun _ => none)


theorem abcstart (a0 : Int) (a1 : Int) (a2 : Int) (a3 : Int) (a4 : Int) (a5 : Int) (a6 : Int) (a7 : Int) (a8 : Int) (a9 : Int) (a10 : Int) (a11 : Int) (a12 : Int) : AF.edgeOk (abcA a0 a1 a2 a3 a4 a5 a6 a7 a8 a9 a10 a11 a12) (ctxOf Try.prog memo0) (abcD0 a0 a1 a2 a3 a4 a5 a6 a7 a8 a9 a10 a11 a12) (AF.run0 (abcA a0 a1 a2 a3 a4 a5 a6 a7 a8 a9 a10 a11 a12) (ctxOf Try.prog memo0)) := by unfold AF.edgeOk; kernel_rfl

theorem abcok (a0 : Int) (a1 : Int) (a2 : Int) (a3 : Int) (a4 : Int) (a5 : Int) (a6 : Int) (a7 : Int) (a8 : Int) (a9 : Int) (a10 : Int) (a11 : Int) (a12 : Int) : (abcA a0 a1 a2 a3 a4 a5 a6 a7 a8 a9 a10 a11 a12).Ok Try.prog (ctxOf Try.prog memo0) where
  regs := by kernel_rfl
  h0 := by kernel_rfl
  start := abcstart a0 a1 a2 a3 a4 a5 a6 a7 a8 a9 a10 a11 a12
  node := fun a _ => nomatch a
  pd := fun a => nomatch a
  le := fun a => nomatch a
  rd := fun v => ⟨⟨fa_nil, fa_nil, fa_nil, rfl⟩, rfl⟩
  wb := rfl


theorem abchR {ρ : Env} (a0 : Int) (a1 : Int) (a2 : Int) (a3 : Int) (a4 : Int) (a5 : Int) (a6 : Int) (a7 : Int) (a8 : Int) (a9 : Int) (a10 : Int) (a11 : Int) (a12 : Int) (hM : MemoOk Try.prog (ctxOf Try.prog memo0) ρ) : ∀ X a q n D, FxOk ρ X → X.base = (abcA a0 a1 a2 a3 a4 a5 a6 a7 a8 a9 a10 a11 a12).base → X.nt = (abcA a0 a1 a2 a3 a4 a5 a6 a7 a8 a9 a10 a11 a12).nt → X.W = (abcA a0 a1 a2 a3 a4 a5 a6 a7 a8 a9 a10 a11 a12).W → (abcA a0 a1 a2 a3 a4 a5 a6 a7 a8 a9 a10 a11 a12).rgo a = some q → q n = some D → (abcA a0 a1 a2 a3 a4 a5 a6 a7 a8 a9 a10 a11 a12).RangeOk Try.prog ρ X a D := AF.noRange rfl

theorem abcctr {ρ : Env} (a0 : Int) (a1 : Int) (a2 : Int) (a3 : Int) (a4 : Int) (a5 : Int) (a6 : Int) (a7 : Int) (a8 : Int) (a9 : Int) (a10 : Int) (a11 : Int) (a12 : Int) {n : Nat} {v : abcR} (hM : MemoOk Try.prog (ctxOf Try.prog memo0) ρ) (hv : (abcA a0 a1 a2 a3 a4 a5 a6 a7 a8 a9 a10 a11 a12).run n = some v) :
    Ctr Try.prog ρ 12 (abcA a0 a1 a2 a3 a4 a5 a6 a7 a8 a9 a10 a11 a12).args (abcA a0 a1 a2 a3 a4 a5 a6 a7 a8 a9 a10 a11 a12).H0 (abcA a0 a1 a2 a3 a4 a5 a6 a7 a8 a9 a10 a11 a12).base (abcA a0 a1 a2 a3 a4 a5 a6 a7 a8 a9 a10 a11 a12).W ((abcA a0 a1 a2 a3 a4 a5 a6 a7 a8 a9 a10 a11 a12).rc v) (putH (abcA a0 a1 a2 a3 a4 a5 a6 a7 a8 a9 a10 a11 a12).H0 ((abcA a0 a1 a2 a3 a4 a5 a6 a7 a8 a9 a10 a11 a12).rh v ++ (abcA a0 a1 a2 a3 a4 a5 a6 a7 a8 a9 a10 a11 a12).rx v)) ((abcA a0 a1 a2 a3 a4 a5 a6 a7 a8 a9 a10 a11 a12).rn v) :=
  AF.ctr try_ok hM (abcok a0 a1 a2 a3 a4 a5 a6 a7 a8 a9 a10 a11 a12) (fn := Try.f12) Try.func12 rfl rfl (Nat.le_of_ble_eq_true rfl) rfl (abchR a0 a1 a2 a3 a4 a5 a6 a7 a8 a9 a10 a11 a12 hM) hv


abbrev abcP : List AP := [.agg [.int .i64, .int .i64, .int .i64, .int .i64, .int .i64, .int .i64, .int .i64, .int .i64, .int .i64, .int .i64, .int .i64, .int .i64, .int .i64]]
noncomputable def abcF (v : AV) : AF abcN abcR := abcA (v.i.getD 0 0) (v.i.getD 1 0) (v.i.getD 2 0) (v.i.getD 3 0) (v.i.getD 4 0) (v.i.getD 5 0) (v.i.getD 6 0) (v.i.getD 7 0) (v.i.getD 8 0) (v.i.getD 9 0) (v.i.getD 10 0) (v.i.getD 11 0) (v.i.getD 12 0)
theorem abcknown {ρ : Env} (hM : MemoOk Try.prog (ctxOf Try.prog memo0) ρ) : KnownA Try.prog ρ 12 abcP abcF where
  fn := ⟨Try.f12, Try.func12, rfl⟩
  args := fun v => rfl
  plain := fun v r => rfl
  ctr := fun v n r h => abcctr (v.i.getD 0 0) (v.i.getD 1 0) (v.i.getD 2 0) (v.i.getD 3 0) (v.i.getD 4 0) (v.i.getD 5 0) (v.i.getD 6 0) (v.i.getD 7 0) (v.i.getD 8 0) (v.i.getD 9 0) (v.i.getD 10 0) (v.i.getD 11 0) (v.i.getD 12 0) hM h

end Go.Proofs.Ytgnmdknbnkljbaa.Cx

/- bolt.Check: whether a kind is valid. Made by tools/gen_bcon.py. -/
namespace Go.Proofs.Ytgnmdknbnkljbaa.Cx
set_option linter.unusedVariables false
set_option linter.unusedSimpArgs false
set_option maxRecDepth 100000
set_option maxHeartbeats 4000000
open Go Go.RowKit

theorem abc_val (a0 a1 a2 a3 a4 a5 a6 a7 a8 a9 a10 a11 a12 : Int) : AF.fin (abcA a0 a1 a2 a3 a4 a5 a6 a7 a8 a9 a10 a11 a12) = true ∧ ((KindP a0 a1 a2 a3 a4 a5 a6 a7 a8 a9 a10 a11 a12 → AF.val (abcA a0 a1 a2 a3 a4 a5 a6 a7 a8 a9 a10 a11 a12) = 0) ∧ (¬ KindP a0 a1 a2 a3 a4 a5 a6 a7 a8 a9 a10 a11 a12 → AF.val (abcA a0 a1 a2 a3 a4 a5 a6 a7 a8 a9 a10 a11 a12) = 2)) :=
  AF.val_sat (Inv := fun _ => False) (E := fun v => (KindP a0 a1 a2 a3 a4 a5 a6 a7 a8 a9 a10 a11 a12 → v = 0) ∧ (¬ KindP a0 a1 a2 a3 a4 a5 a6 a7 a8 a9 a10 a11 a12 → v = 2)) (fun _ => 0) (fun _ => rfl) (fun a => nomatch a) (by
    show DD.sat _ _ (abcD0 a0 a1 a2 a3 a4 a5 a6 a7 a8 a9 a10 a11 a12)
    unfold abcD0 KindP
    simp only [DD.sat, cmLss, cmLeq, cmGtr, cmGeq, cmEql, cmNeq, cmLssF, cmLeqF, cmGtrF, cmGeqF, cmEqlF, cmNeqF, reduceCtorEq, imp_false, imp_true_iff, and_true, true_and, Classical.not_not, forall_const]
    repeat' (first | (intro _) | (apply And.intro))
    all_goals omega)
end Go.Proofs.Ytgnmdknbnkljbaa.Cx

/- acme/bolt.Holds as an automaton. Made by tools/cxauto.py. -/
namespace Go.Proofs.Ytgnmdknbnkljbaa.Cx
set_option linter.unusedVariables false
set_option linter.unusedSimpArgs false
set_option maxRecDepth 100000
open Go Go.Proofs Go.RowKit

noncomputable abbrev abhCode : Code := funcCode Try.f29


abbrev abhN := Empty

abbrev abhR := Bool × Bool × Int

noncomputable def abhD0 (a0 : Int) (a1 : Int) (a2 : Int) (a3 : Int) (a4 : Int) (a5 : Int) (a6 : Int) (a7 : Int) (a8 : Int) (a9 : Int) (a10 : Int) (a11 : Int) (a12 : Int) : DD (Lf abhN abhR) :=
 .must (AF.fin (abcA a0 a1 a2 a3 a4 a5 a6 a7 a8 a9 a10 a11 a12))
   (.ask (Cm.run Cm.neq (AF.val (abcA a0 a1 a2 a3 a4 a5 a6 a7 a8 a9 a10 a11 a12)) 0)
   (.ask (Cm.run Cm.neq (AF.val (abcA a0 a1 a2 a3 a4 a5 a6 a7 a8 a9 a10 a11 a12)) 0)
   (.leaf (.done (false, false, AF.val (abcA a0 a1 a2 a3 a4 a5 a6 a7 a8 a9 a10 a11 a12)) []))
   (.leaf (.done (false, false, 0) [])))
   (.ask (Cm.run Cm.gtr (Ar.run Ar.add IntKind.i64 (Ar.run Ar.add IntKind.i64 (Ar.run Ar.mul IntKind.i64 a1 a3) (Ar.run Ar.mul IntKind.i64 a2 a5)) (Ar.run Ar.sub IntKind.i64 0 (Ar.run Ar.mul IntKind.i64 1000 a0))) 0)
   (.ask (Cm.run Cm.gtr (Ar.run Ar.add IntKind.i64 (Ar.run Ar.add IntKind.i64 (Ar.run Ar.mul IntKind.i64 a1 a4) (Ar.run Ar.mul IntKind.i64 a2 a6)) (Ar.run Ar.sub IntKind.i64 0 (Ar.run Ar.mul IntKind.i64 1000 a0))) 0)
   (.leaf (.done (true, true, 0) []))
   (.leaf (.done (true, false, 0) [])))
   (.ask (Cm.run Cm.gtr (Ar.run Ar.add IntKind.i64 (Ar.run Ar.add IntKind.i64 (Ar.run Ar.mul IntKind.i64 a1 a4) (Ar.run Ar.mul IntKind.i64 a2 a6)) (Ar.run Ar.sub IntKind.i64 0 (Ar.run Ar.mul IntKind.i64 1000 a0))) 0)
   (.leaf (.done (false, true, 0) []))
   (.leaf (.done (false, false, 0) [])))))

noncomputable def abhD (a0 : Int) (a1 : Int) (a2 : Int) (a3 : Int) (a4 : Int) (a5 : Int) (a6 : Int) (a7 : Int) (a8 : Int) (a9 : Int) (a10 : Int) (a11 : Int) (a12 : Int) : abhN → DD (Lf abhN abhR) := fun a => nomatch a

noncomputable def abhA (a0 : Int) (a1 : Int) (a2 : Int) (a3 : Int) (a4 : Int) (a5 : Int) (a6 : Int) (a7 : Int) (a8 : Int) (a9 : Int) (a10 : Int) (a11 : Int) (a12 : Int) : AF abhN abhR where
  code := abhCode
  base := 0
  nt := 23
  m := 400
  un := []
  W := []
  h0 := []
  args := [.agg [.int .i64 (.x a0), .int .i64 (.x a1), .int .i64 (.x a2), .int .i64 (.x a3), .int .i64 (.x a4), .int .i64 (.x a5), .int .i64 (.x a6), .int .i64 (.x a7), .int .i64 (.x a8), .int .i64 (.x a9), .int .i64 (.x a10), .int .i64 (.x a11), .int .i64 (.x a12)]]
  res := (Try.f29).results.toList
  path := fun a => nomatch a
  pd := fun a => nomatch a
  D0 := abhD0 a0 a1 a2 a3 a4 a5 a6 a7 a8 a9 a10 a11 a12
  D := abhD a0 a1 a2 a3 a4 a5 a6 a7 a8 a9 a10 a11 a12
  rc := (fun v => .tup [.bool (.x v.1), .bool (.x v.2.1), .int .i64 (.x v.2.2)])
  rh := (fun v => [])
  rn := (fun v => 0)
  rx := (fun v => [])
  rgo := (fun _ => none)


theorem abhstart (a0 : Int) (a1 : Int) (a2 : Int) (a3 : Int) (a4 : Int) (a5 : Int) (a6 : Int) (a7 : Int) (a8 : Int) (a9 : Int) (a10 : Int) (a11 : Int) (a12 : Int) : AF.edgeOk (abhA a0 a1 a2 a3 a4 a5 a6 a7 a8 a9 a10 a11 a12) (ctxOf Try.prog memo0) (abhD0 a0 a1 a2 a3 a4 a5 a6 a7 a8 a9 a10 a11 a12) (AF.run0 (abhA a0 a1 a2 a3 a4 a5 a6 a7 a8 a9 a10 a11 a12) (ctxOf Try.prog (memoA 12 abcP abcF memo0))) := by unfold AF.edgeOk; kernel_rfl

theorem abhok (a0 : Int) (a1 : Int) (a2 : Int) (a3 : Int) (a4 : Int) (a5 : Int) (a6 : Int) (a7 : Int) (a8 : Int) (a9 : Int) (a10 : Int) (a11 : Int) (a12 : Int) : (abhA a0 a1 a2 a3 a4 a5 a6 a7 a8 a9 a10 a11 a12).Ok Try.prog (ctxOf Try.prog (memoA 12 abcP abcF memo0)) where
  regs := by kernel_rfl
  h0 := by kernel_rfl
  start := abhstart a0 a1 a2 a3 a4 a5 a6 a7 a8 a9 a10 a11 a12
  node := fun a _ => nomatch a
  pd := fun a => nomatch a
  le := fun a => nomatch a
  rd := fun v => ⟨⟨fa_nil, fa_nil, fa_nil, rfl⟩, rfl⟩
  wb := rfl


theorem abhhR {ρ : Env} (a0 : Int) (a1 : Int) (a2 : Int) (a3 : Int) (a4 : Int) (a5 : Int) (a6 : Int) (a7 : Int) (a8 : Int) (a9 : Int) (a10 : Int) (a11 : Int) (a12 : Int) (hM : MemoOk Try.prog (ctxOf Try.prog (memoA 12 abcP abcF memo0)) ρ) : ∀ X a q n D, FxOk ρ X → X.base = (abhA a0 a1 a2 a3 a4 a5 a6 a7 a8 a9 a10 a11 a12).base → X.nt = (abhA a0 a1 a2 a3 a4 a5 a6 a7 a8 a9 a10 a11 a12).nt → X.W = (abhA a0 a1 a2 a3 a4 a5 a6 a7 a8 a9 a10 a11 a12).W → (abhA a0 a1 a2 a3 a4 a5 a6 a7 a8 a9 a10 a11 a12).rgo a = some q → q n = some D → (abhA a0 a1 a2 a3 a4 a5 a6 a7 a8 a9 a10 a11 a12).RangeOk Try.prog ρ X a D := AF.noRange rfl

theorem abhctr {ρ : Env} (a0 : Int) (a1 : Int) (a2 : Int) (a3 : Int) (a4 : Int) (a5 : Int) (a6 : Int) (a7 : Int) (a8 : Int) (a9 : Int) (a10 : Int) (a11 : Int) (a12 : Int) {n : Nat} {v : abhR} (hM : MemoOk Try.prog (ctxOf Try.prog (memoA 12 abcP abcF memo0)) ρ) (hv : (abhA a0 a1 a2 a3 a4 a5 a6 a7 a8 a9 a10 a11 a12).run n = some v) :
    Ctr Try.prog ρ 29 (abhA a0 a1 a2 a3 a4 a5 a6 a7 a8 a9 a10 a11 a12).args (abhA a0 a1 a2 a3 a4 a5 a6 a7 a8 a9 a10 a11 a12).H0 (abhA a0 a1 a2 a3 a4 a5 a6 a7 a8 a9 a10 a11 a12).base (abhA a0 a1 a2 a3 a4 a5 a6 a7 a8 a9 a10 a11 a12).W ((abhA a0 a1 a2 a3 a4 a5 a6 a7 a8 a9 a10 a11 a12).rc v) (putH (abhA a0 a1 a2 a3 a4 a5 a6 a7 a8 a9 a10 a11 a12).H0 ((abhA a0 a1 a2 a3 a4 a5 a6 a7 a8 a9 a10 a11 a12).rh v ++ (abhA a0 a1 a2 a3 a4 a5 a6 a7 a8 a9 a10 a11 a12).rx v)) ((abhA a0 a1 a2 a3 a4 a5 a6 a7 a8 a9 a10 a11 a12).rn v) :=
  AF.ctr try_ok hM (abhok a0 a1 a2 a3 a4 a5 a6 a7 a8 a9 a10 a11 a12) (fn := Try.f29) Try.func29 rfl rfl (Nat.le_of_ble_eq_true rfl) rfl (abhhR a0 a1 a2 a3 a4 a5 a6 a7 a8 a9 a10 a11 a12 hM) hv


theorem abhmem {ρ : Env} : MemoOk Try.prog (ctxOf Try.prog (memoA 12 abcP abcF memo0)) ρ := (memoA_ok (abcknown memo0_ok) memo0_ok)


abbrev abhP : List AP := [.agg [.int .i64, .int .i64, .int .i64, .int .i64, .int .i64, .int .i64, .int .i64, .int .i64, .int .i64, .int .i64, .int .i64, .int .i64, .int .i64]]
noncomputable def abhF (v : AV) : AF abhN abhR := abhA (v.i.getD 0 0) (v.i.getD 1 0) (v.i.getD 2 0) (v.i.getD 3 0) (v.i.getD 4 0) (v.i.getD 5 0) (v.i.getD 6 0) (v.i.getD 7 0) (v.i.getD 8 0) (v.i.getD 9 0) (v.i.getD 10 0) (v.i.getD 11 0) (v.i.getD 12 0)
theorem abhknown {ρ : Env} (hM : MemoOk Try.prog (ctxOf Try.prog (memoA 12 abcP abcF memo0)) ρ) : KnownA Try.prog ρ 29 abhP abhF where
  fn := ⟨Try.f29, Try.func29, rfl⟩
  args := fun v => rfl
  plain := fun v r => rfl
  ctr := fun v n r h => abhctr (v.i.getD 0 0) (v.i.getD 1 0) (v.i.getD 2 0) (v.i.getD 3 0) (v.i.getD 4 0) (v.i.getD 5 0) (v.i.getD 6 0) (v.i.getD 7 0) (v.i.getD 8 0) (v.i.getD 9 0) (v.i.getD 10 0) (v.i.getD 11 0) (v.i.getD 12 0) hM h

end Go.Proofs.Ytgnmdknbnkljbaa.Cx

/- acme/bolt.Loosen as an automaton. Made by tools/cxauto.py. -/
namespace Go.Proofs.Ytgnmdknbnkljbaa.Cx
set_option linter.unusedVariables false
set_option linter.unusedSimpArgs false
set_option maxRecDepth 100000
open Go Go.Proofs Go.RowKit

noncomputable abbrev abnCode : Code := funcCode Try.f30


abbrev abnN := Empty

abbrev abnR := Int × Int × Int

noncomputable def abnD0 (a0 : Int) (a1 : Int) (a2 : Int) (a3 : Int) (a4 : Int) (a5 : Int) (a6 : Int) (a7 : Int) (a8 : Int) (a9 : Int) (a10 : Int) (a11 : Int) (a12 : Int) (a13 : Int) (a14 : Int) : DD (Lf abnN abnR) :=
 .must (AF.fin (abcA a0 a1 a2 a3 a4 a5 a6 a7 a8 a9 a10 a11 a12))
   (.ask (Cm.run Cm.neq (AF.val (abcA a0 a1 a2 a3 a4 a5 a6 a7 a8 a9 a10 a11 a12)) 0)
   (.ask (Cm.run Cm.neq (AF.val (abcA a0 a1 a2 a3 a4 a5 a6 a7 a8 a9 a10 a11 a12)) 0)
   (.leaf (.done (0, 0, AF.val (abcA a0 a1 a2 a3 a4 a5 a6 a7 a8 a9 a10 a11 a12)) []))
   (.ask (Cm.run Cm.leq 0 a13)
   (.ask (Cm.run Cm.leq a13 a14)
   (.ask (Cm.run Cm.leq a14 100000000)
   (.ask (Cm.run Cm.gtr (Ar.run Ar.rem IntKind.i64 (Ar.run Ar.mul IntKind.i64 a13 0) 1000) 0)
   (.ask (Cm.run Cm.gtr (Ar.run Ar.rem IntKind.i64 (Ar.run Ar.mul IntKind.i64 a14 0) 1000) 0)
   (.leaf (.done (Ar.run Ar.add IntKind.i64 (Ar.run Ar.quo IntKind.i64 (Ar.run Ar.mul IntKind.i64 a13 0) 1000) 1, Ar.run Ar.add IntKind.i64 (Ar.run Ar.quo IntKind.i64 (Ar.run Ar.mul IntKind.i64 a14 0) 1000) 1, 0) []))
   (.leaf (.done (Ar.run Ar.add IntKind.i64 (Ar.run Ar.quo IntKind.i64 (Ar.run Ar.mul IntKind.i64 a13 0) 1000) 1, Ar.run Ar.quo IntKind.i64 (Ar.run Ar.mul IntKind.i64 a14 0) 1000, 0) [])))
   (.ask (Cm.run Cm.gtr (Ar.run Ar.rem IntKind.i64 (Ar.run Ar.mul IntKind.i64 a14 0) 1000) 0)
   (.leaf (.done (Ar.run Ar.quo IntKind.i64 (Ar.run Ar.mul IntKind.i64 a13 0) 1000, Ar.run Ar.add IntKind.i64 (Ar.run Ar.quo IntKind.i64 (Ar.run Ar.mul IntKind.i64 a14 0) 1000) 1, 0) []))
   (.leaf (.done (Ar.run Ar.quo IntKind.i64 (Ar.run Ar.mul IntKind.i64 a13 0) 1000, Ar.run Ar.quo IntKind.i64 (Ar.run Ar.mul IntKind.i64 a14 0) 1000, 0) []))))
   (.leaf (.done (0, 0, 3) [])))
   (.leaf (.done (0, 0, 3) [])))
   (.leaf (.done (0, 0, 3) []))))
   (.ask (Cm.run Cm.leq 0 a13)
   (.ask (Cm.run Cm.leq a13 a14)
   (.ask (Cm.run Cm.leq a14 100000000)
   (.ask (Cm.run Cm.gtr (Ar.run Ar.rem IntKind.i64 (Ar.run Ar.mul IntKind.i64 a13 (Ar.run Ar.mx IntKind.i64 (Ar.run Ar.add IntKind.i64 (Ar.run Ar.add IntKind.i64 (Ar.run Ar.mul IntKind.i64 a1 a3) (Ar.run Ar.mul IntKind.i64 a2 a5)) (Ar.run Ar.sub IntKind.i64 0 (Ar.run Ar.mul IntKind.i64 1000 a0))) 0)) 1000) 0)
   (.ask (Cm.run Cm.gtr (Ar.run Ar.rem IntKind.i64 (Ar.run Ar.mul IntKind.i64 a14 (Ar.run Ar.mx IntKind.i64 (Ar.run Ar.add IntKind.i64 (Ar.run Ar.add IntKind.i64 (Ar.run Ar.mul IntKind.i64 a1 a4) (Ar.run Ar.mul IntKind.i64 a2 a6)) (Ar.run Ar.sub IntKind.i64 0 (Ar.run Ar.mul IntKind.i64 1000 a0))) 0)) 1000) 0)
   (.leaf (.done (Ar.run Ar.add IntKind.i64 (Ar.run Ar.quo IntKind.i64 (Ar.run Ar.mul IntKind.i64 a13 (Ar.run Ar.mx IntKind.i64 (Ar.run Ar.add IntKind.i64 (Ar.run Ar.add IntKind.i64 (Ar.run Ar.mul IntKind.i64 a1 a3) (Ar.run Ar.mul IntKind.i64 a2 a5)) (Ar.run Ar.sub IntKind.i64 0 (Ar.run Ar.mul IntKind.i64 1000 a0))) 0)) 1000) 1, Ar.run Ar.add IntKind.i64 (Ar.run Ar.quo IntKind.i64 (Ar.run Ar.mul IntKind.i64 a14 (Ar.run Ar.mx IntKind.i64 (Ar.run Ar.add IntKind.i64 (Ar.run Ar.add IntKind.i64 (Ar.run Ar.mul IntKind.i64 a1 a4) (Ar.run Ar.mul IntKind.i64 a2 a6)) (Ar.run Ar.sub IntKind.i64 0 (Ar.run Ar.mul IntKind.i64 1000 a0))) 0)) 1000) 1, 0) []))
   (.leaf (.done (Ar.run Ar.add IntKind.i64 (Ar.run Ar.quo IntKind.i64 (Ar.run Ar.mul IntKind.i64 a13 (Ar.run Ar.mx IntKind.i64 (Ar.run Ar.add IntKind.i64 (Ar.run Ar.add IntKind.i64 (Ar.run Ar.mul IntKind.i64 a1 a3) (Ar.run Ar.mul IntKind.i64 a2 a5)) (Ar.run Ar.sub IntKind.i64 0 (Ar.run Ar.mul IntKind.i64 1000 a0))) 0)) 1000) 1, Ar.run Ar.quo IntKind.i64 (Ar.run Ar.mul IntKind.i64 a14 (Ar.run Ar.mx IntKind.i64 (Ar.run Ar.add IntKind.i64 (Ar.run Ar.add IntKind.i64 (Ar.run Ar.mul IntKind.i64 a1 a4) (Ar.run Ar.mul IntKind.i64 a2 a6)) (Ar.run Ar.sub IntKind.i64 0 (Ar.run Ar.mul IntKind.i64 1000 a0))) 0)) 1000, 0) [])))
   (.ask (Cm.run Cm.gtr (Ar.run Ar.rem IntKind.i64 (Ar.run Ar.mul IntKind.i64 a14 (Ar.run Ar.mx IntKind.i64 (Ar.run Ar.add IntKind.i64 (Ar.run Ar.add IntKind.i64 (Ar.run Ar.mul IntKind.i64 a1 a4) (Ar.run Ar.mul IntKind.i64 a2 a6)) (Ar.run Ar.sub IntKind.i64 0 (Ar.run Ar.mul IntKind.i64 1000 a0))) 0)) 1000) 0)
   (.leaf (.done (Ar.run Ar.quo IntKind.i64 (Ar.run Ar.mul IntKind.i64 a13 (Ar.run Ar.mx IntKind.i64 (Ar.run Ar.add IntKind.i64 (Ar.run Ar.add IntKind.i64 (Ar.run Ar.mul IntKind.i64 a1 a3) (Ar.run Ar.mul IntKind.i64 a2 a5)) (Ar.run Ar.sub IntKind.i64 0 (Ar.run Ar.mul IntKind.i64 1000 a0))) 0)) 1000, Ar.run Ar.add IntKind.i64 (Ar.run Ar.quo IntKind.i64 (Ar.run Ar.mul IntKind.i64 a14 (Ar.run Ar.mx IntKind.i64 (Ar.run Ar.add IntKind.i64 (Ar.run Ar.add IntKind.i64 (Ar.run Ar.mul IntKind.i64 a1 a4) (Ar.run Ar.mul IntKind.i64 a2 a6)) (Ar.run Ar.sub IntKind.i64 0 (Ar.run Ar.mul IntKind.i64 1000 a0))) 0)) 1000) 1, 0) []))
   (.leaf (.done (Ar.run Ar.quo IntKind.i64 (Ar.run Ar.mul IntKind.i64 a13 (Ar.run Ar.mx IntKind.i64 (Ar.run Ar.add IntKind.i64 (Ar.run Ar.add IntKind.i64 (Ar.run Ar.mul IntKind.i64 a1 a3) (Ar.run Ar.mul IntKind.i64 a2 a5)) (Ar.run Ar.sub IntKind.i64 0 (Ar.run Ar.mul IntKind.i64 1000 a0))) 0)) 1000, Ar.run Ar.quo IntKind.i64 (Ar.run Ar.mul IntKind.i64 a14 (Ar.run Ar.mx IntKind.i64 (Ar.run Ar.add IntKind.i64 (Ar.run Ar.add IntKind.i64 (Ar.run Ar.mul IntKind.i64 a1 a4) (Ar.run Ar.mul IntKind.i64 a2 a6)) (Ar.run Ar.sub IntKind.i64 0 (Ar.run Ar.mul IntKind.i64 1000 a0))) 0)) 1000, 0) []))))
   (.leaf (.done (0, 0, 3) [])))
   (.leaf (.done (0, 0, 3) [])))
   (.leaf (.done (0, 0, 3) []))))

noncomputable def abnD (a0 : Int) (a1 : Int) (a2 : Int) (a3 : Int) (a4 : Int) (a5 : Int) (a6 : Int) (a7 : Int) (a8 : Int) (a9 : Int) (a10 : Int) (a11 : Int) (a12 : Int) (a13 : Int) (a14 : Int) : abnN → DD (Lf abnN abnR) := fun a => nomatch a

noncomputable def abnA (a0 : Int) (a1 : Int) (a2 : Int) (a3 : Int) (a4 : Int) (a5 : Int) (a6 : Int) (a7 : Int) (a8 : Int) (a9 : Int) (a10 : Int) (a11 : Int) (a12 : Int) (a13 : Int) (a14 : Int) : AF abnN abnR where
  code := abnCode
  base := 0
  nt := 37
  m := 400
  un := []
  W := []
  h0 := []
  args := [.agg [.int .i64 (.x a0), .int .i64 (.x a1), .int .i64 (.x a2), .int .i64 (.x a3), .int .i64 (.x a4), .int .i64 (.x a5), .int .i64 (.x a6), .int .i64 (.x a7), .int .i64 (.x a8), .int .i64 (.x a9), .int .i64 (.x a10), .int .i64 (.x a11), .int .i64 (.x a12)], .agg [.int .i64 (.x a13), .int .i64 (.x a14)]]
  res := (Try.f30).results.toList
  path := fun a => nomatch a
  pd := fun a => nomatch a
  D0 := abnD0 a0 a1 a2 a3 a4 a5 a6 a7 a8 a9 a10 a11 a12 a13 a14
  D := abnD a0 a1 a2 a3 a4 a5 a6 a7 a8 a9 a10 a11 a12 a13 a14
  rc := (fun v => .tup [.agg [.int .i64 (.x v.1), .int .i64 (.x v.2.1)], .int .i64 (.x v.2.2)])
  rh := (fun v => [])
  rn := (fun v => 0)
  rx := (fun v => [])
  rgo := (fun _ => none)


theorem abnstart (a0 : Int) (a1 : Int) (a2 : Int) (a3 : Int) (a4 : Int) (a5 : Int) (a6 : Int) (a7 : Int) (a8 : Int) (a9 : Int) (a10 : Int) (a11 : Int) (a12 : Int) (a13 : Int) (a14 : Int) : AF.edgeOk (abnA a0 a1 a2 a3 a4 a5 a6 a7 a8 a9 a10 a11 a12 a13 a14) (ctxOf Try.prog memo0) (abnD0 a0 a1 a2 a3 a4 a5 a6 a7 a8 a9 a10 a11 a12 a13 a14) (AF.run0 (abnA a0 a1 a2 a3 a4 a5 a6 a7 a8 a9 a10 a11 a12 a13 a14) (ctxOf Try.prog (memoA 12 abcP abcF memo0))) := by unfold AF.edgeOk; kernel_rfl

theorem abnok (a0 : Int) (a1 : Int) (a2 : Int) (a3 : Int) (a4 : Int) (a5 : Int) (a6 : Int) (a7 : Int) (a8 : Int) (a9 : Int) (a10 : Int) (a11 : Int) (a12 : Int) (a13 : Int) (a14 : Int) : (abnA a0 a1 a2 a3 a4 a5 a6 a7 a8 a9 a10 a11 a12 a13 a14).Ok Try.prog (ctxOf Try.prog (memoA 12 abcP abcF memo0)) where
  regs := by kernel_rfl
  h0 := by kernel_rfl
  start := abnstart a0 a1 a2 a3 a4 a5 a6 a7 a8 a9 a10 a11 a12 a13 a14
  node := fun a _ => nomatch a
  pd := fun a => nomatch a
  le := fun a => nomatch a
  rd := fun v => ⟨⟨fa_nil, fa_nil, fa_nil, rfl⟩, rfl⟩
  wb := rfl


theorem abnhR {ρ : Env} (a0 : Int) (a1 : Int) (a2 : Int) (a3 : Int) (a4 : Int) (a5 : Int) (a6 : Int) (a7 : Int) (a8 : Int) (a9 : Int) (a10 : Int) (a11 : Int) (a12 : Int) (a13 : Int) (a14 : Int) (hM : MemoOk Try.prog (ctxOf Try.prog (memoA 12 abcP abcF memo0)) ρ) : ∀ X a q n D, FxOk ρ X → X.base = (abnA a0 a1 a2 a3 a4 a5 a6 a7 a8 a9 a10 a11 a12 a13 a14).base → X.nt = (abnA a0 a1 a2 a3 a4 a5 a6 a7 a8 a9 a10 a11 a12 a13 a14).nt → X.W = (abnA a0 a1 a2 a3 a4 a5 a6 a7 a8 a9 a10 a11 a12 a13 a14).W → (abnA a0 a1 a2 a3 a4 a5 a6 a7 a8 a9 a10 a11 a12 a13 a14).rgo a = some q → q n = some D → (abnA a0 a1 a2 a3 a4 a5 a6 a7 a8 a9 a10 a11 a12 a13 a14).RangeOk Try.prog ρ X a D := AF.noRange rfl

theorem abnctr {ρ : Env} (a0 : Int) (a1 : Int) (a2 : Int) (a3 : Int) (a4 : Int) (a5 : Int) (a6 : Int) (a7 : Int) (a8 : Int) (a9 : Int) (a10 : Int) (a11 : Int) (a12 : Int) (a13 : Int) (a14 : Int) {n : Nat} {v : abnR} (hM : MemoOk Try.prog (ctxOf Try.prog (memoA 12 abcP abcF memo0)) ρ) (hv : (abnA a0 a1 a2 a3 a4 a5 a6 a7 a8 a9 a10 a11 a12 a13 a14).run n = some v) :
    Ctr Try.prog ρ 30 (abnA a0 a1 a2 a3 a4 a5 a6 a7 a8 a9 a10 a11 a12 a13 a14).args (abnA a0 a1 a2 a3 a4 a5 a6 a7 a8 a9 a10 a11 a12 a13 a14).H0 (abnA a0 a1 a2 a3 a4 a5 a6 a7 a8 a9 a10 a11 a12 a13 a14).base (abnA a0 a1 a2 a3 a4 a5 a6 a7 a8 a9 a10 a11 a12 a13 a14).W ((abnA a0 a1 a2 a3 a4 a5 a6 a7 a8 a9 a10 a11 a12 a13 a14).rc v) (putH (abnA a0 a1 a2 a3 a4 a5 a6 a7 a8 a9 a10 a11 a12 a13 a14).H0 ((abnA a0 a1 a2 a3 a4 a5 a6 a7 a8 a9 a10 a11 a12 a13 a14).rh v ++ (abnA a0 a1 a2 a3 a4 a5 a6 a7 a8 a9 a10 a11 a12 a13 a14).rx v)) ((abnA a0 a1 a2 a3 a4 a5 a6 a7 a8 a9 a10 a11 a12 a13 a14).rn v) :=
  AF.ctr try_ok hM (abnok a0 a1 a2 a3 a4 a5 a6 a7 a8 a9 a10 a11 a12 a13 a14) (fn := Try.f30) Try.func30 rfl rfl (Nat.le_of_ble_eq_true rfl) rfl (abnhR a0 a1 a2 a3 a4 a5 a6 a7 a8 a9 a10 a11 a12 a13 a14 hM) hv


theorem abnmem {ρ : Env} : MemoOk Try.prog (ctxOf Try.prog (memoA 12 abcP abcF memo0)) ρ := (memoA_ok (abcknown memo0_ok) memo0_ok)


abbrev abnP : List AP := [.agg [.int .i64, .int .i64, .int .i64, .int .i64, .int .i64, .int .i64, .int .i64, .int .i64, .int .i64, .int .i64, .int .i64, .int .i64, .int .i64], .agg [.int .i64, .int .i64]]
noncomputable def abnF (v : AV) : AF abnN abnR := abnA (v.i.getD 0 0) (v.i.getD 1 0) (v.i.getD 2 0) (v.i.getD 3 0) (v.i.getD 4 0) (v.i.getD 5 0) (v.i.getD 6 0) (v.i.getD 7 0) (v.i.getD 8 0) (v.i.getD 9 0) (v.i.getD 10 0) (v.i.getD 11 0) (v.i.getD 12 0) (v.i.getD 13 0) (v.i.getD 14 0)
theorem abnknown {ρ : Env} (hM : MemoOk Try.prog (ctxOf Try.prog (memoA 12 abcP abcF memo0)) ρ) : KnownA Try.prog ρ 30 abnP abnF where
  fn := ⟨Try.f30, Try.func30, rfl⟩
  args := fun v => rfl
  plain := fun v r => rfl
  ctr := fun v n r h => abnctr (v.i.getD 0 0) (v.i.getD 1 0) (v.i.getD 2 0) (v.i.getD 3 0) (v.i.getD 4 0) (v.i.getD 5 0) (v.i.getD 6 0) (v.i.getD 7 0) (v.i.getD 8 0) (v.i.getD 9 0) (v.i.getD 10 0) (v.i.getD 11 0) (v.i.getD 12 0) (v.i.getD 13 0) (v.i.getD 14 0) hM h

end Go.Proofs.Ytgnmdknbnkljbaa.Cx

/- acme/acmeref09.Loose as an automaton. Made by tools/cxauto.py. -/
namespace Go.Proofs.Ytgnmdknbnkljbaa.Cx
set_option linter.unusedVariables false
set_option linter.unusedSimpArgs false
set_option maxRecDepth 100000
open Go Go.Proofs Go.RowKit

noncomputable abbrev abuCode : Code := funcCode Try.f32


abbrev abuN := Empty

abbrev abuR := Int

noncomputable def abuD0 (a0 : Int) (a1 : Int) (a2 : Int) (a3 : Int) (a4 : Int) (a5 : Int) (a6 : Int) (a7 : Int) (a8 : Int) (a9 : Int) (a10 : Int) (a11 : Int) (a12 : Int) (a13 : Int) (a14 : Int) (a15 : Int) : DD (Lf abuN abuR) :=
 .ask (Cm.run Cm.leq (Ar.run Ar.mul IntKind.i64 a13 (Ar.run Ar.sub IntKind.i64 (Ar.run Ar.add IntKind.i64 (Ar.run Ar.mul IntKind.i64 a1 a14) (Ar.run Ar.mul IntKind.i64 a2 a15)) (Ar.run Ar.mul IntKind.i64 1000 a0))) 0)
   (.leaf (.done 0 []))
   (.leaf (.done (Ar.run Ar.quo IntKind.i64 (Ar.run Ar.add IntKind.i64 (Ar.run Ar.mul IntKind.i64 a13 (Ar.run Ar.sub IntKind.i64 (Ar.run Ar.add IntKind.i64 (Ar.run Ar.mul IntKind.i64 a1 a14) (Ar.run Ar.mul IntKind.i64 a2 a15)) (Ar.run Ar.mul IntKind.i64 1000 a0))) 999) 1000) []))

noncomputable def abuD (a0 : Int) (a1 : Int) (a2 : Int) (a3 : Int) (a4 : Int) (a5 : Int) (a6 : Int) (a7 : Int) (a8 : Int) (a9 : Int) (a10 : Int) (a11 : Int) (a12 : Int) (a13 : Int) (a14 : Int) (a15 : Int) : abuN → DD (Lf abuN abuR) := fun a => nomatch a

noncomputable def abuA (a0 : Int) (a1 : Int) (a2 : Int) (a3 : Int) (a4 : Int) (a5 : Int) (a6 : Int) (a7 : Int) (a8 : Int) (a9 : Int) (a10 : Int) (a11 : Int) (a12 : Int) (a13 : Int) (a14 : Int) (a15 : Int) : AF abuN abuR where
  code := abuCode
  base := 0
  nt := 30
  m := 400
  un := []
  W := []
  h0 := []
  args := [.agg [.int .i64 (.x a0), .int .i64 (.x a1), .int .i64 (.x a2), .int .i64 (.x a3), .int .i64 (.x a4), .int .i64 (.x a5), .int .i64 (.x a6), .int .i64 (.x a7), .int .i64 (.x a8), .int .i64 (.x a9), .int .i64 (.x a10), .int .i64 (.x a11), .int .i64 (.x a12)], .int .i64 (.x a13), .agg [.int .i64 (.x a14), .int .i64 (.x a15)]]
  res := (Try.f32).results.toList
  path := fun a => nomatch a
  pd := fun a => nomatch a
  D0 := abuD0 a0 a1 a2 a3 a4 a5 a6 a7 a8 a9 a10 a11 a12 a13 a14 a15
  D := abuD a0 a1 a2 a3 a4 a5 a6 a7 a8 a9 a10 a11 a12 a13 a14 a15
  rc := (fun v => .int .i64 (.x v))
  rh := (fun v => [])
  rn := (fun v => 0)
  rx := (fun v => [])
  rgo := (fun _ => none)


theorem abustart (a0 : Int) (a1 : Int) (a2 : Int) (a3 : Int) (a4 : Int) (a5 : Int) (a6 : Int) (a7 : Int) (a8 : Int) (a9 : Int) (a10 : Int) (a11 : Int) (a12 : Int) (a13 : Int) (a14 : Int) (a15 : Int) : AF.edgeOk (abuA a0 a1 a2 a3 a4 a5 a6 a7 a8 a9 a10 a11 a12 a13 a14 a15) (ctxOf Try.prog memo0) (abuD0 a0 a1 a2 a3 a4 a5 a6 a7 a8 a9 a10 a11 a12 a13 a14 a15) (AF.run0 (abuA a0 a1 a2 a3 a4 a5 a6 a7 a8 a9 a10 a11 a12 a13 a14 a15) (ctxOf Try.prog memo0)) := by unfold AF.edgeOk; kernel_rfl

theorem abuok (a0 : Int) (a1 : Int) (a2 : Int) (a3 : Int) (a4 : Int) (a5 : Int) (a6 : Int) (a7 : Int) (a8 : Int) (a9 : Int) (a10 : Int) (a11 : Int) (a12 : Int) (a13 : Int) (a14 : Int) (a15 : Int) : (abuA a0 a1 a2 a3 a4 a5 a6 a7 a8 a9 a10 a11 a12 a13 a14 a15).Ok Try.prog (ctxOf Try.prog memo0) where
  regs := by kernel_rfl
  h0 := by kernel_rfl
  start := abustart a0 a1 a2 a3 a4 a5 a6 a7 a8 a9 a10 a11 a12 a13 a14 a15
  node := fun a _ => nomatch a
  pd := fun a => nomatch a
  le := fun a => nomatch a
  rd := fun v => ⟨⟨fa_nil, fa_nil, fa_nil, rfl⟩, rfl⟩
  wb := rfl


theorem abuhR {ρ : Env} (a0 : Int) (a1 : Int) (a2 : Int) (a3 : Int) (a4 : Int) (a5 : Int) (a6 : Int) (a7 : Int) (a8 : Int) (a9 : Int) (a10 : Int) (a11 : Int) (a12 : Int) (a13 : Int) (a14 : Int) (a15 : Int) (hM : MemoOk Try.prog (ctxOf Try.prog memo0) ρ) : ∀ X a q n D, FxOk ρ X → X.base = (abuA a0 a1 a2 a3 a4 a5 a6 a7 a8 a9 a10 a11 a12 a13 a14 a15).base → X.nt = (abuA a0 a1 a2 a3 a4 a5 a6 a7 a8 a9 a10 a11 a12 a13 a14 a15).nt → X.W = (abuA a0 a1 a2 a3 a4 a5 a6 a7 a8 a9 a10 a11 a12 a13 a14 a15).W → (abuA a0 a1 a2 a3 a4 a5 a6 a7 a8 a9 a10 a11 a12 a13 a14 a15).rgo a = some q → q n = some D → (abuA a0 a1 a2 a3 a4 a5 a6 a7 a8 a9 a10 a11 a12 a13 a14 a15).RangeOk Try.prog ρ X a D := AF.noRange rfl

theorem abuctr {ρ : Env} (a0 : Int) (a1 : Int) (a2 : Int) (a3 : Int) (a4 : Int) (a5 : Int) (a6 : Int) (a7 : Int) (a8 : Int) (a9 : Int) (a10 : Int) (a11 : Int) (a12 : Int) (a13 : Int) (a14 : Int) (a15 : Int) {n : Nat} {v : abuR} (hM : MemoOk Try.prog (ctxOf Try.prog memo0) ρ) (hv : (abuA a0 a1 a2 a3 a4 a5 a6 a7 a8 a9 a10 a11 a12 a13 a14 a15).run n = some v) :
    Ctr Try.prog ρ 32 (abuA a0 a1 a2 a3 a4 a5 a6 a7 a8 a9 a10 a11 a12 a13 a14 a15).args (abuA a0 a1 a2 a3 a4 a5 a6 a7 a8 a9 a10 a11 a12 a13 a14 a15).H0 (abuA a0 a1 a2 a3 a4 a5 a6 a7 a8 a9 a10 a11 a12 a13 a14 a15).base (abuA a0 a1 a2 a3 a4 a5 a6 a7 a8 a9 a10 a11 a12 a13 a14 a15).W ((abuA a0 a1 a2 a3 a4 a5 a6 a7 a8 a9 a10 a11 a12 a13 a14 a15).rc v) (putH (abuA a0 a1 a2 a3 a4 a5 a6 a7 a8 a9 a10 a11 a12 a13 a14 a15).H0 ((abuA a0 a1 a2 a3 a4 a5 a6 a7 a8 a9 a10 a11 a12 a13 a14 a15).rh v ++ (abuA a0 a1 a2 a3 a4 a5 a6 a7 a8 a9 a10 a11 a12 a13 a14 a15).rx v)) ((abuA a0 a1 a2 a3 a4 a5 a6 a7 a8 a9 a10 a11 a12 a13 a14 a15).rn v) :=
  AF.ctr try_ok hM (abuok a0 a1 a2 a3 a4 a5 a6 a7 a8 a9 a10 a11 a12 a13 a14 a15) (fn := Try.f32) Try.func32 rfl rfl (Nat.le_of_ble_eq_true rfl) rfl (abuhR a0 a1 a2 a3 a4 a5 a6 a7 a8 a9 a10 a11 a12 a13 a14 a15 hM) hv


theorem abumem {ρ : Env} : MemoOk Try.prog (ctxOf Try.prog memo0) ρ := memo0_ok


abbrev abuP : List AP := [.agg [.int .i64, .int .i64, .int .i64, .int .i64, .int .i64, .int .i64, .int .i64, .int .i64, .int .i64, .int .i64, .int .i64, .int .i64, .int .i64], .int .i64, .agg [.int .i64, .int .i64]]
noncomputable def abuF (v : AV) : AF abuN abuR := abuA (v.i.getD 0 0) (v.i.getD 1 0) (v.i.getD 2 0) (v.i.getD 3 0) (v.i.getD 4 0) (v.i.getD 5 0) (v.i.getD 6 0) (v.i.getD 7 0) (v.i.getD 8 0) (v.i.getD 9 0) (v.i.getD 10 0) (v.i.getD 11 0) (v.i.getD 12 0) (v.i.getD 13 0) (v.i.getD 14 0) (v.i.getD 15 0)
theorem abuknown {ρ : Env} (hM : MemoOk Try.prog (ctxOf Try.prog memo0) ρ) : KnownA Try.prog ρ 32 abuP abuF where
  fn := ⟨Try.f32, Try.func32, rfl⟩
  args := fun v => rfl
  plain := fun v r => rfl
  ctr := fun v n r h => abuctr (v.i.getD 0 0) (v.i.getD 1 0) (v.i.getD 2 0) (v.i.getD 3 0) (v.i.getD 4 0) (v.i.getD 5 0) (v.i.getD 6 0) (v.i.getD 7 0) (v.i.getD 8 0) (v.i.getD 9 0) (v.i.getD 10 0) (v.i.getD 11 0) (v.i.getD 12 0) (v.i.getD 13 0) (v.i.getD 14 0) (v.i.getD 15 0) hM h

end Go.Proofs.Ytgnmdknbnkljbaa.Cx

/- acme/acmeref09.Arm as an automaton. Made by tools/cxauto.py. -/
namespace Go.Proofs.Ytgnmdknbnkljbaa.Cx
set_option linter.unusedVariables false
set_option linter.unusedSimpArgs false
set_option maxRecDepth 100000
open Go Go.Proofs Go.RowKit

noncomputable abbrev abrCode : Code := funcCode Try.f25


abbrev abrN := Empty

abbrev abrR := Int

noncomputable def abrD0 (a0 : Int) (a1 : Int) (a2 : Int) (a3 : Int) (a4 : Int) (a5 : Int) (a6 : Int) (a7 : Int) (a8 : Int) (a9 : Int) (a10 : Int) (a11 : Int) (a12 : Int) (a13 : Int) (a14 : Int) : DD (Lf abrN abrR) :=
 .leaf (.done (Ar.run Ar.add IntKind.i64 (Ar.run Ar.add IntKind.i64 (Ar.run Ar.mul IntKind.i64 1000 a0) (Ar.run Ar.mul IntKind.i64 a1 a13)) (Ar.run Ar.mul IntKind.i64 a2 a14)) [])

noncomputable def abrD (a0 : Int) (a1 : Int) (a2 : Int) (a3 : Int) (a4 : Int) (a5 : Int) (a6 : Int) (a7 : Int) (a8 : Int) (a9 : Int) (a10 : Int) (a11 : Int) (a12 : Int) (a13 : Int) (a14 : Int) : abrN → DD (Lf abrN abrR) := fun a => nomatch a

noncomputable def abrA (a0 : Int) (a1 : Int) (a2 : Int) (a3 : Int) (a4 : Int) (a5 : Int) (a6 : Int) (a7 : Int) (a8 : Int) (a9 : Int) (a10 : Int) (a11 : Int) (a12 : Int) (a13 : Int) (a14 : Int) : AF abrN abrR where
  code := abrCode
  base := 0
  nt := 20
  m := 400
  un := []
  W := []
  h0 := []
  args := [.agg [.int .i64 (.x a0), .int .i64 (.x a1), .int .i64 (.x a2), .int .i64 (.x a3), .int .i64 (.x a4), .int .i64 (.x a5), .int .i64 (.x a6), .int .i64 (.x a7), .int .i64 (.x a8), .int .i64 (.x a9), .int .i64 (.x a10), .int .i64 (.x a11), .int .i64 (.x a12)], .agg [.int .i64 (.x a13), .int .i64 (.x a14)]]
  res := (Try.f25).results.toList
  path := fun a => nomatch a
  pd := fun a => nomatch a
  D0 := abrD0 a0 a1 a2 a3 a4 a5 a6 a7 a8 a9 a10 a11 a12 a13 a14
  D := abrD a0 a1 a2 a3 a4 a5 a6 a7 a8 a9 a10 a11 a12 a13 a14
  rc := (fun v => .int .i64 (.x v))
  rh := (fun v => [])
  rn := (fun v => 0)
  rx := (fun v => [])
  rgo := (fun _ => none)


theorem abrstart (a0 : Int) (a1 : Int) (a2 : Int) (a3 : Int) (a4 : Int) (a5 : Int) (a6 : Int) (a7 : Int) (a8 : Int) (a9 : Int) (a10 : Int) (a11 : Int) (a12 : Int) (a13 : Int) (a14 : Int) : AF.edgeOk (abrA a0 a1 a2 a3 a4 a5 a6 a7 a8 a9 a10 a11 a12 a13 a14) (ctxOf Try.prog memo0) (abrD0 a0 a1 a2 a3 a4 a5 a6 a7 a8 a9 a10 a11 a12 a13 a14) (AF.run0 (abrA a0 a1 a2 a3 a4 a5 a6 a7 a8 a9 a10 a11 a12 a13 a14) (ctxOf Try.prog memo0)) := by unfold AF.edgeOk; kernel_rfl

theorem abrok (a0 : Int) (a1 : Int) (a2 : Int) (a3 : Int) (a4 : Int) (a5 : Int) (a6 : Int) (a7 : Int) (a8 : Int) (a9 : Int) (a10 : Int) (a11 : Int) (a12 : Int) (a13 : Int) (a14 : Int) : (abrA a0 a1 a2 a3 a4 a5 a6 a7 a8 a9 a10 a11 a12 a13 a14).Ok Try.prog (ctxOf Try.prog memo0) where
  regs := by kernel_rfl
  h0 := by kernel_rfl
  start := abrstart a0 a1 a2 a3 a4 a5 a6 a7 a8 a9 a10 a11 a12 a13 a14
  node := fun a _ => nomatch a
  pd := fun a => nomatch a
  le := fun a => nomatch a
  rd := fun v => ⟨⟨fa_nil, fa_nil, fa_nil, rfl⟩, rfl⟩
  wb := rfl


theorem abrhR {ρ : Env} (a0 : Int) (a1 : Int) (a2 : Int) (a3 : Int) (a4 : Int) (a5 : Int) (a6 : Int) (a7 : Int) (a8 : Int) (a9 : Int) (a10 : Int) (a11 : Int) (a12 : Int) (a13 : Int) (a14 : Int) (hM : MemoOk Try.prog (ctxOf Try.prog memo0) ρ) : ∀ X a q n D, FxOk ρ X → X.base = (abrA a0 a1 a2 a3 a4 a5 a6 a7 a8 a9 a10 a11 a12 a13 a14).base → X.nt = (abrA a0 a1 a2 a3 a4 a5 a6 a7 a8 a9 a10 a11 a12 a13 a14).nt → X.W = (abrA a0 a1 a2 a3 a4 a5 a6 a7 a8 a9 a10 a11 a12 a13 a14).W → (abrA a0 a1 a2 a3 a4 a5 a6 a7 a8 a9 a10 a11 a12 a13 a14).rgo a = some q → q n = some D → (abrA a0 a1 a2 a3 a4 a5 a6 a7 a8 a9 a10 a11 a12 a13 a14).RangeOk Try.prog ρ X a D := AF.noRange rfl

theorem abrctr {ρ : Env} (a0 : Int) (a1 : Int) (a2 : Int) (a3 : Int) (a4 : Int) (a5 : Int) (a6 : Int) (a7 : Int) (a8 : Int) (a9 : Int) (a10 : Int) (a11 : Int) (a12 : Int) (a13 : Int) (a14 : Int) {n : Nat} {v : abrR} (hM : MemoOk Try.prog (ctxOf Try.prog memo0) ρ) (hv : (abrA a0 a1 a2 a3 a4 a5 a6 a7 a8 a9 a10 a11 a12 a13 a14).run n = some v) :
    Ctr Try.prog ρ 25 (abrA a0 a1 a2 a3 a4 a5 a6 a7 a8 a9 a10 a11 a12 a13 a14).args (abrA a0 a1 a2 a3 a4 a5 a6 a7 a8 a9 a10 a11 a12 a13 a14).H0 (abrA a0 a1 a2 a3 a4 a5 a6 a7 a8 a9 a10 a11 a12 a13 a14).base (abrA a0 a1 a2 a3 a4 a5 a6 a7 a8 a9 a10 a11 a12 a13 a14).W ((abrA a0 a1 a2 a3 a4 a5 a6 a7 a8 a9 a10 a11 a12 a13 a14).rc v) (putH (abrA a0 a1 a2 a3 a4 a5 a6 a7 a8 a9 a10 a11 a12 a13 a14).H0 ((abrA a0 a1 a2 a3 a4 a5 a6 a7 a8 a9 a10 a11 a12 a13 a14).rh v ++ (abrA a0 a1 a2 a3 a4 a5 a6 a7 a8 a9 a10 a11 a12 a13 a14).rx v)) ((abrA a0 a1 a2 a3 a4 a5 a6 a7 a8 a9 a10 a11 a12 a13 a14).rn v) :=
  AF.ctr try_ok hM (abrok a0 a1 a2 a3 a4 a5 a6 a7 a8 a9 a10 a11 a12 a13 a14) (fn := Try.f25) Try.func25 rfl rfl (Nat.le_of_ble_eq_true rfl) rfl (abrhR a0 a1 a2 a3 a4 a5 a6 a7 a8 a9 a10 a11 a12 a13 a14 hM) hv


theorem abrmem {ρ : Env} : MemoOk Try.prog (ctxOf Try.prog memo0) ρ := memo0_ok


abbrev abrP : List AP := [.agg [.int .i64, .int .i64, .int .i64, .int .i64, .int .i64, .int .i64, .int .i64, .int .i64, .int .i64, .int .i64, .int .i64, .int .i64, .int .i64], .agg [.int .i64, .int .i64]]
noncomputable def abrF (v : AV) : AF abrN abrR := abrA (v.i.getD 0 0) (v.i.getD 1 0) (v.i.getD 2 0) (v.i.getD 3 0) (v.i.getD 4 0) (v.i.getD 5 0) (v.i.getD 6 0) (v.i.getD 7 0) (v.i.getD 8 0) (v.i.getD 9 0) (v.i.getD 10 0) (v.i.getD 11 0) (v.i.getD 12 0) (v.i.getD 13 0) (v.i.getD 14 0)
theorem abrknown {ρ : Env} (hM : MemoOk Try.prog (ctxOf Try.prog memo0) ρ) : KnownA Try.prog ρ 25 abrP abrF where
  fn := ⟨Try.f25, Try.func25, rfl⟩
  args := fun v => rfl
  plain := fun v r => rfl
  ctr := fun v n r h => abrctr (v.i.getD 0 0) (v.i.getD 1 0) (v.i.getD 2 0) (v.i.getD 3 0) (v.i.getD 4 0) (v.i.getD 5 0) (v.i.getD 6 0) (v.i.getD 7 0) (v.i.getD 8 0) (v.i.getD 9 0) (v.i.getD 10 0) (v.i.getD 11 0) (v.i.getD 12 0) (v.i.getD 13 0) (v.i.getD 14 0) hM h

end Go.Proofs.Ytgnmdknbnkljbaa.Cx

/- What loosens a bolt. Made by tools/gen_bcon.py. -/
namespace Go.Proofs.Ytgnmdknbnkljbaa.Cx
set_option linter.unusedVariables false
set_option linter.unusedSimpArgs false
set_option maxRecDepth 100000
set_option maxHeartbeats 4000000
open Go Go.RowKit

/-- The torque that loosens a bolt: f a force, g by how much the arm of friction is greater than that of the slope. -/
def looV (f g : Int) : Int := (max 0 (f * g) + 999) / 1000
def gripV (l th hd o1 o2 : Int) : Int := th * o1 + hd * o2 - 1000 * l

theorem looV_mono {f f' g g' : Int} (h0 : 0 ≤ f) (h1 : f ≤ f') (h2 : g ≤ g') : looV f g ≤ looV f' g' := by
  unfold looV
  by_cases hg : 0 ≤ g
  · have : f * g ≤ f' * g' := Int.mul_le_mul h1 h2 hg (by omega)
    omega
  · have : f * g ≤ 0 := Int.mul_nonpos_of_nonneg_of_nonpos h0 (by omega)
    omega

theorem abr_val (a0 a1 a2 a3 a4 a5 a6 a7 a8 a9 a10 a11 a12 a13 a14 : Int) (hl : 1 ≤ a0 ∧ a0 ≤ 100000) (ht : 0 ≤ a1 ∧ a1 ≤ 100000) (hh : 0 ≤ a2 ∧ a2 ≤ 100000) (h1 : 0 ≤ a13 ∧ a13 ≤ 1000) (h2 : 0 ≤ a14 ∧ a14 ≤ 1000) : AF.fin (abrA a0 a1 a2 a3 a4 a5 a6 a7 a8 a9 a10 a11 a12 a13 a14) = true ∧ AF.val (abrA a0 a1 a2 a3 a4 a5 a6 a7 a8 a9 a10 a11 a12 a13 a14) = armV a0 a1 a2 a13 a14 :=
  AF.val_sat (Inv := fun _ => False) (E := fun (v : abrR) => v = armV a0 a1 a2 a13 a14) (fun _ => 0) (fun _ => rfl) (fun a => nomatch a) (by
    have m1 := mul_rng ht h1
    have m2 := mul_rng hh h2
    show Ar.run Ar.add IntKind.i64 (Ar.run Ar.add IntKind.i64 (Ar.run Ar.mul IntKind.i64 1000 a0) (Ar.run Ar.mul IntKind.i64 a1 a13)) (Ar.run Ar.mul IntKind.i64 a2 a14) = _
    rw [arMul (a := 1000) (by omega), arMul (a := a1) (by omega), arMul (a := a2) (by omega), arAdd (a := 1000 * a0) (by omega), arAdd (by omega)]
    rfl)

theorem abu_val (a0 a1 a2 a3 a4 a5 a6 a7 a8 a9 a10 a11 a12 a13 a14 a15 : Int) (hl : 1 ≤ a0 ∧ a0 ≤ 100000) (ht : 0 ≤ a1 ∧ a1 ≤ 100000) (hh : 0 ≤ a2 ∧ a2 ≤ 100000) (hf : 0 ≤ a13 ∧ a13 ≤ 100000000) (h1 : 0 ≤ a14 ∧ a14 ≤ 1000) (h2 : 0 ≤ a15 ∧ a15 ≤ 1000) : AF.fin (abuA a0 a1 a2 a3 a4 a5 a6 a7 a8 a9 a10 a11 a12 a13 a14 a15) = true ∧ AF.val (abuA a0 a1 a2 a3 a4 a5 a6 a7 a8 a9 a10 a11 a12 a13 a14 a15) = looV a13 (gripV a0 a1 a2 a14 a15) :=
  AF.val_sat (Inv := fun _ => False) (E := fun (v : abuR) => v = looV a13 (gripV a0 a1 a2 a14 a15)) (fun _ => 0) (fun _ => rfl) (fun a => nomatch a) (by
    have m1 := mul_rng ht h1
    have m2 := mul_rng hh h2
    have e : Ar.run Ar.sub IntKind.i64 (Ar.run Ar.add IntKind.i64 (Ar.run Ar.mul IntKind.i64 a1 a14) (Ar.run Ar.mul IntKind.i64 a2 a15)) (Ar.run Ar.mul IntKind.i64 1000 a0) = gripV a0 a1 a2 a14 a15 := by
      rw [arMul (a := 1000) (by omega), arMul (a := a1) (by omega), arMul (a := a2) (by omega), arAdd (a := a1 * a14) (by omega), arSub (by omega)]; rfl
    have hg : -100000000 ≤ gripV a0 a1 a2 a14 a15 ∧ gripV a0 a1 a2 a14 a15 ≤ 200000000 := by unfold gripV; omega
    have hm : -10000000000000000 ≤ a13 * gripV a0 a1 a2 a14 a15 ∧ a13 * gripV a0 a1 a2 a14 a15 ≤ 20000000000000000 := by
      have p1 : a13 * gripV a0 a1 a2 a14 a15 ≤ 100000000 * 200000000 := by
        by_cases h0 : 0 ≤ gripV a0 a1 a2 a14 a15
        · exact Int.mul_le_mul hf.2 hg.2 h0 (by omega)
        · have := Int.mul_nonpos_of_nonneg_of_nonpos hf.1 (show gripV a0 a1 a2 a14 a15 ≤ 0 by omega); omega
      have p2 : a13 * (-gripV a0 a1 a2 a14 a15) ≤ 100000000 * 100000000 := by
        by_cases h0 : 0 ≤ -gripV a0 a1 a2 a14 a15
        · exact Int.mul_le_mul hf.2 (by omega) h0 (by omega)
        · have := Int.mul_nonpos_of_nonneg_of_nonpos hf.1 (show -gripV a0 a1 a2 a14 a15 ≤ 0 by omega); omega
      rw [Int.mul_neg] at p2
      omega
    show DD.sat _ _ (abuD0 a0 a1 a2 a3 a4 a5 a6 a7 a8 a9 a10 a11 a12 a13 a14 a15)
    unfold abuD0
    rw [e, arMul (a := a13) (by omega)]
    refine ⟨fun h => ?_, fun h => ?_⟩
    · have h := cmLeq.1 h
      show 0 = looV _ _
      unfold looV; omega
    · have h := cmLeqF.1 h
      show Ar.run Ar.quo IntKind.i64 _ 1000 = looV _ _
      rw [arAdd (by omega), arQuo (by rw [Int.tdiv_eq_ediv_of_nonneg (by omega)]; omega), Int.tdiv_eq_ediv_of_nonneg (by omega)]
      unfold looV; omega)

/-- The arms of friction less that of the slope, as the program computes them. -/
theorem grip_eqs {a0 a1 a2 a3 a4 a5 a6 a7 a8 a9 a10 a11 a12 : Int} (h : KindP a0 a1 a2 a3 a4 a5 a6 a7 a8 a9 a10 a11 a12) :
    Ar.run Ar.add IntKind.i64 (Ar.run Ar.add IntKind.i64 (Ar.run Ar.mul IntKind.i64 a1 a3) (Ar.run Ar.mul IntKind.i64 a2 a5)) (Ar.run Ar.sub IntKind.i64 0 (Ar.run Ar.mul IntKind.i64 1000 a0)) = gripV a0 a1 a2 a3 a5 ∧
    Ar.run Ar.add IntKind.i64 (Ar.run Ar.add IntKind.i64 (Ar.run Ar.mul IntKind.i64 a1 a4) (Ar.run Ar.mul IntKind.i64 a2 a6)) (Ar.run Ar.sub IntKind.i64 0 (Ar.run Ar.mul IntKind.i64 1000 a0)) = gripV a0 a1 a2 a4 a6 ∧
    (-100000000 ≤ gripV a0 a1 a2 a3 a5 ∧ gripV a0 a1 a2 a3 a5 ≤ gripV a0 a1 a2 a4 a6 ∧ gripV a0 a1 a2 a4 a6 ≤ 200000000) := by
  unfold KindP at h
  have m1 := mul_rng (a := a1) (b := a3) (A := 100000) (B := 1000) (by omega) (by omega)
  have m2 := mul_rng (a := a2) (b := a5) (A := 100000) (B := 1000) (by omega) (by omega)
  have m3 := mul_rng (a := a1) (b := a4) (A := 100000) (B := 1000) (by omega) (by omega)
  have m4 := mul_rng (a := a2) (b := a6) (A := 100000) (B := 1000) (by omega) (by omega)
  have m5 : a1 * a3 ≤ a1 * a4 := Int.mul_le_mul_of_nonneg_left (by omega) (by omega)
  have m6 : a2 * a5 ≤ a2 * a6 := Int.mul_le_mul_of_nonneg_left (by omega) (by omega)
  have x1 : Ar.run Ar.mul IntKind.i64 1000 a0 = 1000 * a0 := arMul (by omega)
  have x2 : Ar.run Ar.mul IntKind.i64 a1 a3 = a1 * a3 := arMul (by omega)
  have x3 : Ar.run Ar.mul IntKind.i64 a2 a5 = a2 * a5 := arMul (by omega)
  have x4 : Ar.run Ar.mul IntKind.i64 a1 a4 = a1 * a4 := arMul (by omega)
  have x5 : Ar.run Ar.mul IntKind.i64 a2 a6 = a2 * a6 := arMul (by omega)
  rw [x1, x2, x3, x4, x5, arSub (by omega), arAdd (a := a1 * a3) (by omega), arAdd (a := a1 * a4) (by omega), arAdd (by omega), arAdd (by omega)]
  unfold gripV
  omega

theorem abh_ok (a0 a1 a2 a3 a4 a5 a6 a7 a8 a9 a10 a11 a12 : Int) (h : KindP a0 a1 a2 a3 a4 a5 a6 a7 a8 a9 a10 a11 a12) : AF.fin (abhA a0 a1 a2 a3 a4 a5 a6 a7 a8 a9 a10 a11 a12) = true ∧ AF.val (abhA a0 a1 a2 a3 a4 a5 a6 a7 a8 a9 a10 a11 a12) = (decide (gripV a0 a1 a2 a3 a5 > 0), decide (gripV a0 a1 a2 a4 a6 > 0), 0) :=
  AF.val_sat (Inv := fun _ => False) (E := fun (v : abhR) => v = (decide (gripV a0 a1 a2 a3 a5 > 0), decide (gripV a0 a1 a2 a4 a6 > 0), 0)) (fun _ => 0) (fun _ => rfl) (fun a => nomatch a) (by
    obtain ⟨c1, c2, _⟩ := abc_val a0 a1 a2 a3 a4 a5 a6 a7 a8 a9 a10 a11 a12
    obtain ⟨g1, g2, g3⟩ := grip_eqs h
    show DD.sat _ _ (abhD0 a0 a1 a2 a3 a4 a5 a6 a7 a8 a9 a10 a11 a12)
    unfold abhD0
    rw [c1, c2 h, g1, g2]
    by_cases y1 : gripV a0 a1 a2 a3 a5 > 0 <;> by_cases y2 : gripV a0 a1 a2 a4 a6 > 0 <;> simp [DD.sat, cmGtr, cmGtrF, cmNeq, cmNeqF, y1, y2] <;> omega)
theorem abh_bad (a0 a1 a2 a3 a4 a5 a6 a7 a8 a9 a10 a11 a12 : Int) (h : ¬ KindP a0 a1 a2 a3 a4 a5 a6 a7 a8 a9 a10 a11 a12) : AF.fin (abhA a0 a1 a2 a3 a4 a5 a6 a7 a8 a9 a10 a11 a12) = true ∧ AF.val (abhA a0 a1 a2 a3 a4 a5 a6 a7 a8 a9 a10 a11 a12) = (false, false, 2) :=
  AF.val_sat (Inv := fun _ => False) (E := fun (v : abhR) => v = (false, false, 2)) (fun _ => 0) (fun _ => rfl) (fun a => nomatch a) (by
    obtain ⟨c1, _, c3⟩ := abc_val a0 a1 a2 a3 a4 a5 a6 a7 a8 a9 a10 a11 a12
    show DD.sat _ _ (abhD0 a0 a1 a2 a3 a4 a5 a6 a7 a8 a9 a10 a11 a12)
    unfold abhD0
    rw [c1, c3 h]
    simp [DD.sat, cmNeq, cmNeqF])

theorem up_eq {x : Int} (h : 0 ≤ x ∧ x ≤ 20000000000000000) : Ar.run Ar.quo IntKind.i64 x 1000 = x / 1000 ∧ Ar.run Ar.rem IntKind.i64 x 1000 = x % 1000 ∧ Ar.run Ar.add IntKind.i64 (x / 1000) 1 = x / 1000 + 1 :=
  ⟨by rw [arQuo (by rw [Int.tdiv_eq_ediv_of_nonneg h.1]; omega), Int.tdiv_eq_ediv_of_nonneg h.1], by show x.tmod 1000 = _; rw [Int.tmod_eq_emod_of_nonneg h.1], arAdd (by omega)⟩

theorem abn_ok (a0 a1 a2 a3 a4 a5 a6 a7 a8 a9 a10 a11 a12 a13 a14 : Int) (h : KindP a0 a1 a2 a3 a4 a5 a6 a7 a8 a9 a10 a11 a12) : AF.fin (abnA a0 a1 a2 a3 a4 a5 a6 a7 a8 a9 a10 a11 a12 a13 a14) = true ∧ ((0 ≤ a13 ∧ a13 ≤ a14 ∧ a14 ≤ 100000000 → AF.val (abnA a0 a1 a2 a3 a4 a5 a6 a7 a8 a9 a10 a11 a12 a13 a14) = (looV a13 (gripV a0 a1 a2 a3 a5), looV a14 (gripV a0 a1 a2 a4 a6), 0)) ∧ (¬ (0 ≤ a13 ∧ a13 ≤ a14 ∧ a14 ≤ 100000000) → AF.val (abnA a0 a1 a2 a3 a4 a5 a6 a7 a8 a9 a10 a11 a12 a13 a14) = (0, 0, 3))) :=
  AF.val_sat (Inv := fun _ => False) (E := fun (v : abnR) => (0 ≤ a13 ∧ a13 ≤ a14 ∧ a14 ≤ 100000000 → v = (looV a13 (gripV a0 a1 a2 a3 a5), looV a14 (gripV a0 a1 a2 a4 a6), 0)) ∧ (¬ (0 ≤ a13 ∧ a13 ≤ a14 ∧ a14 ≤ 100000000) → v = (0, 0, 3))) (fun _ => 0) (fun _ => rfl) (fun a => nomatch a) (by
    obtain ⟨c1, c2, _⟩ := abc_val a0 a1 a2 a3 a4 a5 a6 a7 a8 a9 a10 a11 a12
    obtain ⟨g1, g2, g3⟩ := grip_eqs h
    show DD.sat _ _ (abnD0 a0 a1 a2 a3 a4 a5 a6 a7 a8 a9 a10 a11 a12 a13 a14)
    unfold abnD0
    rw [c1, c2 h, g1, g2, arMx, arMx]
    generalize gripV a0 a1 a2 a3 a5 = gl at *
    generalize gripV a0 a1 a2 a4 a6 = gh at *
    by_cases hl : 0 ≤ a13 ∧ a13 ≤ a14 ∧ a14 ≤ 100000000
    · have m1 := mul_rng (a := a13) (b := max gl 0) (A := 100000000) (B := 200000000) (by omega) (by omega)
      have m2 := mul_rng (a := a14) (b := max gh 0) (A := 100000000) (B := 200000000) (by omega) (by omega)
      have n1 : looV a13 gl = (a13 * max gl 0 + 999) / 1000 := by
        unfold looV
        by_cases hg : 0 ≤ gl
        · rw [show max gl 0 = gl by omega] at m1 ⊢; omega
        · rw [show max gl 0 = 0 by omega] at m1 ⊢; have := Int.mul_nonpos_of_nonneg_of_nonpos hl.1 (show gl ≤ 0 by omega); omega
      have n2 : looV a14 gh = (a14 * max gh 0 + 999) / 1000 := by
        unfold looV
        by_cases hg : 0 ≤ gh
        · rw [show max gh 0 = gh by omega] at m2 ⊢; omega
        · rw [show max gh 0 = 0 by omega] at m2 ⊢; have := Int.mul_nonpos_of_nonneg_of_nonpos (show 0 ≤ a14 by omega) (show gh ≤ 0 by omega); omega
      rw [n1, n2, arMul (a := a13) (b := max gl 0) (by omega), arMul (a := a14) (b := max gh 0) (by omega)]
      obtain ⟨u1, u2, u3⟩ := up_eq (x := a13 * max gl 0) (by omega)
      obtain ⟨v1, v2, v3⟩ := up_eq (x := a14 * max gh 0) (by omega)
      rw [u1, u2, u3, v1, v2, v3]
      generalize a13 * max gl 0 = x at *
      generalize a14 * max gh 0 = y at *
      clear g1 g2 c1 c2 u1 u2 u3 v1 v2 v3 n1 n2
      simp only [DD.sat, cmLss, cmLeq, cmGtr, cmGeq, cmEql, cmNeq, cmLssF, cmLeqF, cmGtrF, cmGeqF, cmEqlF, cmNeqF, Prod.mk.injEq, imp_false, ne_eq, not_true_eq_false, false_imp_iff, true_and, and_true]
      repeat' (first | (intro _) | (apply And.intro))
      all_goals first | omega | (exfalso; simp_all; done)
    · clear g1 g2 c1 c2
      simp only [DD.sat, cmLss, cmLeq, cmGtr, cmGeq, cmEql, cmNeq, cmLssF, cmLeqF, cmGtrF, cmGeqF, cmEqlF, cmNeqF, Prod.mk.injEq, imp_false, ne_eq, not_true_eq_false, false_imp_iff, true_and, and_true]
      repeat' (first | (intro _) | (apply And.intro))
      all_goals omega)
theorem abn_bad (a0 a1 a2 a3 a4 a5 a6 a7 a8 a9 a10 a11 a12 a13 a14 : Int) (h : ¬ KindP a0 a1 a2 a3 a4 a5 a6 a7 a8 a9 a10 a11 a12) : AF.fin (abnA a0 a1 a2 a3 a4 a5 a6 a7 a8 a9 a10 a11 a12 a13 a14) = true ∧ AF.val (abnA a0 a1 a2 a3 a4 a5 a6 a7 a8 a9 a10 a11 a12 a13 a14) = (0, 0, 2) :=
  AF.val_sat (Inv := fun _ => False) (E := fun (v : abnR) => v = (0, 0, 2)) (fun _ => 0) (fun _ => rfl) (fun a => nomatch a) (by
    obtain ⟨c1, _, c3⟩ := abc_val a0 a1 a2 a3 a4 a5 a6 a7 a8 a9 a10 a11 a12
    show DD.sat _ _ (abnD0 a0 a1 a2 a3 a4 a5 a6 a7 a8 a9 a10 a11 a12 a13 a14)
    unfold abnD0
    rw [c1, c3 h]
    refine ⟨rfl, fun _ => ⟨fun _ => rfl, fun h => absurd (cmNeqF.1 h) (by decide)⟩, fun h => absurd (cmNeqF.1 h) (by decide)⟩)
end Go.Proofs.Ytgnmdknbnkljbaa.Cx

/- The least torque for a force; the torques that are right. Made by tools/gen_bcon.py. -/
namespace Go.Proofs.Ytgnmdknbnkljbaa.Cx
set_option linter.unusedVariables false
set_option linter.unusedSimpArgs false
set_option maxRecDepth 100000
set_option maxHeartbeats 4000000
open Go Go.RowKit

/-- The least torque that is set. -/
def lowT (e w : Int) : Int := if 0 < e then max (e - w) 0 else 0

theorem arm_eqs {a0 a1 a2 a3 a4 a5 a6 a7 a8 a9 a10 a11 a12 : Int} (h : KindP a0 a1 a2 a3 a4 a5 a6 a7 a8 a9 a10 a11 a12) :
    Ar.run Ar.add IntKind.i64 (Ar.run Ar.add IntKind.i64 (Ar.run Ar.mul IntKind.i64 a1 a3) (Ar.run Ar.mul IntKind.i64 a2 a5)) (Ar.run Ar.mul IntKind.i64 1000 a0) = armV a0 a1 a2 a3 a5 ∧
    Ar.run Ar.add IntKind.i64 (Ar.run Ar.add IntKind.i64 (Ar.run Ar.mul IntKind.i64 a1 a4) (Ar.run Ar.mul IntKind.i64 a2 a6)) (Ar.run Ar.mul IntKind.i64 1000 a0) = armV a0 a1 a2 a4 a6 ∧
    (1000 ≤ armV a0 a1 a2 a3 a5 ∧ armV a0 a1 a2 a3 a5 ≤ armV a0 a1 a2 a4 a6 ∧ armV a0 a1 a2 a4 a6 ≤ 300000000) := by
  unfold KindP at h
  have m1 := mul_rng (a := a1) (b := a3) (A := 100000) (B := 1000) (by omega) (by omega)
  have m2 := mul_rng (a := a2) (b := a5) (A := 100000) (B := 1000) (by omega) (by omega)
  have m3 := mul_rng (a := a1) (b := a4) (A := 100000) (B := 1000) (by omega) (by omega)
  have m4 := mul_rng (a := a2) (b := a6) (A := 100000) (B := 1000) (by omega) (by omega)
  have m5 : a1 * a3 ≤ a1 * a4 := Int.mul_le_mul_of_nonneg_left (by omega) (by omega)
  have m6 : a2 * a5 ≤ a2 * a6 := Int.mul_le_mul_of_nonneg_left (by omega) (by omega)
  have x1 : Ar.run Ar.mul IntKind.i64 1000 a0 = 1000 * a0 := arMul (by omega)
  have x2 : Ar.run Ar.mul IntKind.i64 a1 a3 = a1 * a3 := arMul (by omega)
  have x3 : Ar.run Ar.mul IntKind.i64 a2 a5 = a2 * a5 := arMul (by omega)
  have x4 : Ar.run Ar.mul IntKind.i64 a1 a4 = a1 * a4 := arMul (by omega)
  have x5 : Ar.run Ar.mul IntKind.i64 a2 a6 = a2 * a6 := arMul (by omega)
  rw [x1, x2, x3, x4, x5, arAdd (a := a1 * a3) (by omega), arAdd (a := a1 * a4) (by omega), arAdd (by omega), arAdd (by omega)]
  unfold armV
  omega

theorem up_eq2 {x : Int} (h : 0 ≤ x ∧ x ≤ 900000000000000000) : Ar.run Ar.quo IntKind.i64 x 1000 = x / 1000 ∧ Ar.run Ar.rem IntKind.i64 x 1000 = x % 1000 ∧ Ar.run Ar.add IntKind.i64 (x / 1000) 1 = x / 1000 + 1 :=
  ⟨by rw [arQuo (by rw [Int.tdiv_eq_ediv_of_nonneg h.1]; omega), Int.tdiv_eq_ediv_of_nonneg h.1], by show x.tmod 1000 = _; rw [Int.tmod_eq_emod_of_nonneg h.1], arAdd (by omega)⟩

/-- Where a quotient reaches a number. -/
theorem low_iff {x d w M : Int} (hd : 1 ≤ d) (hM : 0 ≤ M) : w ≤ (1000 * M).tdiv d ↔ (w * d + 999) / 1000 ≤ M := by
  rw [Int.tdiv_eq_ediv_of_nonneg (by omega), Int.le_ediv_iff_mul_le (by omega)]
  generalize w * d = y
  omega
theorem high_iff {d w M : Int} (hd : 1 ≤ d) (hM : 0 ≤ M) : (1000 * M).tdiv d ≤ w ↔ M ≤ ((w + 1) * d + 999) / 1000 - 1 := by
  have h := low_iff (x := 0) (w := w + 1) hd hM
  omega
end Go.Proofs.Ytgnmdknbnkljbaa.Cx
