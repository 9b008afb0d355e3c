/- Contracts of package thread's functions that return a ratio: Width, Sharp, Area, Advance, PerInch, Diameter, Meets. -/
import Derived.Lib.QuietBelow
import Derived.Test.YthhceoendicboaaGreatPkWBests6

namespace Go.Proofs.YthhceoendicboaaGreat
open Go.RowKit
set_option linter.unusedSimpArgs false
set_option linter.unusedVariables false

theorem errN_bad {f : Form} (h : okB f = false) : errN f = 2 := by unfold errN; rw [h]; rfl
theorem errN_good {f : Form} (h : okB f = true) : errN f = 0 := by unfold errN; rw [h]; rfl
theorem ok_lim {f : Form} (h : okB f = true) : limB f = true := by unfold okB at h; simp at h; exact h.1.1
theorem ok_open {f : Form} (h : okB f = true) : f.a * (f.l + f.r) ≤ 500 * f.p ∧ f.b * (f.l + f.r) ≤ 500 * f.p ∧ 1 ≤ f.a + f.b := by
  have hl := lim_iff.1 (ok_lim h)
  unfold okB openB at h
  simp at h
  have h2 := h.2
  have h3 := h.1.2
  rcases Int.le_total f.a f.b with e | e
  · rw [Int.max_eq_right e] at h2
    exact ⟨Int.le_trans (Int.mul_le_mul_of_nonneg_right e (by omega)) h2, h2, h3⟩
  · rw [Int.max_eq_left e] at h2
    exact ⟨h2, Int.le_trans (Int.mul_le_mul_of_nonneg_right e (by omega)) h2, h3⟩

theorem mul_bd {x y A B : Int} (h1 : -A ≤ x) (h2 : x ≤ A) (h3 : -B ≤ y) (h4 : y ≤ B) : -(A * B) ≤ x * y ∧ x * y ≤ A * B := by
  have hx : x.natAbs ≤ A.natAbs := by omega
  have hy : y.natAbs ≤ B.natAbs := by omega
  have hm : x.natAbs * y.natAbs ≤ A.natAbs * B.natAbs := Nat.mul_le_mul hx hy
  have e1 : (x * y).natAbs = x.natAbs * y.natAbs := Int.natAbs_mul x y
  have e2 : (A * B).natAbs = A.natAbs * B.natAbs := Int.natAbs_mul A B
  have e3 : 0 ≤ A * B := Int.mul_nonneg (by omega) (by omega)
  omega

def zeroR : Value := .agg #[.int .i64 0, .int .i64 0]

end Go.Proofs.YthhceoendicboaaGreat

/- A call that keeps the world leaves one that has grown; a number within bounds. -/
namespace Go.Proofs.YthhceoendicboaaGreat
open Go.RowKit

theorem below_of_same {P : Program} {f : FuncId} {args : Array Value} {w : World} {v : Value} (h : Calls P f args w fun e w' => e = .returned v ∧ w = w') : Calls P f args w fun e w' => e = .returned v ∧ Below w.heap.size w w' :=
  h.mono fun _ _ ⟨he, hw⟩ => ⟨he, hw ▸ Below.refl _ _⟩

theorem inB_true {lo hi z : Int} (h : inB lo hi z = true) : lo ≤ z ∧ z ≤ hi := by unfold inB at h; exact of_decide_eq_true h

end Go.Proofs.YthhceoendicboaaGreat

/- Contracts of package acmeref01's numbers: In, Width, Form, Lowest. -/
namespace Go.Proofs.YthhceoendicboaaGreat
open Go.RowKit
set_option linter.unusedVariables false
set_option linter.unusedSimpArgs false

end Go.Proofs.YthhceoendicboaaGreat

/- The contract of acmeref01.Lowest: a fraction in lowest terms. Made by tools/gen_lowest.py. -/
namespace Go.Proofs.YthhceoendicboaaGreat
open Go.RowKit
set_option linter.unusedVariables false

set_option maxHeartbeats 1000000 in
theorem lowest_any (n d : Int) (w : World) (hn : -9223372036854775807 ≤ n) (hn2 : n ≤ 9223372036854775807) (hd : 1 ≤ d) (hd2 : d ≤ 9223372036854775807) :
    Calls Tryz.prog 35 #[.int .i64 n, .int .i64 d] w fun e w' => e = .returned (ratV n d) ∧ Below w.heap.size w w' := by
  have hg := gcd_pos_of n d hd
  have hgd : (Int.gcd n d : Int) ≤ d := Int.le_of_dvd (by omega) (Int.gcd_dvd_right n d)
  have hq1 : Hid (n.tdiv (Int.gcd n d) = n / Int.gcd n d) := Int.tdiv_eq_ediv_of_dvd (Int.gcd_dvd_left n d)
  obtain ⟨d', hdd⟩ := Int.eq_ofNat_of_zero_le (by omega : 0 ≤ d)
  obtain ⟨m, hm⟩ : ∃ m : Nat, m = n.natAbs := ⟨_, rfl⟩
  have hG : Hid (Nat.gcd m d' = Int.gcd n d) := by rw [hm, hdd]; rfl
  have hm2 : (m : Int) ≤ 9223372036854775807 := by omega
  have hd3 : (d' : Int) ≤ 9223372036854775807 := by omega
  have hDD := Lib.hid hdd
  clear hdd
  have hcase : n < 0 ∨ 0 ≤ n := by omega
  rcases hcase with h | h
  · have hM : Hid (-n = m) := (by omega : -n = (m : Int))
    clear hm
    go_enter Tryz.func35, Tryz.ntmps35
    go_wp2
    go_loopw [5, 6] (fun x y wr => ∃ p q : Nat, x = .int .i64 p ∧ y = .int .i64 q ∧ Hid (Nat.gcd p q = Int.gcd n d) ∧ (q : Int) ≤ 9223372036854775807 ∧ (p : Int) ≤ 9223372036854775807 ∧ Hid (Box wr w.heap.size #[.int .i64 0, .int .i64 0] ∧ Below w.heap.size w wr)) (fun x _ _ => (intOf x).toNat)
    case atStart =>
      exact ⟨m, d', by rw [hM.out], by rw [hDD.out], hG, hd3, hm2, Lib.hid ⟨Box.new w _ _, by go_grown⟩⟩
    case round =>
      obtain ⟨p, q, rfl, rfl, hgc, hq, hp, hw⟩ := hrel
      by_cases hp0 : p = 0
      · subst hp0
        have hqg : (Int.gcd n d : Int) = q := by have := hgc.out; rw [Nat.gcd_zero_left] at this; exact congrArg Nat.cast this.symm
        have HV : Hid (ratV n d = .agg #[.int .i64 (n / q), .int .i64 (d / q)]) := by
          show ratV n d = _
          unfold ratV
          rw [hqg]
        rw [hqg] at hg hgd hq1
        have HQ := hq1
        clear hgc hqg hq1 hG
        obtain ⟨hbx, hbel⟩ := hw.out
        have c1 := hbx.2.1
        have f1 := hbx.2.2
        have l1 := hbx.1
        generalize (q : Int) = g at *
        clear hw hbx
        go_wp2
        go_region
        go_wp2
        refine bodyPost_ret (v := .agg #[.int .i64 (n.tdiv g), .int .i64 (d / g)]) (by simp [results, Tryz.results35, go_sem, c1]) rfl ?_
        exact ⟨by rw [HV.out, ← HQ.out], by go_grown⟩
      · have hp1 : (1 : Int) ≤ p := by omega
        have hg' : Hid (Nat.gcd (q % p) p = Int.gcd n d) := by
          have := hgc.out
          rw [← Nat.gcd_rec]
          exact this
        clear hgc
        go_wp2
        go_roundw
        case rel => exact ⟨q % p, p, by first | rfl | simp, rfl, hg', hp, by have := Nat.mod_lt q (by omega : 0 < p); omega, hw⟩
        case measure =>
          have := Nat.mod_lt q (by omega : 0 < p)
          simp [intOf]; omega
  · have hM : Hid (n = m) := (by omega : n = (m : Int))
    clear hm
    go_enter Tryz.func35, Tryz.ntmps35
    go_wp2
    go_loopw [5, 6] (fun x y wr => ∃ p q : Nat, x = .int .i64 p ∧ y = .int .i64 q ∧ Hid (Nat.gcd p q = Int.gcd n d) ∧ (q : Int) ≤ 9223372036854775807 ∧ (p : Int) ≤ 9223372036854775807 ∧ Hid (Box wr w.heap.size #[.int .i64 0, .int .i64 0] ∧ Below w.heap.size w wr)) (fun x _ _ => (intOf x).toNat)
    case atStart =>
      exact ⟨m, d', by rw [hM.out], by rw [hDD.out], hG, hd3, hm2, Lib.hid ⟨Box.new w _ _, by go_grown⟩⟩
    case round =>
      obtain ⟨p, q, rfl, rfl, hgc, hq, hp, hw⟩ := hrel
      by_cases hp0 : p = 0
      · subst hp0
        have hqg : (Int.gcd n d : Int) = q := by have := hgc.out; rw [Nat.gcd_zero_left] at this; exact congrArg Nat.cast this.symm
        have HV : Hid (ratV n d = .agg #[.int .i64 (n / q), .int .i64 (d / q)]) := by
          show ratV n d = _
          unfold ratV
          rw [hqg]
        rw [hqg] at hg hgd hq1
        have HQ := hq1
        clear hgc hqg hq1 hG
        obtain ⟨hbx, hbel⟩ := hw.out
        have c1 := hbx.2.1
        have f1 := hbx.2.2
        have l1 := hbx.1
        generalize (q : Int) = g at *
        clear hw hbx
        go_wp2
        go_region
        go_wp2
        refine bodyPost_ret (v := .agg #[.int .i64 (n / g), .int .i64 (d / g)]) (by simp [results, Tryz.results35, go_sem, c1]) rfl ?_
        exact ⟨by rw [HV.out], by go_grown⟩
      · have hp1 : (1 : Int) ≤ p := by omega
        have hg' : Hid (Nat.gcd (q % p) p = Int.gcd n d) := by
          have := hgc.out
          rw [← Nat.gcd_rec]
          exact this
        clear hgc
        go_wp2
        go_roundw
        case rel => exact ⟨q % p, p, by first | rfl | simp, rfl, hg', hp, by have := Nat.mod_lt q (by omega : 0 < p); omega, hw⟩
        case measure =>
          have := Nat.mod_lt q (by omega : 0 < p)
          simp [intOf]; omega
end Go.Proofs.YthhceoendicboaaGreat

/- A call that is known: acmeref01.Lowest. -/
namespace Go.Proofs.YthhceoendicboaaGreat.Cx
open Go Go.RowKit

theorem lowest_known : KnownR Tryz.prog 35 :=
  ⟨⟨_, Tryz.func35, rfl⟩, fun n d w h1 h2 h3 h4 => lowest_any n d w h1 h2 h3 h4⟩

end Go.Proofs.YthhceoendicboaaGreat.Cx

/- acme/acmeref01.Lowest as a known call with one result: a synthetic automaton over its contract. -/
namespace Go.Proofs.YthhceoendicboaaGreat.Cx
set_option linter.unusedVariables false
set_option linter.unusedSimpArgs false
set_option maxRecDepth 100000
open Go Go.Proofs Go.RowKit

abbrev llzN := Empty
abbrev llzR := Int × Int

def llzOk (a0 a1 : Int) : Bool := decide ((-9223372036854775807 ≤ a0 ∧ a0 ≤ 9223372036854775807) ∧ 1 ≤ a1 ∧ a1 ≤ 9223372036854775807)
noncomputable def llzD0 (a0 a1 : Int) : DD (Lf llzN llzR) := .must (llzOk a0 a1) (.leaf (.done (a0 / (Int.gcd a0 a1 : Int), a1 / (Int.gcd a0 a1 : Int)) []))

noncomputable def llzA (a0 : Int) (a1 : Int) : AF llzN llzR where
  code := .ret
  base := 0
  nt := 0
  m := 0
  un := []
  W := []
  h0 := []
  args := [.int .i64 (.x a0), .int .i64 (.x a1)]
  res := []
  path := fun a => a.elim
  pd := fun a => a.elim
  D0 := llzD0 a0 a1
  D := fun a => a.elim
  rc := (fun v => .agg [.int .i64 (.x (Prod.fst v)), .int .i64 (.x (Prod.snd v))])
  rh := (fun v => [])
  rn := (fun v => 0)
  rx := (fun v => [])
  rgo := (fun _ => none)

theorem llz_val {a0 a1 : Int} (h : (-9223372036854775807 ≤ a0 ∧ a0 ≤ 9223372036854775807) ∧ 1 ≤ a1 ∧ a1 ≤ 9223372036854775807) : AF.fin (llzA a0 a1) = true ∧ AF.val (llzA a0 a1) = (a0 / (Int.gcd a0 a1 : Int), a1 / (Int.gcd a0 a1 : Int)) := by
  have hD : (llzA a0 a1).D0.eval = some (.done (a0 / (Int.gcd a0 a1 : Int), a1 / (Int.gcd a0 a1 : Int)) []) := by
    show (llzD0 a0 a1).eval = _
    unfold llzD0
    rw [show llzOk a0 a1 = true from decide_eq_true h]
    rfl
  have hr : (llzA a0 a1).run 0 = some (a0 / (Int.gcd a0 a1 : Int), a1 / (Int.gcd a0 a1 : Int)) := by
    simp only [AF.run, hD]
  exact AF.val_of (AF.mono_none fun _ => rfl) hr

abbrev llzP : List AP := [.int .i64, .int .i64]
noncomputable def llzF (v : AV) : AF llzN llzR := llzA (v.i.getD 0 0) (v.i.getD 1 0)

theorem llz_ctr {ρ : Env} (a0 a1 : Int) {n : Nat} {r : llzR} (h : (llzA a0 a1).run n = some r) : Ctr Tryz.prog ρ 35 (llzA a0 a1).args .nil 0 [] ((llzA a0 a1).rc r) .nil 0 := by
  have hD : (llzA a0 a1).D0 = llzD0 a0 a1 := rfl
  cases hk : llzOk a0 a1 with
  | false => simp [AF.run, hD, llzD0, hk, DD.eval] at h
  | true =>
    simp [AF.run, hD, llzD0, hk, DD.eval] at h
    subst h
    obtain ⟨⟨q1, q2⟩, q3, q4⟩ := of_decide_eq_true hk
    refine ⟨lowest_known.fn, ?_⟩
    intro m σ w args' hargs hH hN
    obtain ⟨u, v, e0, hu, hv⟩ : ∃ u v, args' = #[u, v] ∧ VR ρ σ (.int .i64 (.x a0)) u ∧ VR ρ σ (.int .i64 (.x a1)) v := by
      obtain ⟨l⟩ := args'
      cases hargs with
      | cons hu hr => cases hr with
        | cons hv hr => cases hr; exact ⟨_, _, rfl, hu, hv⟩
    subst e0
    obtain rfl := hu.int_inv
    obtain rfl := hv.int_inv
    have hrun := (callsIn_wide (n := m)).2 (lowest_known.run a0 a1 w q1 q2 q3 q4)
    refine CallsIn.mono (F := fc none) hrun ?_
    rintro e w' ⟨rfl, hB⟩
    refine ⟨_, rfl, σ, Ext.refl _ _ _, .agg (.cons (.int .i64 (.x _)) (.cons (.int .i64 (.x _)) .nil)), ?_, .below hB, Fresh.none _ _ _ _ _ _⟩
    show HR ρ σ (upd (curOf .nil 0) 0 0 .nil []) w'
    rw [upd_none]
    exact hH.below hB

theorem llzknown {ρ : Env} : KnownA Tryz.prog ρ 35 llzP llzF where
  fn := lowest_known.fn
  args := fun v => rfl
  plain := fun v r => rfl
  ctr := fun v n r h => llz_ctr _ _ h
end Go.Proofs.YthhceoendicboaaGreat.Cx

/- acme/acmeref05.Lowest as an automaton. Made by tools/cxauto.py. -/
namespace Go.Proofs.YthhceoendicboaaGreat.Cx
set_option linter.unusedVariables false
set_option linter.unusedSimpArgs false
set_option maxRecDepth 100000
open Go Go.Proofs Go.RowKit

noncomputable abbrev rloCode : Code := funcCode Tryz.f11


abbrev rloN := Empty

abbrev rloR := Int × Int

noncomputable def rloD0 (a0 : Int) (a1 : Int) : DD (Lf rloN rloR) :=
 .must (AF.fin (llzA a0 a1))
   (.leaf (.done (Prod.fst (AF.val (llzA a0 a1)), Prod.snd (AF.val (llzA a0 a1))) []))

noncomputable def rloD (a0 : Int) (a1 : Int) : rloN → DD (Lf rloN rloR) := fun a => nomatch a

noncomputable def rloA (a0 : Int) (a1 : Int) : AF rloN rloR where
  code := rloCode
  base := 0
  nt := 8
  m := 400
  un := []
  W := []
  h0 := []
  args := [.int .i64 (.x a0), .int .i64 (.x a1)]
  res := (Tryz.f11).results.toList
  path := fun a => nomatch a
  pd := fun a => nomatch a
  D0 := rloD0 a0 a1
  D := rloD a0 a1
  rc := (fun v => .agg [.int .i64 (.x v.1), .int .i64 (.x v.2)])
  rh := (fun v => [])
  rn := (fun v => 0)
  rx := (fun v => [])
  rgo := (fun _ => none)


theorem rlostart (a0 : Int) (a1 : Int) : AF.edgeOk (rloA a0 a1) (ctxOf Tryz.prog memo0) (rloD0 a0 a1) (AF.run0 (rloA a0 a1) (ctxOf Tryz.prog (memoA 35 llzP llzF memo0))) := by unfold AF.edgeOk; kernel_rfl

theorem rlook (a0 : Int) (a1 : Int) : (rloA a0 a1).Ok Tryz.prog (ctxOf Tryz.prog (memoA 35 llzP llzF memo0)) where
  regs := by kernel_rfl
  h0 := by kernel_rfl
  start := rlostart a0 a1
  node := fun a _ => nomatch a
  pd := fun a => nomatch a
  le := fun a => nomatch a
  rd := fun v => ⟨⟨fa_nil, fa_nil, fa_nil, rfl⟩, rfl⟩
  wb := rfl


theorem rlohR {ρ : Env} (a0 : Int) (a1 : Int) (hM : MemoOk Tryz.prog (ctxOf Tryz.prog (memoA 35 llzP llzF memo0)) ρ) : ∀ X a q n D, FxOk ρ X → X.base = (rloA a0 a1).base → X.nt = (rloA a0 a1).nt → X.W = (rloA a0 a1).W → (rloA a0 a1).rgo a = some q → q n = some D → (rloA a0 a1).RangeOk Tryz.prog ρ X a D := AF.noRange rfl

theorem rloctr {ρ : Env} (a0 : Int) (a1 : Int) {n : Nat} {v : rloR} (hM : MemoOk Tryz.prog (ctxOf Tryz.prog (memoA 35 llzP llzF memo0)) ρ) (hv : (rloA a0 a1).run n = some v) :
    Ctr Tryz.prog ρ 11 (rloA a0 a1).args (rloA a0 a1).H0 (rloA a0 a1).base (rloA a0 a1).W ((rloA a0 a1).rc v) (putH (rloA a0 a1).H0 ((rloA a0 a1).rh v ++ (rloA a0 a1).rx v)) ((rloA a0 a1).rn v) :=
  AF.ctr try_ok hM (rlook a0 a1) (fn := Tryz.f11) Tryz.func11 rfl rfl (Nat.le_of_ble_eq_true rfl) rfl (rlohR a0 a1 hM) hv


theorem rlomem {ρ : Env} : MemoOk Tryz.prog (ctxOf Tryz.prog (memoA 35 llzP llzF memo0)) ρ := (memoA_ok llzknown memo0_ok)


abbrev rloP : List AP := [.int .i64, .int .i64]
noncomputable def rloF (v : AV) : AF rloN rloR := rloA (v.i.getD 0 0) (v.i.getD 1 0)
theorem rloknown {ρ : Env} (hM : MemoOk Tryz.prog (ctxOf Tryz.prog (memoA 35 llzP llzF memo0)) ρ) : KnownA Tryz.prog ρ 11 rloP rloF where
  fn := ⟨Tryz.f11, Tryz.func11, rfl⟩
  args := fun v => rfl
  plain := fun v r => rfl
  ctr := fun v n r h => rloctr (v.i.getD 0 0) (v.i.getD 1 0) hM h

end Go.Proofs.YthhceoendicboaaGreat.Cx

/- acme/acmelaw05.known returns true, in every world: by the evaluator. Made by tools/cxlaw.py. -/
namespace Go.Proofs.YthhceoendicboaaGreat.Cx
set_option maxRecDepth 100000
open Go Go.Proofs Go.RowKit
noncomputable def CxKn05C : Ctx := ctxOf Tryz.prog memo0
theorem CxKn05_run : isTrue (eval CxKn05C 1000 0 (.call 5 []) .empty) = true := by kernel_rfl
theorem CxKn05_known : KnownB Tryz.prog 5 := known_of try_ok memo0_ok (by kernel_rfl) CxKn05_run
end Go.Proofs.YthhceoendicboaaGreat.Cx

/- acme/acmelaw05.WiresChecks as an automaton. Made by tools/cxauto.py. -/
namespace Go.Proofs.YthhceoendicboaaGreat.Cx
set_option linter.unusedVariables false
set_option linter.unusedSimpArgs false
set_option maxRecDepth 100000
open Go Go.Proofs Go.RowKit

noncomputable abbrev wlcCode : Code := funcCode Tryz.f3


inductive wlcN where
  | n0 (p0 : Int) (p1 : Int) (p2 : Int) (p3 : Int) (p4 : Int) (p5 : Int) (p6 : Int)

abbrev wlcR := Bool

noncomputable def wlcD0 (a0 : Nat) (a1 : Nat → Int) (a2 : Nat → Int) (a3 : Int) (a4 : Int) (a5 : Int) (a6 : Int) (a7 : Int) (a8 : Int) (a9 : Int) (a10 : Int) (a11 : Int) (a12 : Int) (a13 : Int) (a14 : Int) (a15 : Int) (a16 : Int) (a17 : Int) (a18 : Int) (a19 : Int) (a20 : Int) (a21 : Int) (a22 : Int) : DD (Lf wlcN wlcR) :=
 .ask (Cm.run Cm.gtr ((↑a0 : Int)) 25)
   (.leaf (.done true []))
   (.must (decide (0 + a0 ≤ a0))
   (.must (decide (a0 ≤ 10000))
   (.must (decide (0 + a0 ≤ a0))
   (.must (ShapeOk [some IntKind.i64, some IntKind.i64] (tabOf a0 fun i => [CV.int IntKind.i64 (IE.x (a1 (0 + (0 + i)))), CV.int IntKind.i64 (IE.x (a2 (0 + (0 + i))))]) fun i => [CV.int IntKind.i64 (IE.x (a1 (0 + (0 + i)))), CV.int IntKind.i64 (IE.x (a2 (0 + (0 + i))))])
   (.must (decide (a0 ≤ a0))
   (.must (AF.fin (wchA a0 (fun i => a1 (0 + (0 + i))) (fun i => a2 (0 + (0 + i))) a3 a4 a5 a6 a7 a8 1 (fun i => List.getD [a9] i 0) (fun i => List.getD [a10] i 0) (fun i => List.getD [a11] i 0) (fun i => List.getD [a12] i 0) (fun i => List.getD [a13] i 0) fun i => List.getD [a14] i 0))
   (.must (decide (0 + a0 ≤ a0))
   (.must (ShapeOk [some IntKind.i64, some IntKind.i64] (tabOf a0 fun i => [CV.int IntKind.i64 (IE.x (a1 (0 + (0 + i)))), CV.int IntKind.i64 (IE.x (a2 (0 + (0 + i))))]) fun i => [CV.int IntKind.i64 (IE.x (a1 (0 + (0 + i)))), CV.int IntKind.i64 (IE.x (a2 (0 + (0 + i))))])
   (.must (decide (a0 ≤ a0))
   (.must (AF.fin (wshA a0 (fun i => a1 (0 + (0 + i))) (fun i => a2 (0 + (0 + i))) a3 a4 a5 a6 a7 a8 a9 a10 a11 a12 a13 a14 a15 a16 a17 a18 a19 a20 a21 a22))
   (.must (decide (0 + a0 ≤ a0))
   (.must (ShapeOk [some IntKind.i64, some IntKind.i64] (tabOf a0 fun i => [CV.int IntKind.i64 (IE.x (a1 (0 + (0 + i)))), CV.int IntKind.i64 (IE.x (a2 (0 + (0 + i))))]) fun i => [CV.int IntKind.i64 (IE.x (a1 (0 + (0 + i)))), CV.int IntKind.i64 (IE.x (a2 (0 + (0 + i))))])
   (.must (decide (a0 ≤ a0))
   (.must (AF.fin (wwiA a0 (fun i => a1 (0 + (0 + i))) (fun i => a2 (0 + (0 + i))) a3 a4 a5 a6 a7 a8 a9 a10 a11 a12 a13 a14))
   (.leaf (.next (.n0 (AF.val (wchA a0 (fun i => a1 (0 + (0 + i))) (fun i => a2 (0 + (0 + i))) a3 a4 a5 a6 a7 a8 1 (fun i => List.getD [a9] i 0) (fun i => List.getD [a10] i 0) (fun i => List.getD [a11] i 0) (fun i => List.getD [a12] i 0) (fun i => List.getD [a13] i 0) fun i => List.getD [a14] i 0)) (Prod.fst (AF.val (wshA a0 (fun i => a1 (0 + (0 + i))) (fun i => a2 (0 + (0 + i))) a3 a4 a5 a6 a7 a8 a9 a10 a11 a12 a13 a14 a15 a16 a17 a18 a19 a20 a21 a22))) (Prod.snd (AF.val (wshA a0 (fun i => a1 (0 + (0 + i))) (fun i => a2 (0 + (0 + i))) a3 a4 a5 a6 a7 a8 a9 a10 a11 a12 a13 a14 a15 a16 a17 a18 a19 a20 a21 a22))) (Prod.snd (Prod.snd (AF.val (wwiA a0 (fun i => a1 (0 + (0 + i))) (fun i => a2 (0 + (0 + i))) a3 a4 a5 a6 a7 a8 a9 a10 a11 a12 a13 a14)))) 0 (Prod.fst (AF.val (wwiA a0 (fun i => a1 (0 + (0 + i))) (fun i => a2 (0 + (0 + i))) a3 a4 a5 a6 a7 a8 a9 a10 a11 a12 a13 a14))) (Prod.fst (Prod.snd (AF.val (wwiA a0 (fun i => a1 (0 + (0 + i))) (fun i => a2 (0 + (0 + i))) a3 a4 a5 a6 a7 a8 a9 a10 a11 a12 a13 a14))))) [1, 2, 3, 8, 10, 7]))))))))))))))))

noncomputable def wlcD (a0 : Nat) (a1 : Nat → Int) (a2 : Nat → Int) (a3 : Int) (a4 : Int) (a5 : Int) (a6 : Int) (a7 : Int) (a8 : Int) (a9 : Int) (a10 : Int) (a11 : Int) (a12 : Int) (a13 : Int) (a14 : Int) (a15 : Int) (a16 : Int) (a17 : Int) (a18 : Int) (a19 : Int) (a20 : Int) (a21 : Int) (a22 : Int) : wlcN → DD (Lf wlcN wlcR)
 | .n0 p0 p1 p2 p3 p4 p5 p6 =>
 .ask (Cm.run Cm.lss p4 (↑a0 : Int))
   (.must (decide (0 ≤ p4))
   (.must (decide (p4 < (↑a0 : Int)))
   (.must (decide (0 + Int.toNat p4 < a0))
   (.must (decide (0 ≤ p4))
   (.must (decide (p4 < (↑a0 : Int)))
   (.must (decide (0 + Int.toNat p4 < a0))
   (.ask (Cm.run Cm.eql (a1 (0 + (0 + Int.toNat p4))) (a1 (0 + Int.toNat p4)))
   (.ask (Cm.run Cm.eql (a2 (0 + (0 + Int.toNat p4))) (a2 (0 + Int.toNat p4)))
   (.leaf (.next (.n0 p0 p1 p2 p3 (Ar.run Ar.add IntKind.i64 p4 1) p5 p6) [1, 2, 3, 4, 5, 6]))
   (.leaf (.done false [])))
   (.leaf (.done false [])))))))))
   (.must (decide (0 + a0 ≤ a0))
   (.must (ShapeOk [some IntKind.i64, some IntKind.i64] (tabOf a0 fun i => [CV.int IntKind.i64 (IE.x (a1 (0 + i))), CV.int IntKind.i64 (IE.x (a2 (0 + i)))]) fun i => [CV.int IntKind.i64 (IE.x (a1 (0 + i))), CV.int IntKind.i64 (IE.x (a2 (0 + i)))])
   (.must (AF.fin (rchA a0 (fun i => a1 (0 + i)) (fun i => a2 (0 + i)) a3 a4 a5 a6 a7 a8 1 (fun i => List.getD [a9] i 0) (fun i => List.getD [a10] i 0) (fun i => List.getD [a11] i 0) (fun i => List.getD [a12] i 0) (fun i => List.getD [a13] i 0) fun i => List.getD [a14] i 0))
   (.ask (Cm.run Cm.neq (AF.val (rchA a0 (fun i => a1 (0 + i)) (fun i => a2 (0 + i)) a3 a4 a5 a6 a7 a8 1 (fun i => List.getD [a9] i 0) (fun i => List.getD [a10] i 0) (fun i => List.getD [a11] i 0) (fun i => List.getD [a12] i 0) (fun i => List.getD [a13] i 0) fun i => List.getD [a14] i 0)) 0)
   (.ask (Cm.run Cm.eql p0 (AF.val (rchA a0 (fun i => a1 (0 + i)) (fun i => a2 (0 + i)) a3 a4 a5 a6 a7 a8 1 (fun i => List.getD [a9] i 0) (fun i => List.getD [a10] i 0) (fun i => List.getD [a11] i 0) (fun i => List.getD [a12] i 0) (fun i => List.getD [a13] i 0) fun i => List.getD [a14] i 0)))
   (.ask (Cm.run Cm.eql p2 (AF.val (rchA a0 (fun i => a1 (0 + i)) (fun i => a2 (0 + i)) a3 a4 a5 a6 a7 a8 1 (fun i => List.getD [a9] i 0) (fun i => List.getD [a10] i 0) (fun i => List.getD [a11] i 0) (fun i => List.getD [a12] i 0) (fun i => List.getD [a13] i 0) fun i => List.getD [a14] i 0)))
   (.ask (Cm.run Cm.eql p3 (AF.val (rchA a0 (fun i => a1 (0 + i)) (fun i => a2 (0 + i)) a3 a4 a5 a6 a7 a8 1 (fun i => List.getD [a9] i 0) (fun i => List.getD [a10] i 0) (fun i => List.getD [a11] i 0) (fun i => List.getD [a12] i 0) (fun i => List.getD [a13] i 0) fun i => List.getD [a14] i 0)))
   (.ask (Cm.run Cm.eql p1 0)
   (.ask (Cm.run Cm.eql p5 0)
   (.ask (Cm.run Cm.eql p6 0)
   (.leaf (.done true []))
   (.leaf (.done false [])))
   (.leaf (.done false [])))
   (.leaf (.done false [])))
   (.leaf (.done false [])))
   (.leaf (.done false [])))
   (.leaf (.done false [])))
   (.ask (Cm.run Cm.neq p0 0)
   (.leaf (.done false []))
   (.ask (Cm.run Cm.neq p3 0)
   (.leaf (.done false []))
   (.must (decide (0 + a0 ≤ a0))
   (.must (ShapeOk [some IntKind.i64, some IntKind.i64] (tabOf a0 fun i => [CV.int IntKind.i64 (IE.x (a1 (0 + i))), CV.int IntKind.i64 (IE.x (a2 (0 + i)))]) fun i => [CV.int IntKind.i64 (IE.x (a1 (0 + i))), CV.int IntKind.i64 (IE.x (a2 (0 + i)))])
   (.must (AF.fin (rwiA a0 (fun i => a1 (0 + i)) (fun i => a2 (0 + i)) a3 a4 a5 a6 a7 a8 a9 a10 a11 a12 a13 a14))
   (.must (AF.fin (rloA (AF.val (rwiA a0 (fun i => a1 (0 + i)) (fun i => a2 (0 + i)) a3 a4 a5 a6 a7 a8 a9 a10 a11 a12 a13 a14)) 4000))
   (.ask (Cm.run Cm.eql p5 (Prod.fst (AF.val (rloA (AF.val (rwiA a0 (fun i => a1 (0 + i)) (fun i => a2 (0 + i)) a3 a4 a5 a6 a7 a8 a9 a10 a11 a12 a13 a14)) 4000))))
   (.ask (Cm.run Cm.eql p6 (Prod.snd (AF.val (rloA (AF.val (rwiA a0 (fun i => a1 (0 + i)) (fun i => a2 (0 + i)) a3 a4 a5 a6 a7 a8 a9 a10 a11 a12 a13 a14)) 4000))))
   (.must (decide (0 + a0 ≤ a0))
   (.must (ShapeOk [some IntKind.i64, some IntKind.i64] (tabOf a0 fun i => [CV.int IntKind.i64 (IE.x (a1 (0 + i))), CV.int IntKind.i64 (IE.x (a2 (0 + i)))]) fun i => [CV.int IntKind.i64 (IE.x (a1 (0 + i))), CV.int IntKind.i64 (IE.x (a2 (0 + i)))])
   (.must (AF.fin (rofA a0 (fun i => a1 (0 + i)) (fun i => a2 (0 + i)) a3 a4 a5 a6 a7 a8 a9 a10 a11 a12 a13 a14 a15 a16 a17 a18 a19 a20 a21 a22))
   (.ask (!AF.val (rofA a0 (fun i => a1 (0 + i)) (fun i => a2 (0 + i)) a3 a4 a5 a6 a7 a8 a9 a10 a11 a12 a13 a14 a15 a16 a17 a18 a19 a20 a21 a22))
   (.ask (Cm.run Cm.eql p2 2)
   (.ask (Cm.run Cm.eql p1 0)
   (.leaf (.done true []))
   (.leaf (.done false [])))
   (.leaf (.done false [])))
   (.ask (Cm.run Cm.eql p2 0)
   (.must (decide (0 + a0 ≤ a0))
   (.must (ShapeOk [some IntKind.i64, some IntKind.i64] (tabOf a0 fun i => [CV.int IntKind.i64 (IE.x (a1 (0 + i))), CV.int IntKind.i64 (IE.x (a2 (0 + i)))]) fun i => [CV.int IntKind.i64 (IE.x (a1 (0 + i))), CV.int IntKind.i64 (IE.x (a2 (0 + i)))])
   (.must (AF.fin (rshA a0 (fun i => a1 (0 + i)) (fun i => a2 (0 + i)) a3 a4 a5 a6 a7 a8 a15 a16 a17 a18 a19 a20 a21 a22))
   (.ask (Cm.run Cm.eql p1 (AF.val (rshA a0 (fun i => a1 (0 + i)) (fun i => a2 (0 + i)) a3 a4 a5 a6 a7 a8 a15 a16 a17 a18 a19 a20 a21 a22)))
   (.leaf (.done true []))
   (.leaf (.done false []))))))
   (.leaf (.done false [])))))))
   (.leaf (.done false [])))
   (.leaf (.done false [])))))))))))))

noncomputable def wlcA (a0 : Nat) (a1 : Nat → Int) (a2 : Nat → Int) (a3 : Int) (a4 : Int) (a5 : Int) (a6 : Int) (a7 : Int) (a8 : Int) (a9 : Int) (a10 : Int) (a11 : Int) (a12 : Int) (a13 : Int) (a14 : Int) (a15 : Int) (a16 : Int) (a17 : Int) (a18 : Int) (a19 : Int) (a20 : Int) (a21 : Int) (a22 : Int) : AF wlcN wlcR where
  code := wlcCode
  base := 1
  nt := 128
  m := 400
  un := []
  W := []
  h0 := [(0, ⟨.arg a0 2 (fun i => [.int .i64 (.x (a1 i)), .int .i64 (.x (a2 i))]) (fun _ => ⟨rfl, rfl⟩), 2, true, none⟩)]
  args := [.agg [.sla 0 2 0 a0, .int .i64 (.x a3), .int .i64 (.x a4), .int .i64 (.x a5), .int .i64 (.x a6), .int .i64 (.x a7), .int .i64 (.x a8)], .agg [.int .i64 (.x a9), .int .i64 (.x a10), .int .i64 (.x a11), .int .i64 (.x a12), .int .i64 (.x a13), .int .i64 (.x a14)], .agg [.int .i64 (.x a15), .int .i64 (.x a16), .int .i64 (.x a17), .int .i64 (.x a18), .int .i64 (.x a19), .int .i64 (.x a20), .int .i64 (.x a21), .int .i64 (.x a22)]]
  res := (Tryz.f3).results.toList
  path := fun a => match a with
   | .n0 p0 p1 p2 p3 p4 p5 p6 => [1, 1, 1, 1, 1, 1, 0, 1, 0]
  pd := fun a => match a with
   | .n0 p0 p1 p2 p3 p4 p5 p6 => ⟨[(3, .ptr (some (1, 0))), (4, .ptr (some (2, 0))), (5, .ptr (some (3, 0))), (7, .ptr (some (4, 0))), (8, .int .i64 (.x p0)), (9, .int .i64 (.x p1)), (10, .int .i64 (.x p2)), (11, .ptr (some (5, 0))), (12, .int .i64 (.x p3)), (13, .int .i64 (.x p4))], [(1, ⟨.lit [.sla 0 2 0 a0, .int .i64 (.x a3), .int .i64 (.x a4), .int .i64 (.x a5), .int .i64 (.x a6), .int .i64 (.x a7), .int .i64 (.x a8)], 0, true, none⟩), (2, ⟨.lit [.int .i64 (.x a9), .int .i64 (.x a10), .int .i64 (.x a11), .int .i64 (.x a12), .int .i64 (.x a13), .int .i64 (.x a14)], 0, true, none⟩), (3, ⟨.lit [.int .i64 (.x a15), .int .i64 (.x a16), .int .i64 (.x a17), .int .i64 (.x a18), .int .i64 (.x a19), .int .i64 (.x a20), .int .i64 (.x a21), .int .i64 (.x a22)], 0, true, none⟩), (4, ⟨.lit [.slx 6 2 0 a0 a0, .int .i64 (.x a3), .int .i64 (.x a4), .int .i64 (.x a5), .int .i64 (.x a6), .int .i64 (.x a7), .int .i64 (.x a8)], 0, true, none⟩), (5, ⟨.lit [.int .i64 (.x p5), .int .i64 (.x p6)], 0, true, none⟩), (6, ⟨.rows a0 2 (fun i => [.int .i64 (.x (a1 (0 + i))), .int .i64 (.x (a2 (0 + i)))]) (fun _ => ⟨rfl, rfl⟩), 2, true, none⟩)], 7, []⟩
  D0 := wlcD0 a0 a1 a2 a3 a4 a5 a6 a7 a8 a9 a10 a11 a12 a13 a14 a15 a16 a17 a18 a19 a20 a21 a22
  D := wlcD a0 a1 a2 a3 a4 a5 a6 a7 a8 a9 a10 a11 a12 a13 a14 a15 a16 a17 a18 a19 a20 a21 a22
  rc := (fun v => .bool (.x v))
  rh := (fun v => [])
  rn := (fun v => 1)
  rx := (fun v => [])
  rgo := (fun _ => none)


theorem wlcstart (a0 : Nat) (a1 : Nat → Int) (a2 : Nat → Int) (a3 : Int) (a4 : Int) (a5 : Int) (a6 : Int) (a7 : Int) (a8 : Int) (a9 : Int) (a10 : Int) (a11 : Int) (a12 : Int) (a13 : Int) (a14 : Int) (a15 : Int) (a16 : Int) (a17 : Int) (a18 : Int) (a19 : Int) (a20 : Int) (a21 : Int) (a22 : Int) : AF.edgeOk (wlcA a0 a1 a2 a3 a4 a5 a6 a7 a8 a9 a10 a11 a12 a13 a14 a15 a16 a17 a18 a19 a20 a21 a22) (ctxOf Tryz.prog memo0) (wlcD0 a0 a1 a2 a3 a4 a5 a6 a7 a8 a9 a10 a11 a12 a13 a14 a15 a16 a17 a18 a19 a20 a21 a22) (AF.run0 (wlcA a0 a1 a2 a3 a4 a5 a6 a7 a8 a9 a10 a11 a12 a13 a14 a15 a16 a17 a18 a19 a20 a21 a22) (ctxOf Tryz.prog (memoS 14 rshP rshF rshW rshH 1 (memoS 13 rofP rofF rofW rofH 1 (memoA 11 rloP rloF (memoS 12 rwiP rwiF rwiW rwiH 1 (memoS 10 rchP rchF rchW rchH 2 (memoS 9 wwiP wwiF wwiW wwiH 1 (memoS 8 wshP wshF wshW wshH 1 (memoS 7 wchP wchF wchW wchH 2 (memoB [5]))))))))))) := by unfold AF.edgeOk; kernel_rfl

theorem wlcnode0 (a0 : Nat) (a1 : Nat → Int) (a2 : Nat → Int) (a3 : Int) (a4 : Int) (a5 : Int) (a6 : Int) (a7 : Int) (a8 : Int) (a9 : Int) (a10 : Int) (a11 : Int) (a12 : Int) (a13 : Int) (a14 : Int) (a15 : Int) (a16 : Int) (a17 : Int) (a18 : Int) (a19 : Int) (a20 : Int) (a21 : Int) (a22 : Int) (p0 : Int) (p1 : Int) (p2 : Int) (p3 : Int) (p4 : Int) (p5 : Int) (p6 : Int) : AF.edgeOk (wlcA a0 a1 a2 a3 a4 a5 a6 a7 a8 a9 a10 a11 a12 a13 a14 a15 a16 a17 a18 a19 a20 a21 a22) (ctxOf Tryz.prog memo0) (wlcD a0 a1 a2 a3 a4 a5 a6 a7 a8 a9 a10 a11 a12 a13 a14 a15 a16 a17 a18 a19 a20 a21 a22 (.n0 p0 p1 p2 p3 p4 p5 p6)) (AF.runN (wlcA a0 a1 a2 a3 a4 a5 a6 a7 a8 a9 a10 a11 a12 a13 a14 a15 a16 a17 a18 a19 a20 a21 a22) (ctxOf Tryz.prog (memoS 14 rshP rshF rshW rshH 1 (memoS 13 rofP rofF rofW rofH 1 (memoA 11 rloP rloF (memoS 12 rwiP rwiF rwiW rwiH 1 (memoS 10 rchP rchF rchW rchH 2 (memoS 9 wwiP wwiF wwiW wwiH 1 (memoS 8 wshP wshF wshW wshH 1 (memoS 7 wchP wchF wchW wchH 2 (memoB [5])))))))))) (.n0 p0 p1 p2 p3 p4 p5 p6)) := by unfold AF.edgeOk; kernel_rfl

theorem wlcok (a0 : Nat) (a1 : Nat → Int) (a2 : Nat → Int) (a3 : Int) (a4 : Int) (a5 : Int) (a6 : Int) (a7 : Int) (a8 : Int) (a9 : Int) (a10 : Int) (a11 : Int) (a12 : Int) (a13 : Int) (a14 : Int) (a15 : Int) (a16 : Int) (a17 : Int) (a18 : Int) (a19 : Int) (a20 : Int) (a21 : Int) (a22 : Int) : (wlcA a0 a1 a2 a3 a4 a5 a6 a7 a8 a9 a10 a11 a12 a13 a14 a15 a16 a17 a18 a19 a20 a21 a22).Ok Tryz.prog (ctxOf Tryz.prog (memoS 14 rshP rshF rshW rshH 1 (memoS 13 rofP rofF rofW rofH 1 (memoA 11 rloP rloF (memoS 12 rwiP rwiF rwiW rwiH 1 (memoS 10 rchP rchF rchW rchH 2 (memoS 9 wwiP wwiF wwiW wwiH 1 (memoS 8 wshP wshF wshW wshH 1 (memoS 7 wchP wchF wchW wchH 2 (memoB [5])))))))))) where
  regs := by kernel_rfl
  h0 := by kernel_rfl
  start := wlcstart a0 a1 a2 a3 a4 a5 a6 a7 a8 a9 a10 a11 a12 a13 a14 a15 a16 a17 a18 a19 a20 a21 a22
  node := fun a _ => match a with
   | .n0 p0 p1 p2 p3 p4 p5 p6 => wlcnode0 a0 a1 a2 a3 a4 a5 a6 a7 a8 a9 a10 a11 a12 a13 a14 a15 a16 a17 a18 a19 a20 a21 a22 p0 p1 p2 p3 p4 p5 p6
  pd := fun a => match a with
   | .n0 p0 p1 p2 p3 p4 p5 p6 => ⟨(fa_cons rfl (fa_cons rfl (fa_cons rfl (fa_cons rfl (fa_cons rfl (fa_cons rfl (fa_cons rfl (fa_cons rfl (fa_cons rfl (fa_cons rfl fa_nil)))))))))), (fa_cons ⟨.inl (Nat.le_of_ble_eq_true rfl), rfl, rfl⟩ (fa_cons ⟨.inl (Nat.le_of_ble_eq_true rfl), rfl, rfl⟩ (fa_cons ⟨.inl (Nat.le_of_ble_eq_true rfl), rfl, rfl⟩ (fa_cons ⟨.inl (Nat.le_of_ble_eq_true rfl), rfl, rfl⟩ (fa_cons ⟨.inl (Nat.le_of_ble_eq_true rfl), rfl, rfl⟩ (fa_cons ⟨.inl (Nat.le_of_ble_eq_true rfl), (fun _ => rfl), rfl⟩ fa_nil)))))), fa_nil, rfl⟩
  le := fun a => match a with
   | .n0 p0 p1 p2 p3 p4 p5 p6 => Nat.le_of_ble_eq_true rfl
  rd := fun v => ⟨⟨fa_nil, fa_nil, fa_nil, rfl⟩, rfl⟩
  wb := rfl


theorem wlchR {ρ : Env} (a0 : Nat) (a1 : Nat → Int) (a2 : Nat → Int) (a3 : Int) (a4 : Int) (a5 : Int) (a6 : Int) (a7 : Int) (a8 : Int) (a9 : Int) (a10 : Int) (a11 : Int) (a12 : Int) (a13 : Int) (a14 : Int) (a15 : Int) (a16 : Int) (a17 : Int) (a18 : Int) (a19 : Int) (a20 : Int) (a21 : Int) (a22 : Int) (hM : MemoOk Tryz.prog (ctxOf Tryz.prog (memoS 14 rshP rshF rshW rshH 1 (memoS 13 rofP rofF rofW rofH 1 (memoA 11 rloP rloF (memoS 12 rwiP rwiF rwiW rwiH 1 (memoS 10 rchP rchF rchW rchH 2 (memoS 9 wwiP wwiF wwiW wwiH 1 (memoS 8 wshP wshF wshW wshH 1 (memoS 7 wchP wchF wchW wchH 2 (memoB [5])))))))))) ρ) : ∀ X a q n D, FxOk ρ X → X.base = (wlcA a0 a1 a2 a3 a4 a5 a6 a7 a8 a9 a10 a11 a12 a13 a14 a15 a16 a17 a18 a19 a20 a21 a22).base → X.nt = (wlcA a0 a1 a2 a3 a4 a5 a6 a7 a8 a9 a10 a11 a12 a13 a14 a15 a16 a17 a18 a19 a20 a21 a22).nt → X.W = (wlcA a0 a1 a2 a3 a4 a5 a6 a7 a8 a9 a10 a11 a12 a13 a14 a15 a16 a17 a18 a19 a20 a21 a22).W → (wlcA a0 a1 a2 a3 a4 a5 a6 a7 a8 a9 a10 a11 a12 a13 a14 a15 a16 a17 a18 a19 a20 a21 a22).rgo a = some q → q n = some D → (wlcA a0 a1 a2 a3 a4 a5 a6 a7 a8 a9 a10 a11 a12 a13 a14 a15 a16 a17 a18 a19 a20 a21 a22).RangeOk Tryz.prog ρ X a D := AF.noRange rfl

theorem wlcctr {ρ : Env} (a0 : Nat) (a1 : Nat → Int) (a2 : Nat → Int) (a3 : Int) (a4 : Int) (a5 : Int) (a6 : Int) (a7 : Int) (a8 : Int) (a9 : Int) (a10 : Int) (a11 : Int) (a12 : Int) (a13 : Int) (a14 : Int) (a15 : Int) (a16 : Int) (a17 : Int) (a18 : Int) (a19 : Int) (a20 : Int) (a21 : Int) (a22 : Int) {n : Nat} {v : wlcR} (hM : MemoOk Tryz.prog (ctxOf Tryz.prog (memoS 14 rshP rshF rshW rshH 1 (memoS 13 rofP rofF rofW rofH 1 (memoA 11 rloP rloF (memoS 12 rwiP rwiF rwiW rwiH 1 (memoS 10 rchP rchF rchW rchH 2 (memoS 9 wwiP wwiF wwiW wwiH 1 (memoS 8 wshP wshF wshW wshH 1 (memoS 7 wchP wchF wchW wchH 2 (memoB [5])))))))))) ρ) (hv : (wlcA a0 a1 a2 a3 a4 a5 a6 a7 a8 a9 a10 a11 a12 a13 a14 a15 a16 a17 a18 a19 a20 a21 a22).run n = some v) :
    Ctr Tryz.prog ρ 3 (wlcA a0 a1 a2 a3 a4 a5 a6 a7 a8 a9 a10 a11 a12 a13 a14 a15 a16 a17 a18 a19 a20 a21 a22).args (wlcA a0 a1 a2 a3 a4 a5 a6 a7 a8 a9 a10 a11 a12 a13 a14 a15 a16 a17 a18 a19 a20 a21 a22).H0 (wlcA a0 a1 a2 a3 a4 a5 a6 a7 a8 a9 a10 a11 a12 a13 a14 a15 a16 a17 a18 a19 a20 a21 a22).base (wlcA a0 a1 a2 a3 a4 a5 a6 a7 a8 a9 a10 a11 a12 a13 a14 a15 a16 a17 a18 a19 a20 a21 a22).W ((wlcA a0 a1 a2 a3 a4 a5 a6 a7 a8 a9 a10 a11 a12 a13 a14 a15 a16 a17 a18 a19 a20 a21 a22).rc v) (putH (wlcA a0 a1 a2 a3 a4 a5 a6 a7 a8 a9 a10 a11 a12 a13 a14 a15 a16 a17 a18 a19 a20 a21 a22).H0 ((wlcA a0 a1 a2 a3 a4 a5 a6 a7 a8 a9 a10 a11 a12 a13 a14 a15 a16 a17 a18 a19 a20 a21 a22).rh v ++ (wlcA a0 a1 a2 a3 a4 a5 a6 a7 a8 a9 a10 a11 a12 a13 a14 a15 a16 a17 a18 a19 a20 a21 a22).rx v)) ((wlcA a0 a1 a2 a3 a4 a5 a6 a7 a8 a9 a10 a11 a12 a13 a14 a15 a16 a17 a18 a19 a20 a21 a22).rn v) :=
  AF.ctr try_ok hM (wlcok a0 a1 a2 a3 a4 a5 a6 a7 a8 a9 a10 a11 a12 a13 a14 a15 a16 a17 a18 a19 a20 a21 a22) (fn := Tryz.f3) Tryz.func3 rfl rfl (Nat.le_of_ble_eq_true rfl) rfl (wlchR a0 a1 a2 a3 a4 a5 a6 a7 a8 a9 a10 a11 a12 a13 a14 a15 a16 a17 a18 a19 a20 a21 a22 hM) hv


theorem wlcmem {ρ : Env} : MemoOk Tryz.prog (ctxOf Tryz.prog (memoS 14 rshP rshF rshW rshH 1 (memoS 13 rofP rofF rofW rofH 1 (memoA 11 rloP rloF (memoS 12 rwiP rwiF rwiW rwiH 1 (memoS 10 rchP rchF rchW rchH 2 (memoS 9 wwiP wwiF wwiW wwiH 1 (memoS 8 wshP wshF wshW wshH 1 (memoS 7 wchP wchF wchW wchH 2 (memoB [5])))))))))) ρ := (memoS_ok (rshknown rshmem) (memoS_ok (rofknown rofmem) (memoA_ok (rloknown rlomem) (memoS_ok (rwiknown rwimem) (memoS_ok (rchknown rchmem) (memoS_ok (wwiknown wwimem) (memoS_ok (wshknown wshmem) (memoS_ok (wchknown wchmem) (memoB_ok (fun f hf => by
    simp only [List.mem_cons, List.not_mem_nil, or_false] at hf
    subst hf
    exact CxKn05_known))))))))))


abbrev wlcP : List AQ := [.agg [.rows [some .i64, some .i64], .int .i64, .int .i64, .int .i64, .int .i64, .int .i64, .int .i64], .agg [.int .i64, .int .i64, .int .i64, .int .i64, .int .i64, .int .i64], .agg [.int .i64, .int .i64, .int .i64, .int .i64, .int .i64, .int .i64, .int .i64, .int .i64]]

noncomputable def wlcF (v : AW) : AF wlcN wlcR := wlcA (v.t.getD 0 .none).n ((v.t.getD 0 .none).c 0) ((v.t.getD 0 .none).c 1) (v.i.getD 0 0) (v.i.getD 1 0) (v.i.getD 2 0) (v.i.getD 3 0) (v.i.getD 4 0) (v.i.getD 5 0) (v.i.getD 6 0) (v.i.getD 7 0) (v.i.getD 8 0) (v.i.getD 9 0) (v.i.getD 10 0) (v.i.getD 11 0) (v.i.getD 12 0) (v.i.getD 13 0) (v.i.getD 14 0) (v.i.getD 15 0) (v.i.getD 16 0) (v.i.getD 17 0) (v.i.getD 18 0) (v.i.getD 19 0)

noncomputable def wlcW : wlcR → CV := fun v => .bool (.x v)
noncomputable def wlcH : wlcR → List (Nat × Blk) := fun v => []



instance : Inhabited wlcR := ⟨false⟩
theorem wlcknown {ρ : Env} (hM : MemoOk Tryz.prog (ctxOf Tryz.prog (memoS 14 rshP rshF rshW rshH 1 (memoS 13 rofP rofF rofW rofH 1 (memoA 11 rloP rloF (memoS 12 rwiP rwiF rwiW rwiH 1 (memoS 10 rchP rchF rchW rchH 2 (memoS 9 wwiP wwiF wwiW wwiH 1 (memoS 8 wshP wshF wshW wshH 1 (memoS 7 wchP wchF wchW wchH 2 (memoB [5])))))))))) ρ) : KnownS Tryz.prog ρ 3 wlcP wlcF wlcW wlcH 1 where
  fn := ⟨Tryz.f3, Tryz.func3, rfl⟩
  le := Nat.le_of_ble_eq_true rfl
  full := fun r => rfl
  rg := fun r => rfl
  hg := fun r => fa_nil
  ctr := fun v n r h => wlcctr (v.t.getD 0 .none).n ((v.t.getD 0 .none).c 0) ((v.t.getD 0 .none).c 1) (v.i.getD 0 0) (v.i.getD 1 0) (v.i.getD 2 0) (v.i.getD 3 0) (v.i.getD 4 0) (v.i.getD 5 0) (v.i.getD 6 0) (v.i.getD 7 0) (v.i.getD 8 0) (v.i.getD 9 0) (v.i.getD 10 0) (v.i.getD 11 0) (v.i.getD 12 0) (v.i.getD 13 0) (v.i.getD 14 0) (v.i.getD 15 0) (v.i.getD 16 0) (v.i.getD 17 0) (v.i.getD 18 0) (v.i.getD 19 0) hM h

end Go.Proofs.YthhceoendicboaaGreat.Cx

/- WiresChecks: how far apart what is shown can be; the law. -/
namespace Go.Proofs.YthhceoendicboaaGreat.Cx
set_option linter.unusedVariables false
set_option linter.unusedSimpArgs false
set_option maxRecDepth 100000
set_option maxHeartbeats 4000000
open Go Go.RowKit

/-- The least, the greatest of the first ones of some numbers. -/
def MinIs (n : Int) (f : Nat → Int) (m : Int) : Prop := (∀ i : Nat, (i : Int) < n → m ≤ f i) ∧ ∃ i : Nat, (i : Int) < n ∧ m = f i
def MaxIs (n : Int) (f : Nat → Int) (m : Int) : Prop := (∀ i : Nat, (i : Int) < n → f i ≤ m) ∧ ∃ i : Nat, (i : Int) < n ∧ m = f i
theorem MinIs.same {n : Int} {f : Nat → Int} {m m' : Int} (h : MinIs n f m) (h' : MinIs n f m') : m = m' := by
  obtain ⟨h1, i, h2, h3⟩ := h
  obtain ⟨k1, j, k2, k3⟩ := h'
  have := h1 j k2
  have := k1 i h2
  omega
theorem MaxIs.same {n : Int} {f : Nat → Int} {m m' : Int} (h : MaxIs n f m) (h' : MaxIs n f m') : m = m' := by
  obtain ⟨h1, i, h2, h3⟩ := h
  obtain ⟨k1, j, k2, k3⟩ := h'
  have := h1 j k2
  have := k1 i h2
  omega
theorem MinIs.one {f : Nat → Int} {m : Int} (h : m = f 0) : MinIs 1 f m := ⟨fun i hi => by obtain rfl : i = 0 := (by omega); omega, 0, by omega, h⟩
theorem MaxIs.one {f : Nat → Int} {m : Int} (h : m = f 0) : MaxIs 1 f m := ⟨fun i hi => by obtain rfl : i = 0 := (by omega); omega, 0, by omega, h⟩
theorem MinIs.next {n : Int} {f : Nat → Int} {m : Int} (hn : 0 ≤ n) (h : MinIs n f m) : MinIs (n + 1) f (min m (f n.toNat)) := by
  obtain ⟨h1, j, h2, h3⟩ := h
  refine ⟨fun i hi => ?_, ?_⟩
  · by_cases he : (i : Int) < n
    · have := h1 i he; omega
    · obtain rfl : i = n.toNat := by omega
      omega
  · by_cases hm : m ≤ f n.toNat
    · exact ⟨j, by omega, by omega⟩
    · exact ⟨n.toNat, by omega, by omega⟩
theorem MaxIs.next {n : Int} {f : Nat → Int} {m : Int} (hn : 0 ≤ n) (h : MaxIs n f m) : MaxIs (n + 1) f (max m (f n.toNat)) := by
  obtain ⟨h1, j, h2, h3⟩ := h
  refine ⟨fun i hi => ?_, ?_⟩
  · by_cases he : (i : Int) < n
    · have := h1 i he; omega
    · obtain rfl : i = n.toNat := by omega
      omega
  · by_cases hm : f n.toNat ≤ m
    · exact ⟨j, by omega, by omega⟩
    · exact ⟨n.toNat, by omega, by omega⟩
/-- Before the first one m is some number beyond all. -/
def MinSt (n : Int) (f : Nat → Int) (z m : Int) : Prop := n = 0 ∧ m = z ∨ 0 < n ∧ MinIs n f m
def MaxSt (n : Int) (f : Nat → Int) (z m : Int) : Prop := n = 0 ∧ m = z ∨ 0 < n ∧ MaxIs n f m
theorem MinSt.next {n : Int} {f : Nat → Int} {z m : Int} (hn : 0 ≤ n) (hz : f n.toNat ≤ z) (h : MinSt n f z m) : MinSt (n + 1) f z (min m (f n.toNat)) := by
  rcases h with ⟨rfl, rfl⟩ | ⟨h1, h2⟩
  · refine .inr ⟨by omega, ?_⟩
    have e : min m (f (0 : Int).toNat) = f 0 := by
      have : (0 : Int).toNat = 0 := rfl
      rw [this] at hz ⊢; omega
    rw [e]
    exact MinIs.one rfl
  · exact .inr ⟨by omega, h2.next hn⟩
theorem MaxSt.next {n : Int} {f : Nat → Int} {z m : Int} (hn : 0 ≤ n) (hz : z ≤ f n.toNat) (h : MaxSt n f z m) : MaxSt (n + 1) f z (max m (f n.toNat)) := by
  rcases h with ⟨rfl, rfl⟩ | ⟨h1, h2⟩
  · refine .inr ⟨by omega, ?_⟩
    have e : max m (f (0 : Int).toNat) = f 0 := by
      have : (0 : Int).toNat = 0 := rfl
      rw [this] at hz ⊢; omega
    rw [e]
    exact MaxIs.one rfl
  · exact .inr ⟨by omega, h2.next hn⟩
theorem MinIs.shift {n : Int} {f : Nat → Int} {m c : Int} (h : MinIs n (fun i => c + f i) m) : MinIs n f (m - c) := by
  obtain ⟨h1, j, h2, h3⟩ := h
  exact ⟨fun i hi => by have := h1 i hi; simp only at this; omega, j, h2, by simp only at h3; omega⟩
theorem MaxIs.shift {n : Int} {f : Nat → Int} {m c : Int} (h : MaxIs n (fun i => c + f i) m) : MaxIs n f (m - c) := by
  obtain ⟨h1, j, h2, h3⟩ := h
  exact ⟨fun i hi => by have := h1 i hi; simp only at this; omega, j, h2, by simp only at h3; omega⟩
theorem MinSt.rng {n : Int} {f : Nat → Int} {z m lo hi : Int} (h : MinSt n f z m) (hz : lo ≤ z ∧ z ≤ hi) (hf : ∀ i : Nat, (i : Int) < n → lo ≤ f i ∧ f i ≤ hi) : lo ≤ m ∧ m ≤ hi := by
  rcases h with ⟨_, rfl⟩ | ⟨_, _, i, h2, rfl⟩
  · exact hz
  · exact hf i h2
theorem MaxSt.rng {n : Int} {f : Nat → Int} {z m lo hi : Int} (h : MaxSt n f z m) (hz : lo ≤ z ∧ z ≤ hi) (hf : ∀ i : Nat, (i : Int) < n → lo ≤ f i ∧ f i ≤ hi) : lo ≤ m ∧ m ≤ hi := by
  rcases h with ⟨_, rfl⟩ | ⟨_, _, i, h2, rfl⟩
  · exact hz
  · exact hf i h2

def loF (a1 a2 : Nat → Int) (a4 a9 a11 a13 : Int) (i : Nat) : Int := liftP (a1 i) (a2 i) (a9 + a11 + 2 * a13) a4
def hiF (a1 a2 : Nat → Int) (a3 a10 a12 a14 : Int) (i : Nat) : Int := liftP (a1 i) (a2 i) (a10 + a12 + 2 * a14) a3
/-- By how much what is shown can differ, in parts. -/
def WideV (a0 : Nat) (a1 a2 : Nat → Int) (a3 a4 a5 a6 a7 a8 a9 a10 a11 a12 a13 a14 : Int) (v : Int) : Prop :=
  ∃ m M, MinIs a0 (loF a1 a2 a4 a9 a11 a13) m ∧ MaxIs a0 (hiF a1 a2 a3 a10 a12 a14) M ∧ v = M - m + 4000 * ((a6 - a5) + (a8 - a7))

def bitW (k b : Int) : Bool := Cm.run Cm.eql (Ar.run Ar.and IntKind.i64 (Ar.run Ar.shr IntKind.i64 k (Ar.run Ar.conv IntKind.u64 b 0)) 1) 1
theorem red_val (lo hi k b : Int) (hb : Cm.run Cm.geq (Ar.run Ar.conv IntKind.u64 b 0) 0 = true) : AF.fin (redA lo hi k b) = true ∧ AF.val (redA lo hi k b) = (bif bitW k b then hi else lo) := by
  refine flat_val (E := fun v => v = (bif bitW k b then hi else lo)) (fun _ => rfl) ?_
  show DD.sat _ _ (redD0 lo hi k b)
  refine ⟨hb, fun h => ?_, fun h => ?_⟩
  · show hi = _
    unfold bitW; rw [h]; rfl
  · show lo = _
    unfold bitW; rw [h]; rfl

section
variable {a0 : Nat} {a1 a2 : Nat → Int} {a3 a4 a5 a6 a7 a8 a9 a10 a11 a12 a13 a14 : Int}

theorem wide_rng (hR : RulOk a0 a1 a2 a3 a4 a5 a6 a7 a8) (hS : TriOk a9 a10 a11 a12 a13 a14) : (∀ i : Nat, (i : Int) < a0 → -16000000000 ≤ loF a1 a2 a4 a9 a11 a13 i ∧ loF a1 a2 a4 a9 a11 a13 i ≤ 8000000000) ∧ (∀ i : Nat, (i : Int) < a0 → -16000000000 ≤ hiF a1 a2 a3 a10 a12 a14 i ∧ hiF a1 a2 a3 a10 a12 a14 i ≤ 8000000000) := by
  obtain ⟨_, hA, s1, s2, s3⟩ := hR
  obtain ⟨u1, u2, u3⟩ := hS
  unfold SpOk at s1 s2 s3 u1 u2 u3
  exact ⟨fun i hi => liftP_rng (hA i hi) (by omega) (by omega), fun i hi => liftP_rng (hA i hi) (by omega) (by omega)⟩

theorem wsp_val (hn : a0 ≤ 10000) (hR : RulOk a0 a1 a2 a3 a4 a5 a6 a7 a8) (hS : TriOk a9 a10 a11 a12 a13 a14) : AF.fin (wspA a0 a1 a2 a3 a4 a5 a6 a7 a8 a9 a10 a11 a12 a13 a14) = true ∧ WideV a0 a1 a2 a3 a4 a5 a6 a7 a8 a9 a10 a11 a12 a13 a14 (AF.val (wspA a0 a1 a2 a3 a4 a5 a6 a7 a8 a9 a10 a11 a12 a13 a14)) := by
  obtain ⟨rl, rh⟩ := wide_rng hR hS
  obtain ⟨hpos, hA, s1, s2, s3⟩ := hR
  obtain ⟨u1, u2, u3⟩ := hS
  unfold SpOk at s1 s2 s3 u1 u2 u3
  refine AF.val_sat (E := WideV a0 a1 a2 a3 a4 a5 a6 a7 a8 a9 a10 a11 a12 a13 a14)
    (Inv := fun b => match b with | .n0 p0 p1 p2 => 0 ≤ p2 ∧ p2 ≤ a0 ∧ MinSt p2 (loF a1 a2 a4 a9 a11 a13) 9223372036854775807 p0 ∧ MaxSt p2 (hiF a1 a2 a3 a10 a12 a14) (-9223372036854775808) p1)
    (fun b => match b with | .n0 p0 p1 p2 => (a0 - p2).toNat) (fun _ => rfl) (fun a hI => ?_) ?_
  · cases a with
    | n0 p0 p1 p2 =>
      obtain ⟨h0, h1, h2, h3⟩ := hI
      show DD.sat _ _ (wspD a0 a1 a2 a3 a4 a5 a6 a7 a8 a9 a10 a11 a12 a13 a14 (.n0 p0 p1 p2))
      unfold wspD
      simp only [DD.sat, Nat.zero_add, cmLss, cmLssF, decide_eq_true_eq]
      refine ⟨fun h => ⟨h0, h, by omega, ?_⟩, fun h => ?_⟩
      · have e1 : Ar.run .add .i64 p2 1 = p2 + 1 := arAdd (by omega)
        have hAng := hA p2.toNat (by omega)
        have eL := ar_lift (P := a4) hAng (w1 := a9) (w2 := a11) (w3 := a13) (by omega) (by omega) (by omega) (by omega)
        have eH := ar_lift (P := a3) hAng (w1 := a10) (w2 := a12) (w3 := a14) (by omega) (by omega) (by omega) (by omega)
        rw [e1, eL, eH, arMn, arMx]
        have r1 := rl p2.toNat (by omega)
        have r2 := rh p2.toNat (by omega)
        exact ⟨⟨by omega, by omega, h2.next h0 (show loF a1 a2 a4 a9 a11 a13 p2.toNat ≤ 9223372036854775807 by omega), h3.next h0 (show -9223372036854775808 ≤ hiF a1 a2 a3 a10 a12 a14 p2.toNat by omega)⟩, by omega⟩
      · obtain rfl : p2 = a0 := by omega
        rcases h2 with ⟨g, _⟩ | ⟨_, h2⟩
        · omega
        rcases h3 with ⟨g, _⟩ | ⟨_, h3⟩
        · omega
        have q1 : -16000000000 ≤ p0 ∧ p0 ≤ 8000000000 := by obtain ⟨_, i, hi, rfl⟩ := h2; exact rl i hi
        have q2 : -16000000000 ≤ p1 ∧ p1 ≤ 8000000000 := by obtain ⟨_, i, hi, rfl⟩ := h3; exact rh i hi
        refine ⟨p0, p1, h2, h3, ?_⟩
        rw [arSub (a := p1) (b := p0) (by omega), arSub (a := a6) (b := a5) (by omega), arSub (a := a8) (b := a7) (by omega), arAdd (a := a6 - a5) (by omega), arMul (a := 4000) (by omega), arAdd (by omega)]
  · show 0 ≤ (0 : Int) ∧ (0 : Int) ≤ a0 ∧ MinSt 0 (loF a1 a2 a4 a9 a11 a13) 9223372036854775807 9223372036854775807 ∧ MaxSt 0 (hiF a1 a2 a3 a10 a12 a14) (-9223372036854775808) (-9223372036854775808)
    exact ⟨by omega, by omega, .inl ⟨rfl, rfl⟩, .inl ⟨rfl, rfl⟩⟩

theorem wide_small {v : Int} (hR : RulOk a0 a1 a2 a3 a4 a5 a6 a7 a8) (hS : TriOk a9 a10 a11 a12 a13 a14) (h : WideV a0 a1 a2 a3 a4 a5 a6 a7 a8 a9 a10 a11 a12 a13 a14 v) : -100000000000 ≤ v ∧ v ≤ 100000000000 := by
  obtain ⟨rl, rh⟩ := wide_rng hR hS
  obtain ⟨m, M, ⟨_, i, hi, rfl⟩, ⟨_, j, hj, rfl⟩, rfl⟩ := h
  have := rl i hi
  have := rh j hj
  obtain ⟨_, _, s1, s2, s3⟩ := hR
  unfold SpOk at s1 s2 s3
  omega
theorem wide_same {v w : Int} (h : WideV a0 a1 a2 a3 a4 a5 a6 a7 a8 a9 a10 a11 a12 a13 a14 v) (h' : WideV a0 a1 a2 a3 a4 a5 a6 a7 a8 a9 a10 a11 a12 a13 a14 w) : v = w := by
  obtain ⟨m, M, h1, h2, rfl⟩ := h
  obtain ⟨m', M', h1', h2', rfl⟩ := h'
  rw [h1.same h1', h2.same h2']

theorem rwi_val (hn : a0 ≤ 10000) (hR : RulOk a0 a1 a2 a3 a4 a5 a6 a7 a8) (hS : TriOk a9 a10 a11 a12 a13 a14) : AF.fin (rwiA a0 a1 a2 a3 a4 a5 a6 a7 a8 a9 a10 a11 a12 a13 a14) = true ∧ WideV a0 a1 a2 a3 a4 a5 a6 a7 a8 a9 a10 a11 a12 a13 a14 (AF.val (rwiA a0 a1 a2 a3 a4 a5 a6 a7 a8 a9 a10 a11 a12 a13 a14)) := by
  obtain ⟨rl, rh⟩ := wide_rng hR hS
  have hR0 := hR
  obtain ⟨hpos, hA, s1, s2, s3⟩ := hR
  obtain ⟨u1, u2, u3⟩ := hS
  unfold SpOk at s1 s2 s3 u1 u2 u3
  have e0 := fun k => red_val a3 a4 k 0 (by decide)
  have e1 := fun k => red_val a5 a6 k 1 (by decide)
  have e2 := fun k => red_val a7 a8 k 2 (by decide)
  have e3 := fun k => red_val a9 a10 k 3 (by decide)
  have e4 := fun k => red_val a11 a12 k 4 (by decide)
  have e5 := fun k => red_val a13 a14 k 5 (by decide)
  let A : Nat → Int := fun i => 4000 * (a7 - a6) + loF a1 a2 a4 a9 a11 a13 i
  let B : Nat → Int := fun i => 4000 * (a8 - a5) + hiF a1 a2 a3 a10 a12 a14 i
  have rA : ∀ i : Nat, (i : Int) < a0 → -20000000000 ≤ A i ∧ A i ≤ 20000000000 := fun i hi => by have := rl i hi; show -20000000000 ≤ 4000 * (a7 - a6) + loF a1 a2 a4 a9 a11 a13 i ∧ 4000 * (a7 - a6) + loF a1 a2 a4 a9 a11 a13 i ≤ 20000000000; omega
  have rB : ∀ i : Nat, (i : Int) < a0 → -20000000000 ≤ B i ∧ B i ≤ 20000000000 := fun i hi => by have := rh i hi; show -20000000000 ≤ 4000 * (a8 - a5) + hiF a1 a2 a3 a10 a12 a14 i ∧ 4000 * (a8 - a5) + hiF a1 a2 a3 a10 a12 a14 i ≤ 20000000000; omega
  refine AF.val_sat (E := WideV a0 a1 a2 a3 a4 a5 a6 a7 a8 a9 a10 a11 a12 a13 a14)
    (Inv := fun b => match b with
      | .n0 p0 p1 p2 => 0 ≤ p2 ∧ p2 ≤ a0 ∧ MinSt p2 A 1152921504606846976 p0 ∧ MaxSt p2 B (-1152921504606846976) p1
      | .n1 p0 p1 p2 p3 => 0 ≤ p2 ∧ p2 < a0 ∧ 0 ≤ p3 ∧ p3 ≤ 64 ∧ ∃ P0 P1, MinSt p2 A 1152921504606846976 P0 ∧ MaxSt p2 B (-1152921504606846976) P1 ∧ (p0 ≤ P0 ∧ min P0 (A p2.toNat) ≤ p0 ∧ (4 ≤ p3 → p0 ≤ A p2.toNat)) ∧ (P1 ≤ p1 ∧ p1 ≤ max P1 (B p2.toNat) ∧ (61 ≤ p3 → B p2.toNat ≤ p1)))
    (fun b => match b with | .n0 p0 p1 p2 => (a0 - p2).toNat * 100 + 70 | .n1 p0 p1 p2 p3 => (a0 - p2).toNat * 100 + (64 - p3).toNat) (fun _ => rfl) (fun a hI => ?_) ?_
  · cases a with
    | n0 p0 p1 p2 =>
      obtain ⟨h0, h1, h2, h3⟩ := hI
      show DD.sat _ _ (rwiD a0 a1 a2 a3 a4 a5 a6 a7 a8 a9 a10 a11 a12 a13 a14 (.n0 p0 p1 p2))
      unfold rwiD
      simp only [DD.sat, cmLss, cmLssF]
      refine ⟨fun h => ⟨⟨h0, h, by omega, by omega, p0, p1, h2, h3, ⟨by omega, by omega, by omega⟩, by omega, by omega, by omega⟩, by omega⟩, fun h => ?_⟩
      obtain rfl : p2 = a0 := by omega
      rcases h2 with ⟨g, _⟩ | ⟨_, h2⟩
      · omega
      rcases h3 with ⟨g, _⟩ | ⟨_, h3⟩
      · omega
      have q1 : -20000000000 ≤ p0 ∧ p0 ≤ 20000000000 := by obtain ⟨_, i, hi, rfl⟩ := h2; exact rA i hi
      have q2 : -20000000000 ≤ p1 ∧ p1 ≤ 20000000000 := by obtain ⟨_, i, hi, rfl⟩ := h3; exact rB i hi
      rw [arSub (by omega)]
      exact ⟨_, _, MinIs.shift h2, MaxIs.shift h3, by omega⟩
    | n1 p0 p1 p2 p3 =>
      obtain ⟨h0, h1, h2, h3, P0, P1, h4, h5, ⟨h6, h7, h8⟩, h9, h10, h11⟩ := hI
      show DD.sat _ _ (rwiD a0 a1 a2 a3 a4 a5 a6 a7 a8 a9 a10 a11 a12 a13 a14 (.n1 p0 p1 p2 p3))
      unfold rwiD
      have ea : p3 < 64 → Ar.run .add .i64 p3 1 = p3 + 1 := fun h => arAdd (by omega)
      have eb : Ar.run .add .i64 p2 1 = p2 + 1 := arAdd (by omega)
      simp only [DD.sat, Nat.zero_add, cmLss, cmLssF, decide_eq_true_eq, (e0 _).2, (e1 _).2, (e2 _).2, (e3 _).2, (e4 _).2, (e5 _).2]
      refine ⟨fun h => ⟨(e0 _).1, (e1 _).1, (e2 _).1, (e3 _).1, (e4 _).1, (e5 _).1, Nat.le_refl _, shape_ok fun i _ => rfl, ?_⟩, fun h => ?_⟩
      · have hAng := hA p2.toNat (by omega)
        have key : ∀ P pr er w1 w2 w3 : Int, (a3 ≤ P ∧ P ≤ a4) → (a5 ≤ pr ∧ pr ≤ a6) → (a7 ≤ er ∧ er ≤ a8) → (a9 ≤ w1 ∧ w1 ≤ a10) → (a11 ≤ w2 ∧ w2 ≤ a12) → (a13 ≤ w3 ∧ w3 ≤ a14) →
            A p2.toNat ≤ 4000 * (0 - pr + er) + liftP (a1 p2.toNat) (a2 p2.toNat) (w1 + w2 + 2 * w3) P ∧ 4000 * (0 - pr + er) + liftP (a1 p2.toNat) (a2 p2.toNat) (w1 + w2 + 2 * w3) P ≤ B p2.toNat := by
          intro P pr er w1 w2 w3 g1 g2 g3 g4 g5 g6
          have m1 := liftP_mono hAng (S := a9 + a11 + 2 * a13) (S' := w1 + w2 + 2 * w3) (P := a4) (P' := P) (by omega) (by omega)
          have m2 := liftP_mono hAng (S := w1 + w2 + 2 * w3) (S' := a10 + a12 + 2 * a14) (P := P) (P' := a3) (by omega) (by omega)
          show 4000 * (a7 - a6) + liftP (a1 p2.toNat) (a2 p2.toNat) (a9 + a11 + 2 * a13) a4 ≤ _ ∧ _ ≤ 4000 * (a8 - a5) + liftP (a1 p2.toNat) (a2 p2.toNat) (a10 + a12 + 2 * a14) a3
          omega
        have pick : ∀ (b : Bool) (lo hi : Int), lo ≤ hi → lo ≤ (bif b then hi else lo) ∧ (bif b then hi else lo) ≤ hi := fun b lo hi h => by cases b <;> simp [h]
        have c0 := pick (bitW p3 0) a3 a4 (by omega)
        have c1 := pick (bitW p3 1) a5 a6 (by omega)
        have c2 := pick (bitW p3 2) a7 a8 (by omega)
        have c3 := pick (bitW p3 3) a9 a10 (by omega)
        have c4 := pick (bitW p3 4) a11 a12 (by omega)
        have c5 := pick (bitW p3 5) a13 a14 (by omega)
        have three : p3 = 3 → (bif bitW p3 0 then a4 else a3) = a4 ∧ (bif bitW p3 1 then a6 else a5) = a6 ∧ (bif bitW p3 2 then a8 else a7) = a7 ∧ (bif bitW p3 3 then a10 else a9) = a9 ∧ (bif bitW p3 4 then a12 else a11) = a11 ∧ (bif bitW p3 5 then a14 else a13) = a13 := by
          rintro rfl
          rw [show bitW 3 0 = true by decide, show bitW 3 1 = true by decide, show bitW 3 2 = false by decide, show bitW 3 3 = false by decide, show bitW 3 4 = false by decide, show bitW 3 5 = false by decide]
          exact ⟨rfl, rfl, rfl, rfl, rfl, rfl⟩
        have sixty : p3 = 60 → (bif bitW p3 0 then a4 else a3) = a3 ∧ (bif bitW p3 1 then a6 else a5) = a5 ∧ (bif bitW p3 2 then a8 else a7) = a8 ∧ (bif bitW p3 3 then a10 else a9) = a10 ∧ (bif bitW p3 4 then a12 else a11) = a12 ∧ (bif bitW p3 5 then a14 else a13) = a14 := by
          rintro rfl
          rw [show bitW 60 0 = false by decide, show bitW 60 1 = false by decide, show bitW 60 2 = true by decide, show bitW 60 3 = true by decide, show bitW 60 4 = true by decide, show bitW 60 5 = true by decide]
          exact ⟨rfl, rfl, rfl, rfl, rfl, rfl⟩
        generalize (bif bitW p3 0 then a4 else a3) = P at c0 three sixty ⊢
        generalize (bif bitW p3 1 then a6 else a5) = pr at c1 three sixty ⊢
        generalize (bif bitW p3 2 then a8 else a7) = er at c2 three sixty ⊢
        generalize (bif bitW p3 3 then a10 else a9) = w1 at c3 three sixty ⊢
        generalize (bif bitW p3 4 then a12 else a11) = w2 at c4 three sixty ⊢
        generalize (bif bitW p3 5 then a14 else a13) = w3 at c5 three sixty ⊢
        have hv := rva_val (a3 := a3) (a4 := a4) (a5 := a5) (a6 := a6) (a7 := a7) (a8 := a8) hA (z := 0) (a16 := p2) (p := P) (w1 := w1) (w2 := w2) (w3 := w3) (pr := pr) (er := er) (by omega) ⟨h0, h1⟩ (by omega) (by omega) (by omega) (by omega) (by omega) (by omega)
        have hv2 : AF.val (rvaA a0 (fun i => a1 i) (fun i => a2 i) a3 a4 a5 a6 a7 a8 0 p2 P w1 w2 w3 pr er) = _ := hv.2
        have kk := key P pr er w1 w2 w3 c0 c1 c2 c3 c4 c5
        have k3 : p3 = 3 → 4000 * (0 - pr + er) + liftP (a1 p2.toNat) (a2 p2.toNat) (w1 + w2 + 2 * w3) P = A p2.toNat := fun g => by
          obtain ⟨rfl, rfl, rfl, rfl, rfl, rfl⟩ := three g
          show _ = 4000 * (er - pr) + liftP (a1 p2.toNat) (a2 p2.toNat) (w1 + w2 + 2 * w3) P
          omega
        have k60 : p3 = 60 → 4000 * (0 - pr + er) + liftP (a1 p2.toNat) (a2 p2.toNat) (w1 + w2 + 2 * w3) P = B p2.toNat := fun g => by
          obtain ⟨rfl, rfl, rfl, rfl, rfl, rfl⟩ := sixty g
          show _ = 4000 * (er - pr) + liftP (a1 p2.toNat) (a2 p2.toNat) (w1 + w2 + 2 * w3) P
          omega
        rw [hv2, ea h, arMn, arMx]
        generalize 4000 * (0 - pr + er) + liftP (a1 p2.toNat) (a2 p2.toNat) (w1 + w2 + 2 * w3) P = v at kk k3 k60
        refine ⟨hv.1, ⟨h0, h1, by omega, by omega, P0, P1, h4, h5, ?_, ?_⟩, by omega⟩
        · generalize A p2.toNat = x at *
          clear three sixty key
          omega
        · generalize B p2.toNat = x at *
          clear three sixty key
          omega
      · rw [eb]
        have q1 : p0 = min P0 (A p2.toNat) := by have := h8 (by omega); omega
        have q2 : p1 = max P1 (B p2.toNat) := by have := h11 (by omega); omega
        rw [q1, q2]
        have r1 := rA p2.toNat (by omega)
        have r2 := rB p2.toNat (by omega)
        exact ⟨⟨by omega, by omega, h4.next h0 (by omega), h5.next h0 (by omega)⟩, by omega⟩
  · show 0 ≤ (0 : Int) ∧ (0 : Int) ≤ a0 ∧ MinSt 0 A 1152921504606846976 1152921504606846976 ∧ MaxSt 0 B (-1152921504606846976) (-1152921504606846976)
    exact ⟨by omega, by omega, .inl ⟨rfl, rfl⟩, .inl ⟨rfl, rfl⟩⟩
end
end Go.Proofs.YthhceoendicboaaGreat.Cx

/- acme/wires.Best as an automaton. Made by tools/cxauto.py. -/
namespace Go.Proofs.YthhceoendicboaaGreat.Cx
set_option linter.unusedVariables false
set_option linter.unusedSimpArgs false
set_option maxRecDepth 100000
open Go Go.Proofs Go.RowKit

noncomputable abbrev wbsCode : Code := funcCode Tryz.f16


inductive wbsN where
  | n0 (p0 : Int) (p1 : Int)

abbrev wbsR := Int × Int

noncomputable def wbsD0 (a0 : Nat) (a1 : Nat → Int) (a2 : Nat → Int) (a3 : Int) (a4 : Int) (a5 : Int) (a6 : Int) (a7 : Int) (a8 : Int) (a9 : Nat) (a10 : Nat → Int) (a11 : Nat → Int) (a12 : Nat → Int) (a13 : Nat → Int) (a14 : Nat → Int) (a15 : Nat → Int) : DD (Lf wbsN wbsR) :=
 .must (decide (0 + a0 ≤ a0))
   (.must (ShapeOk [some IntKind.i64, some IntKind.i64] (tabOf a0 fun i => [CV.int IntKind.i64 (IE.x (a1 (0 + i))), CV.int IntKind.i64 (IE.x (a2 (0 + i)))]) fun i => [CV.int IntKind.i64 (IE.x (a1 (0 + i))), CV.int IntKind.i64 (IE.x (a2 (0 + i)))])
   (.must (decide (0 + a9 ≤ a9))
   (.must (ShapeOk [some IntKind.i64, some IntKind.i64, some IntKind.i64, some IntKind.i64, some IntKind.i64, some IntKind.i64] (tabOf a9 fun i => [CV.int IntKind.i64 (IE.x (a10 (0 + i))), CV.int IntKind.i64 (IE.x (a11 (0 + i))), CV.int IntKind.i64 (IE.x (a12 (0 + i))), CV.int IntKind.i64 (IE.x (a13 (0 + i))), CV.int IntKind.i64 (IE.x (a14 (0 + i))), CV.int IntKind.i64 (IE.x (a15 (0 + i)))]) fun i => [CV.int IntKind.i64 (IE.x (a10 (0 + i))), CV.int IntKind.i64 (IE.x (a11 (0 + i))), CV.int IntKind.i64 (IE.x (a12 (0 + i))), CV.int IntKind.i64 (IE.x (a13 (0 + i))), CV.int IntKind.i64 (IE.x (a14 (0 + i))), CV.int IntKind.i64 (IE.x (a15 (0 + i)))])
   (.must (AF.fin (wchA a0 (fun i => a1 (0 + i)) (fun i => a2 (0 + i)) a3 a4 a5 a6 a7 a8 a9 (fun i => a10 (0 + i)) (fun i => a11 (0 + i)) (fun i => a12 (0 + i)) (fun i => a13 (0 + i)) (fun i => a14 (0 + i)) fun i => a15 (0 + i)))
   (.ask (Cm.run Cm.neq (AF.val (wchA a0 (fun i => a1 (0 + i)) (fun i => a2 (0 + i)) a3 a4 a5 a6 a7 a8 a9 (fun i => a10 (0 + i)) (fun i => a11 (0 + i)) (fun i => a12 (0 + i)) (fun i => a13 (0 + i)) (fun i => a14 (0 + i)) fun i => a15 (0 + i))) 0)
   (.leaf (.done (0, AF.val (wchA a0 (fun i => a1 (0 + i)) (fun i => a2 (0 + i)) a3 a4 a5 a6 a7 a8 a9 (fun i => a10 (0 + i)) (fun i => a11 (0 + i)) (fun i => a12 (0 + i)) (fun i => a13 (0 + i)) (fun i => a14 (0 + i)) fun i => a15 (0 + i))) []))
   (.ask (Cm.run Cm.eql ((↑a9 : Int)) 0)
   (.leaf (.done (0, 7) []))
   (.leaf (.next (.n0 0 0) [2]))))))))

noncomputable def wbsD (a0 : Nat) (a1 : Nat → Int) (a2 : Nat → Int) (a3 : Int) (a4 : Int) (a5 : Int) (a6 : Int) (a7 : Int) (a8 : Int) (a9 : Nat) (a10 : Nat → Int) (a11 : Nat → Int) (a12 : Nat → Int) (a13 : Nat → Int) (a14 : Nat → Int) (a15 : Nat → Int) : wbsN → DD (Lf wbsN wbsR)
 | .n0 p0 p1 =>
 .ask (Cm.run Cm.lss p1 (↑a9 : Int))
   (.must (decide (0 ≤ p1))
   (.must (decide (p1 < (↑a9 : Int)))
   (.must (decide (0 + Int.toNat p1 < a9))
   (.must (decide (0 + a0 ≤ a0))
   (.must (ShapeOk [some IntKind.i64, some IntKind.i64] (tabOf a0 fun i => [CV.int IntKind.i64 (IE.x (a1 (0 + i))), CV.int IntKind.i64 (IE.x (a2 (0 + i)))]) fun i => [CV.int IntKind.i64 (IE.x (a1 (0 + i))), CV.int IntKind.i64 (IE.x (a2 (0 + i)))])
   (.must (AF.fin (wspA a0 (fun i => a1 (0 + i)) (fun i => a2 (0 + i)) a3 a4 a5 a6 a7 a8 (a10 (0 + Int.toNat p1)) (a11 (0 + Int.toNat p1)) (a12 (0 + Int.toNat p1)) (a13 (0 + Int.toNat p1)) (a14 (0 + Int.toNat p1)) (a15 (0 + Int.toNat p1))))
   (.must (decide (0 ≤ p0))
   (.must (decide (p0 < (↑a9 : Int)))
   (.must (decide (0 + Int.toNat p0 < a9))
   (.must (decide (0 + a0 ≤ a0))
   (.must (ShapeOk [some IntKind.i64, some IntKind.i64] (tabOf a0 fun i => [CV.int IntKind.i64 (IE.x (a1 (0 + i))), CV.int IntKind.i64 (IE.x (a2 (0 + i)))]) fun i => [CV.int IntKind.i64 (IE.x (a1 (0 + i))), CV.int IntKind.i64 (IE.x (a2 (0 + i)))])
   (.must (AF.fin (wspA a0 (fun i => a1 (0 + i)) (fun i => a2 (0 + i)) a3 a4 a5 a6 a7 a8 (a10 (0 + Int.toNat p0)) (a11 (0 + Int.toNat p0)) (a12 (0 + Int.toNat p0)) (a13 (0 + Int.toNat p0)) (a14 (0 + Int.toNat p0)) (a15 (0 + Int.toNat p0))))
   (.ask (Cm.run Cm.lss (AF.val (wspA a0 (fun i => a1 (0 + i)) (fun i => a2 (0 + i)) a3 a4 a5 a6 a7 a8 (a10 (0 + Int.toNat p1)) (a11 (0 + Int.toNat p1)) (a12 (0 + Int.toNat p1)) (a13 (0 + Int.toNat p1)) (a14 (0 + Int.toNat p1)) (a15 (0 + Int.toNat p1)))) (AF.val (wspA a0 (fun i => a1 (0 + i)) (fun i => a2 (0 + i)) a3 a4 a5 a6 a7 a8 (a10 (0 + Int.toNat p0)) (a11 (0 + Int.toNat p0)) (a12 (0 + Int.toNat p0)) (a13 (0 + Int.toNat p0)) (a14 (0 + Int.toNat p0)) (a15 (0 + Int.toNat p0)))))
   (.leaf (.next (.n0 p1 (Ar.run Ar.add IntKind.i64 p1 1)) [2]))
   (.leaf (.next (.n0 p0 (Ar.run Ar.add IntKind.i64 p1 1)) [2])))))))))))))))
   (.leaf (.done (p0, 0) []))

noncomputable def wbsA (a0 : Nat) (a1 : Nat → Int) (a2 : Nat → Int) (a3 : Int) (a4 : Int) (a5 : Int) (a6 : Int) (a7 : Int) (a8 : Int) (a9 : Nat) (a10 : Nat → Int) (a11 : Nat → Int) (a12 : Nat → Int) (a13 : Nat → Int) (a14 : Nat → Int) (a15 : Nat → Int) : AF wbsN wbsR where
  code := wbsCode
  base := 2
  nt := 39
  m := 400
  un := []
  W := []
  h0 := [(0, ⟨.arg a0 2 (fun i => [.int .i64 (.x (a1 i)), .int .i64 (.x (a2 i))]) (fun _ => ⟨rfl, rfl⟩), 2, true, none⟩), (1, ⟨.arg a9 6 (fun i => [.int .i64 (.x (a10 i)), .int .i64 (.x (a11 i)), .int .i64 (.x (a12 i)), .int .i64 (.x (a13 i)), .int .i64 (.x (a14 i)), .int .i64 (.x (a15 i))]) (fun _ => ⟨rfl, rfl⟩), 6, true, none⟩)]
  args := [.agg [.sla 0 2 0 a0, .int .i64 (.x a3), .int .i64 (.x a4), .int .i64 (.x a5), .int .i64 (.x a6), .int .i64 (.x a7), .int .i64 (.x a8)], .sla 1 6 0 a9]
  res := (Tryz.f16).results.toList
  path := fun a => match a with
   | .n0 p0 p1 => [1, 1, 1, 1, 0, 1, 0]
  pd := fun a => match a with
   | .n0 p0 p1 => ⟨[(1, .sla 1 6 0 a9), (2, .ptr (some (2, 0))), (7, .int .i64 (.x p0)), (19, .sla 1 6 0 a9), (20, .int .i64 (.x (↑a9))), (21, .int .i64 (.x p1))], [(2, ⟨.lit [.sla 0 2 0 a0, .int .i64 (.x a3), .int .i64 (.x a4), .int .i64 (.x a5), .int .i64 (.x a6), .int .i64 (.x a7), .int .i64 (.x a8)], 0, true, none⟩)], 3, []⟩
  D0 := wbsD0 a0 a1 a2 a3 a4 a5 a6 a7 a8 a9 a10 a11 a12 a13 a14 a15
  D := wbsD a0 a1 a2 a3 a4 a5 a6 a7 a8 a9 a10 a11 a12 a13 a14 a15
  rc := (fun v => .tup [.int .i64 (.x v.1), .int .i64 (.x v.2)])
  rh := (fun v => [])
  rn := (fun v => 2)
  rx := (fun v => [])
  rgo := (fun _ => none)


theorem wbsstart (a0 : Nat) (a1 : Nat → Int) (a2 : Nat → Int) (a3 : Int) (a4 : Int) (a5 : Int) (a6 : Int) (a7 : Int) (a8 : Int) (a9 : Nat) (a10 : Nat → Int) (a11 : Nat → Int) (a12 : Nat → Int) (a13 : Nat → Int) (a14 : Nat → Int) (a15 : Nat → Int) : AF.edgeOk (wbsA a0 a1 a2 a3 a4 a5 a6 a7 a8 a9 a10 a11 a12 a13 a14 a15) (ctxOf Tryz.prog memo0) (wbsD0 a0 a1 a2 a3 a4 a5 a6 a7 a8 a9 a10 a11 a12 a13 a14 a15) (AF.run0 (wbsA a0 a1 a2 a3 a4 a5 a6 a7 a8 a9 a10 a11 a12 a13 a14 a15) (ctxOf Tryz.prog (memoS 31 wspP wspF wspW wspH 1 (memoS 7 wchP wchF wchW wchH 2 memo0)))) := by unfold AF.edgeOk; kernel_rfl

theorem wbsnode0 (a0 : Nat) (a1 : Nat → Int) (a2 : Nat → Int) (a3 : Int) (a4 : Int) (a5 : Int) (a6 : Int) (a7 : Int) (a8 : Int) (a9 : Nat) (a10 : Nat → Int) (a11 : Nat → Int) (a12 : Nat → Int) (a13 : Nat → Int) (a14 : Nat → Int) (a15 : Nat → Int) (p0 : Int) (p1 : Int) : AF.edgeOk (wbsA a0 a1 a2 a3 a4 a5 a6 a7 a8 a9 a10 a11 a12 a13 a14 a15) (ctxOf Tryz.prog memo0) (wbsD a0 a1 a2 a3 a4 a5 a6 a7 a8 a9 a10 a11 a12 a13 a14 a15 (.n0 p0 p1)) (AF.runN (wbsA a0 a1 a2 a3 a4 a5 a6 a7 a8 a9 a10 a11 a12 a13 a14 a15) (ctxOf Tryz.prog (memoS 31 wspP wspF wspW wspH 1 (memoS 7 wchP wchF wchW wchH 2 memo0))) (.n0 p0 p1)) := by unfold AF.edgeOk; kernel_rfl

theorem wbsok (a0 : Nat) (a1 : Nat → Int) (a2 : Nat → Int) (a3 : Int) (a4 : Int) (a5 : Int) (a6 : Int) (a7 : Int) (a8 : Int) (a9 : Nat) (a10 : Nat → Int) (a11 : Nat → Int) (a12 : Nat → Int) (a13 : Nat → Int) (a14 : Nat → Int) (a15 : Nat → Int) : (wbsA a0 a1 a2 a3 a4 a5 a6 a7 a8 a9 a10 a11 a12 a13 a14 a15).Ok Tryz.prog (ctxOf Tryz.prog (memoS 31 wspP wspF wspW wspH 1 (memoS 7 wchP wchF wchW wchH 2 memo0))) where
  regs := by kernel_rfl
  h0 := by kernel_rfl
  start := wbsstart a0 a1 a2 a3 a4 a5 a6 a7 a8 a9 a10 a11 a12 a13 a14 a15
  node := fun a _ => match a with
   | .n0 p0 p1 => wbsnode0 a0 a1 a2 a3 a4 a5 a6 a7 a8 a9 a10 a11 a12 a13 a14 a15 p0 p1
  pd := fun a => match a with
   | .n0 p0 p1 => ⟨(fa_cons rfl (fa_cons rfl (fa_cons rfl (fa_cons rfl (fa_cons rfl (fa_cons rfl fa_nil)))))), (fa_cons ⟨.inl (Nat.le_of_ble_eq_true rfl), rfl, rfl⟩ fa_nil), fa_nil, rfl⟩
  le := fun a => match a with
   | .n0 p0 p1 => Nat.le_of_ble_eq_true rfl
  rd := fun v => ⟨⟨fa_nil, fa_nil, fa_nil, rfl⟩, rfl⟩
  wb := rfl


theorem wbshR {ρ : Env} (a0 : Nat) (a1 : Nat → Int) (a2 : Nat → Int) (a3 : Int) (a4 : Int) (a5 : Int) (a6 : Int) (a7 : Int) (a8 : Int) (a9 : Nat) (a10 : Nat → Int) (a11 : Nat → Int) (a12 : Nat → Int) (a13 : Nat → Int) (a14 : Nat → Int) (a15 : Nat → Int) (hM : MemoOk Tryz.prog (ctxOf Tryz.prog (memoS 31 wspP wspF wspW wspH 1 (memoS 7 wchP wchF wchW wchH 2 memo0))) ρ) : ∀ X a q n D, FxOk ρ X → X.base = (wbsA a0 a1 a2 a3 a4 a5 a6 a7 a8 a9 a10 a11 a12 a13 a14 a15).base → X.nt = (wbsA a0 a1 a2 a3 a4 a5 a6 a7 a8 a9 a10 a11 a12 a13 a14 a15).nt → X.W = (wbsA a0 a1 a2 a3 a4 a5 a6 a7 a8 a9 a10 a11 a12 a13 a14 a15).W → (wbsA a0 a1 a2 a3 a4 a5 a6 a7 a8 a9 a10 a11 a12 a13 a14 a15).rgo a = some q → q n = some D → (wbsA a0 a1 a2 a3 a4 a5 a6 a7 a8 a9 a10 a11 a12 a13 a14 a15).RangeOk Tryz.prog ρ X a D := AF.noRange rfl

theorem wbsctr {ρ : Env} (a0 : Nat) (a1 : Nat → Int) (a2 : Nat → Int) (a3 : Int) (a4 : Int) (a5 : Int) (a6 : Int) (a7 : Int) (a8 : Int) (a9 : Nat) (a10 : Nat → Int) (a11 : Nat → Int) (a12 : Nat → Int) (a13 : Nat → Int) (a14 : Nat → Int) (a15 : Nat → Int) {n : Nat} {v : wbsR} (hM : MemoOk Tryz.prog (ctxOf Tryz.prog (memoS 31 wspP wspF wspW wspH 1 (memoS 7 wchP wchF wchW wchH 2 memo0))) ρ) (hv : (wbsA a0 a1 a2 a3 a4 a5 a6 a7 a8 a9 a10 a11 a12 a13 a14 a15).run n = some v) :
    Ctr Tryz.prog ρ 16 (wbsA a0 a1 a2 a3 a4 a5 a6 a7 a8 a9 a10 a11 a12 a13 a14 a15).args (wbsA a0 a1 a2 a3 a4 a5 a6 a7 a8 a9 a10 a11 a12 a13 a14 a15).H0 (wbsA a0 a1 a2 a3 a4 a5 a6 a7 a8 a9 a10 a11 a12 a13 a14 a15).base (wbsA a0 a1 a2 a3 a4 a5 a6 a7 a8 a9 a10 a11 a12 a13 a14 a15).W ((wbsA a0 a1 a2 a3 a4 a5 a6 a7 a8 a9 a10 a11 a12 a13 a14 a15).rc v) (putH (wbsA a0 a1 a2 a3 a4 a5 a6 a7 a8 a9 a10 a11 a12 a13 a14 a15).H0 ((wbsA a0 a1 a2 a3 a4 a5 a6 a7 a8 a9 a10 a11 a12 a13 a14 a15).rh v ++ (wbsA a0 a1 a2 a3 a4 a5 a6 a7 a8 a9 a10 a11 a12 a13 a14 a15).rx v)) ((wbsA a0 a1 a2 a3 a4 a5 a6 a7 a8 a9 a10 a11 a12 a13 a14 a15).rn v) :=
  AF.ctr try_ok hM (wbsok a0 a1 a2 a3 a4 a5 a6 a7 a8 a9 a10 a11 a12 a13 a14 a15) (fn := Tryz.f16) Tryz.func16 rfl rfl (Nat.le_of_ble_eq_true rfl) rfl (wbshR a0 a1 a2 a3 a4 a5 a6 a7 a8 a9 a10 a11 a12 a13 a14 a15 hM) hv


theorem wbsmem {ρ : Env} : MemoOk Tryz.prog (ctxOf Tryz.prog (memoS 31 wspP wspF wspW wspH 1 (memoS 7 wchP wchF wchW wchH 2 memo0))) ρ := (memoS_ok (wspknown wspmem) (memoS_ok (wchknown wchmem) memo0_ok))


abbrev wbsP : List AQ := [.agg [.rows [some .i64, some .i64], .int .i64, .int .i64, .int .i64, .int .i64, .int .i64, .int .i64], .rows [some .i64, some .i64, some .i64, some .i64, some .i64, some .i64]]

noncomputable def wbsF (v : AW) : AF wbsN wbsR := wbsA (v.t.getD 0 .none).n ((v.t.getD 0 .none).c 0) ((v.t.getD 0 .none).c 1) (v.i.getD 0 0) (v.i.getD 1 0) (v.i.getD 2 0) (v.i.getD 3 0) (v.i.getD 4 0) (v.i.getD 5 0) (v.t.getD 1 .none).n ((v.t.getD 1 .none).c 0) ((v.t.getD 1 .none).c 1) ((v.t.getD 1 .none).c 2) ((v.t.getD 1 .none).c 3) ((v.t.getD 1 .none).c 4) ((v.t.getD 1 .none).c 5)

noncomputable def wbsW : wbsR → CV := fun v => .tup [.int .i64 (.x v.1), .int .i64 (.x v.2)]
noncomputable def wbsH : wbsR → List (Nat × Blk) := fun v => []



instance : Inhabited wbsR := ⟨(0, 0)⟩
theorem wbsknown {ρ : Env} (hM : MemoOk Tryz.prog (ctxOf Tryz.prog (memoS 31 wspP wspF wspW wspH 1 (memoS 7 wchP wchF wchW wchH 2 memo0))) ρ) : KnownS Tryz.prog ρ 16 wbsP wbsF wbsW wbsH 2 where
  fn := ⟨Tryz.f16, Tryz.func16, rfl⟩
  le := Nat.le_of_ble_eq_true rfl
  full := fun r => rfl
  rg := fun r => rfl
  hg := fun r => fa_nil
  ctr := fun v n r h => wbsctr (v.t.getD 0 .none).n ((v.t.getD 0 .none).c 0) ((v.t.getD 0 .none).c 1) (v.i.getD 0 0) (v.i.getD 1 0) (v.i.getD 2 0) (v.i.getD 3 0) (v.i.getD 4 0) (v.i.getD 5 0) (v.t.getD 1 .none).n ((v.t.getD 1 .none).c 0) ((v.t.getD 1 .none).c 1) ((v.t.getD 1 .none).c 2) ((v.t.getD 1 .none).c 3) ((v.t.getD 1 .none).c 4) ((v.t.getD 1 .none).c 5) hM h

end Go.Proofs.YthhceoendicboaaGreat.Cx

/- acme/acmelaw05.WiresBests as an automaton. Made by tools/cxauto.py. -/
namespace Go.Proofs.YthhceoendicboaaGreat.Cx
set_option linter.unusedVariables false
set_option linter.unusedSimpArgs false
set_option maxRecDepth 100000
open Go Go.Proofs Go.RowKit

noncomputable abbrev wlbCode : Code := funcCode Tryz.f4


inductive wlbN where
  | n0 (p0 : Int) (p1 : Int) (p2 : Int) (p3 : Int) (p4 : Int)

abbrev wlbR := Bool

noncomputable def wlbD0 (a0 : Nat) (a1 : Nat → Int) (a2 : Nat → Int) (a3 : Int) (a4 : Int) (a5 : Int) (a6 : Int) (a7 : Int) (a8 : Int) (a9 : Nat) (a10 : Nat → Int) (a11 : Nat → Int) (a12 : Nat → Int) (a13 : Nat → Int) (a14 : Nat → Int) (a15 : Nat → Int) : DD (Lf wlbN wlbR) :=
 .ask (Cm.run Cm.gtr ((↑a0 : Int)) 25)
   (.leaf (.done true []))
   (.ask (Cm.run Cm.gtr ((↑a9 : Int)) 15)
   (.leaf (.done true []))
   (.must (decide (0 + a0 ≤ a0))
   (.must (decide (a0 ≤ 10000))
   (.must (decide (0 + a9 ≤ a9))
   (.must (decide (a9 ≤ 10000))
   (.must (decide (0 + a0 ≤ a0))
   (.must (ShapeOk [some IntKind.i64, some IntKind.i64] (tabOf a0 fun i => [CV.int IntKind.i64 (IE.x (a1 (0 + (0 + i)))), CV.int IntKind.i64 (IE.x (a2 (0 + (0 + i))))]) fun i => [CV.int IntKind.i64 (IE.x (a1 (0 + (0 + i)))), CV.int IntKind.i64 (IE.x (a2 (0 + (0 + i))))])
   (.must (decide (a0 ≤ a0))
   (.must (decide (0 + a9 ≤ a9))
   (.must (ShapeOk [some IntKind.i64, some IntKind.i64, some IntKind.i64, some IntKind.i64, some IntKind.i64, some IntKind.i64] (tabOf a9 fun i => [CV.int IntKind.i64 (IE.x (a10 (0 + (0 + i)))), CV.int IntKind.i64 (IE.x (a11 (0 + (0 + i)))), CV.int IntKind.i64 (IE.x (a12 (0 + (0 + i)))), CV.int IntKind.i64 (IE.x (a13 (0 + (0 + i)))), CV.int IntKind.i64 (IE.x (a14 (0 + (0 + i)))), CV.int IntKind.i64 (IE.x (a15 (0 + (0 + i))))]) fun i => [CV.int IntKind.i64 (IE.x (a10 (0 + (0 + i)))), CV.int IntKind.i64 (IE.x (a11 (0 + (0 + i)))), CV.int IntKind.i64 (IE.x (a12 (0 + (0 + i)))), CV.int IntKind.i64 (IE.x (a13 (0 + (0 + i)))), CV.int IntKind.i64 (IE.x (a14 (0 + (0 + i)))), CV.int IntKind.i64 (IE.x (a15 (0 + (0 + i))))])
   (.must (decide (a9 ≤ a9))
   (.must (AF.fin (wbsA a0 (fun i => a1 (0 + (0 + i))) (fun i => a2 (0 + (0 + i))) a3 a4 a5 a6 a7 a8 a9 (fun i => a10 (0 + (0 + i))) (fun i => a11 (0 + (0 + i))) (fun i => a12 (0 + (0 + i))) (fun i => a13 (0 + (0 + i))) (fun i => a14 (0 + (0 + i))) fun i => a15 (0 + (0 + i))))
   (.must (decide (0 + a0 ≤ a0))
   (.must (ShapeOk [some IntKind.i64, some IntKind.i64] (tabOf a0 fun i => [CV.int IntKind.i64 (IE.x (a1 (0 + i))), CV.int IntKind.i64 (IE.x (a2 (0 + i)))]) fun i => [CV.int IntKind.i64 (IE.x (a1 (0 + i))), CV.int IntKind.i64 (IE.x (a2 (0 + i)))])
   (.must (decide (0 + a9 ≤ a9))
   (.must (ShapeOk [some IntKind.i64, some IntKind.i64, some IntKind.i64, some IntKind.i64, some IntKind.i64, some IntKind.i64] (tabOf a9 fun i => [CV.int IntKind.i64 (IE.x (a10 (0 + i))), CV.int IntKind.i64 (IE.x (a11 (0 + i))), CV.int IntKind.i64 (IE.x (a12 (0 + i))), CV.int IntKind.i64 (IE.x (a13 (0 + i))), CV.int IntKind.i64 (IE.x (a14 (0 + i))), CV.int IntKind.i64 (IE.x (a15 (0 + i)))]) fun i => [CV.int IntKind.i64 (IE.x (a10 (0 + i))), CV.int IntKind.i64 (IE.x (a11 (0 + i))), CV.int IntKind.i64 (IE.x (a12 (0 + i))), CV.int IntKind.i64 (IE.x (a13 (0 + i))), CV.int IntKind.i64 (IE.x (a14 (0 + i))), CV.int IntKind.i64 (IE.x (a15 (0 + i)))])
   (.must (AF.fin (rchA a0 (fun i => a1 (0 + i)) (fun i => a2 (0 + i)) a3 a4 a5 a6 a7 a8 a9 (fun i => a10 (0 + i)) (fun i => a11 (0 + i)) (fun i => a12 (0 + i)) (fun i => a13 (0 + i)) (fun i => a14 (0 + i)) fun i => a15 (0 + i)))
   (.ask (Cm.run Cm.eql (AF.val (rchA a0 (fun i => a1 (0 + i)) (fun i => a2 (0 + i)) a3 a4 a5 a6 a7 a8 a9 (fun i => a10 (0 + i)) (fun i => a11 (0 + i)) (fun i => a12 (0 + i)) (fun i => a13 (0 + i)) (fun i => a14 (0 + i)) fun i => a15 (0 + i))) 0)
   (.ask (Cm.run Cm.eql ((↑a9 : Int)) 0)
   (.leaf (.next (.n0 (Prod.fst (AF.val (wbsA a0 (fun i => a1 (0 + (0 + i))) (fun i => a2 (0 + (0 + i))) a3 a4 a5 a6 a7 a8 a9 (fun i => a10 (0 + (0 + i))) (fun i => a11 (0 + (0 + i))) (fun i => a12 (0 + (0 + i))) (fun i => a13 (0 + (0 + i))) (fun i => a14 (0 + (0 + i))) fun i => a15 (0 + (0 + i))))) (Prod.snd (AF.val (wbsA a0 (fun i => a1 (0 + (0 + i))) (fun i => a2 (0 + (0 + i))) a3 a4 a5 a6 a7 a8 a9 (fun i => a10 (0 + (0 + i))) (fun i => a11 (0 + (0 + i))) (fun i => a12 (0 + (0 + i))) (fun i => a13 (0 + (0 + i))) (fun i => a14 (0 + (0 + i))) fun i => a15 (0 + (0 + i))))) 7 0 0) [2]))
   (.leaf (.next (.n0 (Prod.fst (AF.val (wbsA a0 (fun i => a1 (0 + (0 + i))) (fun i => a2 (0 + (0 + i))) a3 a4 a5 a6 a7 a8 a9 (fun i => a10 (0 + (0 + i))) (fun i => a11 (0 + (0 + i))) (fun i => a12 (0 + (0 + i))) (fun i => a13 (0 + (0 + i))) (fun i => a14 (0 + (0 + i))) fun i => a15 (0 + (0 + i))))) (Prod.snd (AF.val (wbsA a0 (fun i => a1 (0 + (0 + i))) (fun i => a2 (0 + (0 + i))) a3 a4 a5 a6 a7 a8 a9 (fun i => a10 (0 + (0 + i))) (fun i => a11 (0 + (0 + i))) (fun i => a12 (0 + (0 + i))) (fun i => a13 (0 + (0 + i))) (fun i => a14 (0 + (0 + i))) fun i => a15 (0 + (0 + i))))) (AF.val (rchA a0 (fun i => a1 (0 + i)) (fun i => a2 (0 + i)) a3 a4 a5 a6 a7 a8 a9 (fun i => a10 (0 + i)) (fun i => a11 (0 + i)) (fun i => a12 (0 + i)) (fun i => a13 (0 + i)) (fun i => a14 (0 + i)) fun i => a15 (0 + i))) 0 0) [2])))
   (.leaf (.next (.n0 (Prod.fst (AF.val (wbsA a0 (fun i => a1 (0 + (0 + i))) (fun i => a2 (0 + (0 + i))) a3 a4 a5 a6 a7 a8 a9 (fun i => a10 (0 + (0 + i))) (fun i => a11 (0 + (0 + i))) (fun i => a12 (0 + (0 + i))) (fun i => a13 (0 + (0 + i))) (fun i => a14 (0 + (0 + i))) fun i => a15 (0 + (0 + i))))) (Prod.snd (AF.val (wbsA a0 (fun i => a1 (0 + (0 + i))) (fun i => a2 (0 + (0 + i))) a3 a4 a5 a6 a7 a8 a9 (fun i => a10 (0 + (0 + i))) (fun i => a11 (0 + (0 + i))) (fun i => a12 (0 + (0 + i))) (fun i => a13 (0 + (0 + i))) (fun i => a14 (0 + (0 + i))) fun i => a15 (0 + (0 + i))))) (AF.val (rchA a0 (fun i => a1 (0 + i)) (fun i => a2 (0 + i)) a3 a4 a5 a6 a7 a8 a9 (fun i => a10 (0 + i)) (fun i => a11 (0 + i)) (fun i => a12 (0 + i)) (fun i => a13 (0 + i)) (fun i => a14 (0 + i)) fun i => a15 (0 + i))) 0 0) [2]))))))))))))))))))))

noncomputable def wlbD (a0 : Nat) (a1 : Nat → Int) (a2 : Nat → Int) (a3 : Int) (a4 : Int) (a5 : Int) (a6 : Int) (a7 : Int) (a8 : Int) (a9 : Nat) (a10 : Nat → Int) (a11 : Nat → Int) (a12 : Nat → Int) (a13 : Nat → Int) (a14 : Nat → Int) (a15 : Nat → Int) : wlbN → DD (Lf wlbN wlbR)
 | .n0 p0 p1 p2 p3 p4 =>
 .ask (Cm.run Cm.lss p4 (↑a9 : Int))
   (.ask (Cm.run Cm.eql p2 0)
   (.must (decide (0 ≤ p4))
   (.must (decide (p4 < (↑a9 : Int)))
   (.must (decide (0 + Int.toNat p4 < a9))
   (.must (decide (0 + a0 ≤ a0))
   (.must (ShapeOk [some IntKind.i64, some IntKind.i64] (tabOf a0 fun i => [CV.int IntKind.i64 (IE.x (a1 (0 + i))), CV.int IntKind.i64 (IE.x (a2 (0 + i)))]) fun i => [CV.int IntKind.i64 (IE.x (a1 (0 + i))), CV.int IntKind.i64 (IE.x (a2 (0 + i)))])
   (.must (AF.fin (rwiA a0 (fun i => a1 (0 + i)) (fun i => a2 (0 + i)) a3 a4 a5 a6 a7 a8 (a10 (0 + Int.toNat p4)) (a11 (0 + Int.toNat p4)) (a12 (0 + Int.toNat p4)) (a13 (0 + Int.toNat p4)) (a14 (0 + Int.toNat p4)) (a15 (0 + Int.toNat p4))))
   (.must (decide (0 ≤ p3))
   (.must (decide (p3 < (↑a9 : Int)))
   (.must (decide (0 + Int.toNat p3 < a9))
   (.must (decide (0 + a0 ≤ a0))
   (.must (ShapeOk [some IntKind.i64, some IntKind.i64] (tabOf a0 fun i => [CV.int IntKind.i64 (IE.x (a1 (0 + i))), CV.int IntKind.i64 (IE.x (a2 (0 + i)))]) fun i => [CV.int IntKind.i64 (IE.x (a1 (0 + i))), CV.int IntKind.i64 (IE.x (a2 (0 + i)))])
   (.must (AF.fin (rwiA a0 (fun i => a1 (0 + i)) (fun i => a2 (0 + i)) a3 a4 a5 a6 a7 a8 (a10 (0 + Int.toNat p3)) (a11 (0 + Int.toNat p3)) (a12 (0 + Int.toNat p3)) (a13 (0 + Int.toNat p3)) (a14 (0 + Int.toNat p3)) (a15 (0 + Int.toNat p3))))
   (.ask (Cm.run Cm.lss (AF.val (rwiA a0 (fun i => a1 (0 + i)) (fun i => a2 (0 + i)) a3 a4 a5 a6 a7 a8 (a10 (0 + Int.toNat p4)) (a11 (0 + Int.toNat p4)) (a12 (0 + Int.toNat p4)) (a13 (0 + Int.toNat p4)) (a14 (0 + Int.toNat p4)) (a15 (0 + Int.toNat p4)))) (AF.val (rwiA a0 (fun i => a1 (0 + i)) (fun i => a2 (0 + i)) a3 a4 a5 a6 a7 a8 (a10 (0 + Int.toNat p3)) (a11 (0 + Int.toNat p3)) (a12 (0 + Int.toNat p3)) (a13 (0 + Int.toNat p3)) (a14 (0 + Int.toNat p3)) (a15 (0 + Int.toNat p3)))))
   (.leaf (.next (.n0 p0 p1 p2 p4 (Ar.run Ar.add IntKind.i64 p4 1)) [2]))
   (.leaf (.next (.n0 p0 p1 p2 p3 (Ar.run Ar.add IntKind.i64 p4 1)) [2])))))))))))))))
   (.ask (Cm.run Cm.eql p1 p2)
   (.ask (Cm.run Cm.eql p0 p3)
   (.leaf (.done true []))
   (.leaf (.done false [])))
   (.leaf (.done false []))))
   (.ask (Cm.run Cm.eql p1 p2)
   (.ask (Cm.run Cm.eql p0 p3)
   (.leaf (.done true []))
   (.leaf (.done false [])))
   (.leaf (.done false [])))

noncomputable def wlbA (a0 : Nat) (a1 : Nat → Int) (a2 : Nat → Int) (a3 : Int) (a4 : Int) (a5 : Int) (a6 : Int) (a7 : Int) (a8 : Int) (a9 : Nat) (a10 : Nat → Int) (a11 : Nat → Int) (a12 : Nat → Int) (a13 : Nat → Int) (a14 : Nat → Int) (a15 : Nat → Int) : AF wlbN wlbR where
  code := wlbCode
  base := 2
  nt := 67
  m := 400
  un := []
  W := []
  h0 := [(0, ⟨.arg a0 2 (fun i => [.int .i64 (.x (a1 i)), .int .i64 (.x (a2 i))]) (fun _ => ⟨rfl, rfl⟩), 2, true, none⟩), (1, ⟨.arg a9 6 (fun i => [.int .i64 (.x (a10 i)), .int .i64 (.x (a11 i)), .int .i64 (.x (a12 i)), .int .i64 (.x (a13 i)), .int .i64 (.x (a14 i)), .int .i64 (.x (a15 i))]) (fun _ => ⟨rfl, rfl⟩), 6, true, none⟩)]
  args := [.agg [.sla 0 2 0 a0, .int .i64 (.x a3), .int .i64 (.x a4), .int .i64 (.x a5), .int .i64 (.x a6), .int .i64 (.x a7), .int .i64 (.x a8)], .sla 1 6 0 a9]
  res := (Tryz.f4).results.toList
  path := fun a => match a with
   | .n0 p0 p1 p2 p3 p4 => [1, 1, 1, 1, 1, 0, 1, 0]
  pd := fun a => match a with
   | .n0 p0 p1 p2 p3 p4 => ⟨[(1, .sla 1 6 0 a9), (2, .ptr (some (2, 0))), (5, .int .i64 (.x p0)), (6, .int .i64 (.x p1)), (7, .int .i64 (.x p2)), (8, .int .i64 (.x p3)), (9, .int .i64 (.x p4))], [(2, ⟨.lit [.sla 0 2 0 a0, .int .i64 (.x a3), .int .i64 (.x a4), .int .i64 (.x a5), .int .i64 (.x a6), .int .i64 (.x a7), .int .i64 (.x a8)], 0, true, none⟩)], 3, []⟩
  D0 := wlbD0 a0 a1 a2 a3 a4 a5 a6 a7 a8 a9 a10 a11 a12 a13 a14 a15
  D := wlbD a0 a1 a2 a3 a4 a5 a6 a7 a8 a9 a10 a11 a12 a13 a14 a15
  rc := (fun v => .bool (.x v))
  rh := (fun v => [])
  rn := (fun v => 2)
  rx := (fun v => [])
  rgo := (fun _ => none)


theorem wlbstart (a0 : Nat) (a1 : Nat → Int) (a2 : Nat → Int) (a3 : Int) (a4 : Int) (a5 : Int) (a6 : Int) (a7 : Int) (a8 : Int) (a9 : Nat) (a10 : Nat → Int) (a11 : Nat → Int) (a12 : Nat → Int) (a13 : Nat → Int) (a14 : Nat → Int) (a15 : Nat → Int) : AF.edgeOk (wlbA a0 a1 a2 a3 a4 a5 a6 a7 a8 a9 a10 a11 a12 a13 a14 a15) (ctxOf Tryz.prog memo0) (wlbD0 a0 a1 a2 a3 a4 a5 a6 a7 a8 a9 a10 a11 a12 a13 a14 a15) (AF.run0 (wlbA a0 a1 a2 a3 a4 a5 a6 a7 a8 a9 a10 a11 a12 a13 a14 a15) (ctxOf Tryz.prog (memoS 12 rwiP rwiF rwiW rwiH 1 (memoS 10 rchP rchF rchW rchH 2 (memoS 16 wbsP wbsF wbsW wbsH 2 (memoB [5])))))) := by unfold AF.edgeOk; kernel_rfl

theorem wlbnode0 (a0 : Nat) (a1 : Nat → Int) (a2 : Nat → Int) (a3 : Int) (a4 : Int) (a5 : Int) (a6 : Int) (a7 : Int) (a8 : Int) (a9 : Nat) (a10 : Nat → Int) (a11 : Nat → Int) (a12 : Nat → Int) (a13 : Nat → Int) (a14 : Nat → Int) (a15 : Nat → Int) (p0 : Int) (p1 : Int) (p2 : Int) (p3 : Int) (p4 : Int) : AF.edgeOk (wlbA a0 a1 a2 a3 a4 a5 a6 a7 a8 a9 a10 a11 a12 a13 a14 a15) (ctxOf Tryz.prog memo0) (wlbD a0 a1 a2 a3 a4 a5 a6 a7 a8 a9 a10 a11 a12 a13 a14 a15 (.n0 p0 p1 p2 p3 p4)) (AF.runN (wlbA a0 a1 a2 a3 a4 a5 a6 a7 a8 a9 a10 a11 a12 a13 a14 a15) (ctxOf Tryz.prog (memoS 12 rwiP rwiF rwiW rwiH 1 (memoS 10 rchP rchF rchW rchH 2 (memoS 16 wbsP wbsF wbsW wbsH 2 (memoB [5]))))) (.n0 p0 p1 p2 p3 p4)) := by unfold AF.edgeOk; kernel_rfl

theorem wlbok (a0 : Nat) (a1 : Nat → Int) (a2 : Nat → Int) (a3 : Int) (a4 : Int) (a5 : Int) (a6 : Int) (a7 : Int) (a8 : Int) (a9 : Nat) (a10 : Nat → Int) (a11 : Nat → Int) (a12 : Nat → Int) (a13 : Nat → Int) (a14 : Nat → Int) (a15 : Nat → Int) : (wlbA a0 a1 a2 a3 a4 a5 a6 a7 a8 a9 a10 a11 a12 a13 a14 a15).Ok Tryz.prog (ctxOf Tryz.prog (memoS 12 rwiP rwiF rwiW rwiH 1 (memoS 10 rchP rchF rchW rchH 2 (memoS 16 wbsP wbsF wbsW wbsH 2 (memoB [5]))))) where
  regs := by kernel_rfl
  h0 := by kernel_rfl
  start := wlbstart a0 a1 a2 a3 a4 a5 a6 a7 a8 a9 a10 a11 a12 a13 a14 a15
  node := fun a _ => match a with
   | .n0 p0 p1 p2 p3 p4 => wlbnode0 a0 a1 a2 a3 a4 a5 a6 a7 a8 a9 a10 a11 a12 a13 a14 a15 p0 p1 p2 p3 p4
  pd := fun a => match a with
   | .n0 p0 p1 p2 p3 p4 => ⟨(fa_cons rfl (fa_cons rfl (fa_cons rfl (fa_cons rfl (fa_cons rfl (fa_cons rfl (fa_cons rfl fa_nil))))))), (fa_cons ⟨.inl (Nat.le_of_ble_eq_true rfl), rfl, rfl⟩ fa_nil), fa_nil, rfl⟩
  le := fun a => match a with
   | .n0 p0 p1 p2 p3 p4 => Nat.le_of_ble_eq_true rfl
  rd := fun v => ⟨⟨fa_nil, fa_nil, fa_nil, rfl⟩, rfl⟩
  wb := rfl


theorem wlbhR {ρ : Env} (a0 : Nat) (a1 : Nat → Int) (a2 : Nat → Int) (a3 : Int) (a4 : Int) (a5 : Int) (a6 : Int) (a7 : Int) (a8 : Int) (a9 : Nat) (a10 : Nat → Int) (a11 : Nat → Int) (a12 : Nat → Int) (a13 : Nat → Int) (a14 : Nat → Int) (a15 : Nat → Int) (hM : MemoOk Tryz.prog (ctxOf Tryz.prog (memoS 12 rwiP rwiF rwiW rwiH 1 (memoS 10 rchP rchF rchW rchH 2 (memoS 16 wbsP wbsF wbsW wbsH 2 (memoB [5]))))) ρ) : ∀ X a q n D, FxOk ρ X → X.base = (wlbA a0 a1 a2 a3 a4 a5 a6 a7 a8 a9 a10 a11 a12 a13 a14 a15).base → X.nt = (wlbA a0 a1 a2 a3 a4 a5 a6 a7 a8 a9 a10 a11 a12 a13 a14 a15).nt → X.W = (wlbA a0 a1 a2 a3 a4 a5 a6 a7 a8 a9 a10 a11 a12 a13 a14 a15).W → (wlbA a0 a1 a2 a3 a4 a5 a6 a7 a8 a9 a10 a11 a12 a13 a14 a15).rgo a = some q → q n = some D → (wlbA a0 a1 a2 a3 a4 a5 a6 a7 a8 a9 a10 a11 a12 a13 a14 a15).RangeOk Tryz.prog ρ X a D := AF.noRange rfl

theorem wlbctr {ρ : Env} (a0 : Nat) (a1 : Nat → Int) (a2 : Nat → Int) (a3 : Int) (a4 : Int) (a5 : Int) (a6 : Int) (a7 : Int) (a8 : Int) (a9 : Nat) (a10 : Nat → Int) (a11 : Nat → Int) (a12 : Nat → Int) (a13 : Nat → Int) (a14 : Nat → Int) (a15 : Nat → Int) {n : Nat} {v : wlbR} (hM : MemoOk Tryz.prog (ctxOf Tryz.prog (memoS 12 rwiP rwiF rwiW rwiH 1 (memoS 10 rchP rchF rchW rchH 2 (memoS 16 wbsP wbsF wbsW wbsH 2 (memoB [5]))))) ρ) (hv : (wlbA a0 a1 a2 a3 a4 a5 a6 a7 a8 a9 a10 a11 a12 a13 a14 a15).run n = some v) :
    Ctr Tryz.prog ρ 4 (wlbA a0 a1 a2 a3 a4 a5 a6 a7 a8 a9 a10 a11 a12 a13 a14 a15).args (wlbA a0 a1 a2 a3 a4 a5 a6 a7 a8 a9 a10 a11 a12 a13 a14 a15).H0 (wlbA a0 a1 a2 a3 a4 a5 a6 a7 a8 a9 a10 a11 a12 a13 a14 a15).base (wlbA a0 a1 a2 a3 a4 a5 a6 a7 a8 a9 a10 a11 a12 a13 a14 a15).W ((wlbA a0 a1 a2 a3 a4 a5 a6 a7 a8 a9 a10 a11 a12 a13 a14 a15).rc v) (putH (wlbA a0 a1 a2 a3 a4 a5 a6 a7 a8 a9 a10 a11 a12 a13 a14 a15).H0 ((wlbA a0 a1 a2 a3 a4 a5 a6 a7 a8 a9 a10 a11 a12 a13 a14 a15).rh v ++ (wlbA a0 a1 a2 a3 a4 a5 a6 a7 a8 a9 a10 a11 a12 a13 a14 a15).rx v)) ((wlbA a0 a1 a2 a3 a4 a5 a6 a7 a8 a9 a10 a11 a12 a13 a14 a15).rn v) :=
  AF.ctr try_ok hM (wlbok a0 a1 a2 a3 a4 a5 a6 a7 a8 a9 a10 a11 a12 a13 a14 a15) (fn := Tryz.f4) Tryz.func4 rfl rfl (Nat.le_of_ble_eq_true rfl) rfl (wlbhR a0 a1 a2 a3 a4 a5 a6 a7 a8 a9 a10 a11 a12 a13 a14 a15 hM) hv


theorem wlbmem {ρ : Env} : MemoOk Tryz.prog (ctxOf Tryz.prog (memoS 12 rwiP rwiF rwiW rwiH 1 (memoS 10 rchP rchF rchW rchH 2 (memoS 16 wbsP wbsF wbsW wbsH 2 (memoB [5]))))) ρ := (memoS_ok (rwiknown rwimem) (memoS_ok (rchknown rchmem) (memoS_ok (wbsknown wbsmem) (memoB_ok (fun f hf => by
    simp only [List.mem_cons, List.not_mem_nil, or_false] at hf
    subst hf
    exact CxKn05_known)))))


abbrev wlbP : List AQ := [.agg [.rows [some .i64, some .i64], .int .i64, .int .i64, .int .i64, .int .i64, .int .i64, .int .i64], .rows [some .i64, some .i64, some .i64, some .i64, some .i64, some .i64]]

noncomputable def wlbF (v : AW) : AF wlbN wlbR := wlbA (v.t.getD 0 .none).n ((v.t.getD 0 .none).c 0) ((v.t.getD 0 .none).c 1) (v.i.getD 0 0) (v.i.getD 1 0) (v.i.getD 2 0) (v.i.getD 3 0) (v.i.getD 4 0) (v.i.getD 5 0) (v.t.getD 1 .none).n ((v.t.getD 1 .none).c 0) ((v.t.getD 1 .none).c 1) ((v.t.getD 1 .none).c 2) ((v.t.getD 1 .none).c 3) ((v.t.getD 1 .none).c 4) ((v.t.getD 1 .none).c 5)

noncomputable def wlbW : wlbR → CV := fun v => .bool (.x v)
noncomputable def wlbH : wlbR → List (Nat × Blk) := fun v => []



instance : Inhabited wlbR := ⟨false⟩
theorem wlbknown {ρ : Env} (hM : MemoOk Tryz.prog (ctxOf Tryz.prog (memoS 12 rwiP rwiF rwiW rwiH 1 (memoS 10 rchP rchF rchW rchH 2 (memoS 16 wbsP wbsF wbsW wbsH 2 (memoB [5]))))) ρ) : KnownS Tryz.prog ρ 4 wlbP wlbF wlbW wlbH 2 where
  fn := ⟨Tryz.f4, Tryz.func4, rfl⟩
  le := Nat.le_of_ble_eq_true rfl
  full := fun r => rfl
  rg := fun r => rfl
  hg := fun r => fa_nil
  ctr := fun v n r h => wlbctr (v.t.getD 0 .none).n ((v.t.getD 0 .none).c 0) ((v.t.getD 0 .none).c 1) (v.i.getD 0 0) (v.i.getD 1 0) (v.i.getD 2 0) (v.i.getD 3 0) (v.i.getD 4 0) (v.i.getD 5 0) (v.t.getD 1 .none).n ((v.t.getD 1 .none).c 0) ((v.t.getD 1 .none).c 1) ((v.t.getD 1 .none).c 2) ((v.t.getD 1 .none).c 3) ((v.t.getD 1 .none).c 4) ((v.t.getD 1 .none).c 5) hM h

end Go.Proofs.YthhceoendicboaaGreat.Cx

/- WiresBests: which of the sets tells most. -/
namespace Go.Proofs.YthhceoendicboaaGreat.Cx
set_option linter.unusedVariables false
set_option linter.unusedSimpArgs false
set_option maxRecDepth 100000
set_option maxHeartbeats 4000000
open Go Go.RowKit

theorem ChkV.ok' {n m : Nat} {V : Prop} (h : ChkV n m V 0) : V := by
  rcases h with ⟨_, q⟩ | ⟨_, ⟨q, _⟩ | ⟨_, q⟩⟩
  · exact absurd q (by decide)
  · exact q
  · exact absurd q (by decide)

/-- k is the first of the least among the first p. -/
def FM (f : Nat → Int) (p k : Int) : Prop := 0 ≤ k ∧ (k < p ∨ p = 0 ∧ k = 0) ∧ (∀ i : Nat, (i : Int) < p → f k.toNat ≤ f i) ∧ ∀ i : Nat, (i : Int) < k → f k.toNat < f i
theorem FM.start {f : Nat → Int} : FM f 0 0 := ⟨by omega, .inr ⟨rfl, rfl⟩, fun i h => by omega, fun i h => by omega⟩
theorem FM.low {f : Nat → Int} {p k : Int} (h : FM f p k) (hp : 0 ≤ p) (hl : f p.toNat < f k.toNat) : FM f (p + 1) p := by
  obtain ⟨h1, h2, h3, h4⟩ := h
  refine ⟨hp, .inl (by omega), all_next hp (fun i hi => ?_) (Int.le_refl _), fun i hi => ?_⟩
  · have := h3 i hi; omega
  · have := h3 i hi; omega
theorem FM.stay {f : Nat → Int} {p k : Int} (h : FM f p k) (hp : 0 ≤ p) (hl : f k.toNat ≤ f p.toNat) : FM f (p + 1) k := by
  obtain ⟨h1, h2, h3, h4⟩ := h
  exact ⟨h1, .inl (by omega), all_next hp h3 hl, h4⟩
theorem FM.same {f : Nat → Int} {p k k' : Int} (hp : 0 < p) (h : FM f p k) (h' : FM f p k') : k = k' := by
  obtain ⟨h1, h2, h3, h4⟩ := h
  obtain ⟨g1, g2, g3, g4⟩ := h'
  rcases Int.lt_trichotomy k k' with q | q | q
  · have := g4 k.toNat (by omega); have := h3 k'.toNat (by omega); omega
  · exact q
  · have := h4 k'.toNat (by omega); have := g3 k.toNat (by omega); omega

noncomputable def spF (a0 : Nat) (a1 a2 : Nat → Int) (a3 a4 a5 a6 a7 a8 : Int) (a10 a11 a12 a13 a14 a15 : Nat → Int) (i : Nat) : Int := AF.val (wspA a0 a1 a2 a3 a4 a5 a6 a7 a8 (a10 i) (a11 i) (a12 i) (a13 i) (a14 i) (a15 i))

section
variable {a0 : Nat} {a1 a2 : Nat → Int} {a3 a4 a5 a6 a7 a8 : Int} {a9 : Nat} {a10 a11 a12 a13 a14 a15 : Nat → Int}

theorem wsp_at (hn : a0 ≤ 10000) (hR : RulOk a0 a1 a2 a3 a4 a5 a6 a7 a8) (hS : SetsOk a9 a10 a11 a12 a13 a14 a15) {k : Int} (h0 : 0 ≤ k) (h1 : k < a9) : AF.fin (wspA a0 a1 a2 a3 a4 a5 a6 a7 a8 (a10 k.toNat) (a11 k.toNat) (a12 k.toNat) (a13 k.toNat) (a14 k.toNat) (a15 k.toNat)) = true :=
  (wsp_val hn hR (hS k.toNat (by omega))).1
theorem rwi_at (hn : a0 ≤ 10000) (hR : RulOk a0 a1 a2 a3 a4 a5 a6 a7 a8) (hS : SetsOk a9 a10 a11 a12 a13 a14 a15) {k : Int} (h0 : 0 ≤ k) (h1 : k < a9) : AF.fin (rwiA a0 a1 a2 a3 a4 a5 a6 a7 a8 (a10 k.toNat) (a11 k.toNat) (a12 k.toNat) (a13 k.toNat) (a14 k.toNat) (a15 k.toNat)) = true ∧ AF.val (rwiA a0 a1 a2 a3 a4 a5 a6 a7 a8 (a10 k.toNat) (a11 k.toNat) (a12 k.toNat) (a13 k.toNat) (a14 k.toNat) (a15 k.toNat)) = spF a0 a1 a2 a3 a4 a5 a6 a7 a8 a10 a11 a12 a13 a14 a15 k.toNat := by
  have h := rwi_val hn hR (hS k.toNat (by omega))
  exact ⟨h.1, wide_same h.2 (wsp_val hn hR (hS k.toNat (by omega))).2⟩

theorem wbs_val (hn : a0 ≤ 10000) (hm : a9 ≤ 10000) : AF.fin (wbsA a0 a1 a2 a3 a4 a5 a6 a7 a8 a9 a10 a11 a12 a13 a14 a15) = true ∧ ∃ e, ChkV a0 a9 (RulOk a0 a1 a2 a3 a4 a5 a6 a7 a8 ∧ SetsOk a9 a10 a11 a12 a13 a14 a15) e ∧
    (e ≠ 0 ∧ AF.val (wbsA a0 a1 a2 a3 a4 a5 a6 a7 a8 a9 a10 a11 a12 a13 a14 a15) = (0, e) ∨ e = 0 ∧ a9 = 0 ∧ AF.val (wbsA a0 a1 a2 a3 a4 a5 a6 a7 a8 a9 a10 a11 a12 a13 a14 a15) = (0, 7) ∨ e = 0 ∧ 0 < a9 ∧ ∃ k, FM (spF a0 a1 a2 a3 a4 a5 a6 a7 a8 a10 a11 a12 a13 a14 a15) a9 k ∧ AF.val (wbsA a0 a1 a2 a3 a4 a5 a6 a7 a8 a9 a10 a11 a12 a13 a14 a15) = (k, 0)) := by
  have hC := wch_val (a0 := a0) (a1 := a1) (a2 := a2) (a3 := a3) (a4 := a4) (a5 := a5) (a6 := a6) (a7 := a7) (a8 := a8) (a9 := a9) (a10 := a10) (a11 := a11) (a12 := a12) (a13 := a13) (a14 := a14) (a15 := a15) hn hm
  refine AF.val_sat (E := fun r => ∃ e, ChkV a0 a9 (RulOk a0 a1 a2 a3 a4 a5 a6 a7 a8 ∧ SetsOk a9 a10 a11 a12 a13 a14 a15) e ∧
    (e ≠ 0 ∧ r = (0, e) ∨ e = 0 ∧ a9 = 0 ∧ r = (0, 7) ∨ e = 0 ∧ 0 < a9 ∧ ∃ k, FM (spF a0 a1 a2 a3 a4 a5 a6 a7 a8 a10 a11 a12 a13 a14 a15) a9 k ∧ r = (k, 0)))
    (Inv := fun b => match b with | .n0 p0 p1 => (0 < a9 ∧ ChkV a0 a9 (RulOk a0 a1 a2 a3 a4 a5 a6 a7 a8 ∧ SetsOk a9 a10 a11 a12 a13 a14 a15) 0) ∧ 0 ≤ p1 ∧ p1 ≤ a9 ∧ FM (spF a0 a1 a2 a3 a4 a5 a6 a7 a8 a10 a11 a12 a13 a14 a15) p1 p0)
    (fun b => match b with | .n0 p0 p1 => (a9 - p1).toNat) (fun _ => rfl) (fun a hI => ?_) ?_
  · cases a with
    | n0 p0 p1 =>
      obtain ⟨⟨hp, hE⟩, g0, g1, g2⟩ := hI
      have hV := hE.ok'
      show DD.sat _ _ (wbsD a0 a1 a2 a3 a4 a5 a6 a7 a8 a9 a10 a11 a12 a13 a14 a15 (.n0 p0 p1))
      unfold wbsD
      have e1 : p1 < a9 → Ar.run .add .i64 p1 1 = p1 + 1 := fun h => arAdd (by omega)
      simp only [DD.sat, Nat.zero_add, cmLss, cmLssF, decide_eq_true_eq]
      refine ⟨fun h => ?_, fun h => ?_⟩
      · have k0 := g2.1
        have k1 : p0 < a9 := by have := g2.2.1; omega
        rw [e1 h]
        refine ⟨g0, h, by omega, Nat.le_refl _, shape_ok fun i _ => rfl, wsp_at hn hV.1 hV.2 g0 h, k0, k1, by omega, Nat.le_refl _, shape_ok fun i _ => rfl, wsp_at hn hV.1 hV.2 k0 k1, fun hl => ?_, fun hl => ?_⟩
        · exact ⟨⟨⟨hp, hE⟩, by omega, by omega, g2.low g0 hl⟩, by omega⟩
        · exact ⟨⟨⟨hp, hE⟩, by omega, by omega, g2.stay g0 hl⟩, by omega⟩
      · obtain rfl : p1 = a9 := by omega
        exact ⟨0, hE, .inr (.inr ⟨rfl, hp, p0, g2, rfl⟩)⟩
  · show DD.sat _ _ (wbsD0 a0 a1 a2 a3 a4 a5 a6 a7 a8 a9 a10 a11 a12 a13 a14 a15)
    unfold wbsD0
    simp only [DD.sat, Nat.zero_add, cmNeq, cmNeqF, cmEql, cmEqlF, decide_eq_true_eq]
    refine ⟨Nat.le_refl _, shape_ok fun i _ => rfl, Nat.le_refl _, shape_ok fun i _ => rfl, hC.1, fun h => ⟨_, hC.2, .inl ⟨h, rfl⟩⟩, fun h => ⟨fun h9 => ⟨_, hC.2, .inr (.inl ⟨h, by omega, trivial⟩)⟩, fun h9 => ?_⟩⟩
    have q := hC.2
    rw [show AF.val (wchA a0 a1 a2 a3 a4 a5 a6 a7 a8 a9 a10 a11 a12 a13 a14 a15) = 0 from h] at q
    exact ⟨⟨by omega, q⟩, by omega, by omega, .start⟩

/-- What the law holds at the head of its loop. -/
def BInv (a0 : Nat) (a1 a2 : Nat → Int) (a3 a4 a5 a6 a7 a8 : Int) (a9 : Nat) (a10 a11 a12 a13 a14 a15 : Nat → Int) (p0 p1 p2 p3 p4 : Int) : Prop :=
  ∃ e, ChkV a0 a9 (RulOk a0 a1 a2 a3 a4 a5 a6 a7 a8 ∧ SetsOk a9 a10 a11 a12 a13 a14 a15) e ∧ (e ≠ 0 ∧ p2 = e ∧ p1 = e ∧ p0 = 0 ∧ p3 = 0 ∨ e = 0 ∧ a9 = 0 ∧ p2 = 7 ∧ p1 = 7 ∧ p0 = 0 ∧ p3 = 0 ∨
    e = 0 ∧ 0 < a9 ∧ p2 = 0 ∧ p1 = 0 ∧ FM (spF a0 a1 a2 a3 a4 a5 a6 a7 a8 a10 a11 a12 a13 a14 a15) a9 p0 ∧ FM (spF a0 a1 a2 a3 a4 a5 a6 a7 a8 a10 a11 a12 a13 a14 a15) p4 p3)
end

theorem wlb_run (a0 : Nat) (a1 a2 : Nat → Int) (a3 a4 a5 a6 a7 a8 : Int) (a9 : Nat) (a10 a11 a12 a13 a14 a15 : Nat → Int) (hn : a0 ≤ 9223372036854775807) (_ : ∀ i, -9223372036854775808 ≤ a1 i ∧ a1 i ≤ 9223372036854775807) (_ : ∀ i, -9223372036854775808 ≤ a2 i ∧ a2 i ≤ 9223372036854775807) (_ : -9223372036854775808 ≤ a3 ∧ a3 ≤ 9223372036854775807) (_ : -9223372036854775808 ≤ a4 ∧ a4 ≤ 9223372036854775807) (_ : -9223372036854775808 ≤ a5 ∧ a5 ≤ 9223372036854775807) (_ : -9223372036854775808 ≤ a6 ∧ a6 ≤ 9223372036854775807) (_ : -9223372036854775808 ≤ a7 ∧ a7 ≤ 9223372036854775807) (_ : -9223372036854775808 ≤ a8 ∧ a8 ≤ 9223372036854775807) (hm : a9 ≤ 9223372036854775807) (_ : ∀ i, -9223372036854775808 ≤ a10 i ∧ a10 i ≤ 9223372036854775807) (_ : ∀ i, -9223372036854775808 ≤ a11 i ∧ a11 i ≤ 9223372036854775807) (_ : ∀ i, -9223372036854775808 ≤ a12 i ∧ a12 i ≤ 9223372036854775807) (_ : ∀ i, -9223372036854775808 ≤ a13 i ∧ a13 i ≤ 9223372036854775807) (_ : ∀ i, -9223372036854775808 ≤ a14 i ∧ a14 i ≤ 9223372036854775807) (_ : ∀ i, -9223372036854775808 ≤ a15 i ∧ a15 i ≤ 9223372036854775807) :
    ∃ n v, AF.run (wlbA a0 a1 a2 a3 a4 a5 a6 a7 a8 a9 a10 a11 a12 a13 a14 a15) n = some v ∧ v = true := by
  by_cases hbig : a0 > 25 ∨ a9 > 15
  · refine AF.run_sat (E := fun v => v = true) (Inv := fun b => False) (fun b => 0) (fun b => rfl) (fun b h => h.elim) ?_
    show DD.sat _ _ (wlbD0 a0 a1 a2 a3 a4 a5 a6 a7 a8 a9 a10 a11 a12 a13 a14 a15)
    unfold wlbD0
    simp only [DD.sat, cmGtr, cmGtrF]
    exact ⟨fun h => trivial, fun h => ⟨fun h => trivial, fun h => by omega⟩⟩
  have hn' : a0 ≤ 10000 := by omega
  have hm' : a9 ≤ 10000 := by omega
  refine AF.run_sat (E := fun v => v = true) (Inv := fun b => match b with | .n0 p0 p1 p2 p3 p4 => 0 ≤ p4 ∧ p4 ≤ a9 ∧ BInv a0 a1 a2 a3 a4 a5 a6 a7 a8 a9 a10 a11 a12 a13 a14 a15 p0 p1 p2 p3 p4) (fun b => match b with | .n0 p0 p1 p2 p3 p4 => (a9 - p4).toNat) (fun b => rfl) (fun a hI => ?_) ?_
  · cases a with
    | n0 p0 p1 p2 p3 p4 =>
      obtain ⟨g0, g1, e, hC, hq⟩ := hI
      show DD.sat _ _ (wlbD a0 a1 a2 a3 a4 a5 a6 a7 a8 a9 a10 a11 a12 a13 a14 a15 (.n0 p0 p1 p2 p3 p4))
      unfold wlbD
      have e1 : p4 < a9 → Ar.run .add .i64 p4 1 = p4 + 1 := fun h => arAdd (by omega)
      simp only [DD.sat, Nat.zero_add, cmEql, cmEqlF, cmLss, cmLssF, decide_eq_true_eq]
      rcases hq with ⟨he, rfl, rfl, rfl, rfl⟩ | ⟨he, h9, rfl, rfl, rfl, rfl⟩ | ⟨rfl, h9, rfl, rfl, q0, q3⟩
      · exact ⟨fun _ => ⟨fun h => absurd h he, fun _ => ⟨fun _ => ⟨fun _ => trivial, fun hx => (hx rfl).elim⟩, fun hx => (hx rfl).elim⟩⟩, fun _ => ⟨fun _ => ⟨fun _ => trivial, fun hx => (hx rfl).elim⟩, fun hx => (hx rfl).elim⟩⟩
      · exact ⟨fun _ => ⟨fun h => absurd h (by decide), fun _ => ⟨fun _ => ⟨fun _ => trivial, fun hx => (hx rfl).elim⟩, fun hx => (hx rfl).elim⟩⟩, fun _ => ⟨fun _ => ⟨fun _ => trivial, fun hx => (hx rfl).elim⟩, fun hx => (hx rfl).elim⟩⟩
      · have hV := hC.ok'
        refine ⟨fun h => ⟨fun _ => ?_, fun hx => (hx rfl).elim⟩, fun h => ?_⟩
        · have k0 := q3.1
          have k1 : p3 < a9 := by have := q3.2.1; omega
          have r1 := rwi_at hn' hV.1 hV.2 g0 h
          have r2 := rwi_at hn' hV.1 hV.2 k0 k1
          have r1' : AF.val (rwiA a0 (fun i => a1 i) (fun i => a2 i) a3 a4 a5 a6 a7 a8 (a10 p4.toNat) (a11 p4.toNat) (a12 p4.toNat) (a13 p4.toNat) (a14 p4.toNat) (a15 p4.toNat)) = _ := r1.2
          have r2' : AF.val (rwiA a0 (fun i => a1 i) (fun i => a2 i) a3 a4 a5 a6 a7 a8 (a10 p3.toNat) (a11 p3.toNat) (a12 p3.toNat) (a13 p3.toNat) (a14 p3.toNat) (a15 p3.toNat)) = _ := r2.2
          rw [e1 h]
          simp only [r1', r2']
          refine ⟨g0, h, by omega, Nat.le_refl _, shape_ok fun i _ => rfl, r1.1, k0, k1, by omega, Nat.le_refl _, shape_ok fun i _ => rfl, r2.1, fun hl => ?_, fun hl => ?_⟩
          · exact ⟨⟨by omega, by omega, 0, hC, .inr (.inr ⟨rfl, h9, rfl, rfl, q0, q3.low g0 hl⟩)⟩, by omega⟩
          · exact ⟨⟨by omega, by omega, 0, hC, .inr (.inr ⟨rfl, h9, rfl, rfl, q0, q3.stay g0 hl⟩)⟩, by omega⟩
        · obtain rfl : p4 = a9 := by omega
          exact ⟨fun _ => ⟨fun _ => trivial, fun hx => (hx (q0.same (by omega) q3)).elim⟩, fun hx => (hx rfl).elim⟩
  · show DD.sat _ _ (wlbD0 a0 a1 a2 a3 a4 a5 a6 a7 a8 a9 a10 a11 a12 a13 a14 a15)
    unfold wlbD0
    obtain ⟨hf, e, hC, hB⟩ := wbs_val (a0 := a0) (a1 := a1) (a2 := a2) (a3 := a3) (a4 := a4) (a5 := a5) (a6 := a6) (a7 := a7) (a8 := a8) (a9 := a9) (a10 := a10) (a11 := a11) (a12 := a12) (a13 := a13) (a14 := a14) (a15 := a15) hn' hm'
    have hR := rch_val (a0 := a0) (a1 := a1) (a2 := a2) (a3 := a3) (a4 := a4) (a5 := a5) (a6 := a6) (a7 := a7) (a8 := a8) (a9 := a9) (a10 := a10) (a11 := a11) (a12 := a12) (a13 := a13) (a14 := a14) (a15 := a15) hn' hm'
    have hre : AF.val (rchA a0 a1 a2 a3 a4 a5 a6 a7 a8 a9 a10 a11 a12 a13 a14 a15) = e := hR.2.same hC
    have hre' : AF.val (rchA a0 (fun i => a1 i) (fun i => a2 i) a3 a4 a5 a6 a7 a8 a9 (fun i => a10 i) (fun i => a11 i) (fun i => a12 i) (fun i => a13 i) (fun i => a14 i) (fun i => a15 i)) = e := hre
    simp only [DD.sat, Nat.zero_add, cmGtr, cmGtrF, cmEql, cmEqlF, decide_eq_true_eq, hre']
    refine ⟨fun h => trivial, fun h => ⟨fun h => trivial, fun h => ⟨Nat.le_refl _, hn', Nat.le_refl _, hm', Nat.le_refl _, shape_ok fun i _ => rfl, Nat.le_refl _, Nat.le_refl _, shape_ok fun i _ => rfl, Nat.le_refl _, hf, Nat.le_refl _, shape_ok fun i _ => rfl, Nat.le_refl _, shape_ok fun i _ => rfl, hR.1, fun he => ⟨fun h9 => ?_, fun h9 => ?_⟩, fun he => ?_⟩⟩⟩
    · rcases hB with ⟨h0, _⟩ | ⟨h0, h1, h2⟩ | ⟨_, h0, _⟩
      · exact absurd he h0
      · exact ⟨by omega, by omega, e, hC, .inr (.inl ⟨h0, h1, rfl, congrArg Prod.snd h2, congrArg Prod.fst h2, rfl⟩)⟩
      · omega
    · rcases hB with ⟨h0, _⟩ | ⟨_, h0, _⟩ | ⟨h0, h1, k, h2, h3⟩
      · exact absurd he h0
      · omega
      · refine ⟨by omega, by omega, e, hC, .inr (.inr ⟨h0, h1, he, congrArg Prod.snd h3, ?_, .start⟩)⟩
        rw [show AF.val (wbsA a0 (fun i => a1 i) (fun i => a2 i) a3 a4 a5 a6 a7 a8 a9 (fun i => a10 i) (fun i => a11 i) (fun i => a12 i) (fun i => a13 i) (fun i => a14 i) (fun i => a15 i)) = _ from h3]
        exact h2
    · rcases hB with ⟨h0, h1⟩ | ⟨h0, _⟩ | ⟨h0, _⟩
      · exact ⟨by omega, by omega, e, hC, .inl ⟨h0, rfl, congrArg Prod.snd h1, congrArg Prod.fst h1, rfl⟩⟩
      · exact absurd h0 he
      · exact absurd h0 he
end Go.Proofs.YthhceoendicboaaGreat.Cx

/- ARGUMENTS THAT ARE SLICES: opened as lists; the memory in which they lie as blocks that are read alone; a law's contract as its statement's walk. -/
namespace Go.Proofs.YthhceoendicboaaGreat.Cx
set_option linter.unusedSimpArgs false
set_option linter.unusedVariables false
open Go Go.RowKit Go.ChangeShapes Go.WideShapes Go.Deep Go.Proofs.YthhceoendicboaaGreat

/-! ## Such slices as blocks -/

section
variable {P : Program} {ρ : Env}

/-- Where a slice's rows lie. -/
noncomputable def locOf (w : World) (v : Value) (z : Nat) : Option Loc :=
  match v with
  | .slice (some a) (_ + 1) _ => match w.heap[a.block]? with
    | some (.cells c _ _) => some ⟨a.block, a.off, c.size, z⟩
    | _ => none
  | _ => none

theorem rows_rel {α : Type} {en : α → List Value} {ec : α → List CV} {d : α} (he : ∀ σ x, VRl ρ σ (ec x) (en x)) (σ : Mp) : ∀ (xs : List α) (n : Nat), n ≤ xs.length → VRl ρ σ (flatR (fun j => ec (xs.getD j d)) n) ((xs.take n).flatMap en)
  | xs, 0, _ => by simpa [flatR] using VRl.nil
  | xs, n + 1, h => by
    have ih := rows_rel (d := d) he σ xs n (by omega)
    rw [flatR, List.take_add_one, List.flatMap_append]
    refine ih.append ?_
    have hn : n < xs.length := by omega
    rw [List.getElem?_eq_getElem hn, List.getD_eq_getElem?_getD, List.getElem?_eq_getElem hn]
    simpa using he σ xs[n]

theorem SlR.rel {α : Type} {en : α → List Value} {ec : α → List CV} {d : α} {z : Nat} {w : World} {v : Value} {xs : List α} {σ : Mp} {b : Nat} (h : SlR en z w v xs) (hz : ∀ x, (en x).length = z) (he : ∀ σ x, VRl ρ σ (ec x) (en x))
    (hk : ∀ j, (ec (xs.getD j d)).length = z ∧ (ec (xs.getD j d)).all CV.flat = true) (hσ : σ b = locOf w v z) :
    VR ρ σ (.sla b z 0 xs.length) v ∧ ArgAt ρ w ⟨.arg xs.length z (fun j => ec (xs.getD j d)) hk, z, true, none⟩ (σ b) := by
  obtain ⟨a, cap, rfl, hcap, _, hx⟩ := h
  have hcl : Blk.cells ⟨.arg xs.length z (fun j => ec (xs.getD j d)) hk, z, true, none⟩ = flatR (fun j => ec (xs.getD j d)) xs.length := rfl
  have hlen := flatR_length (fun j => (hk j).1) xs.length
  rcases hx with rfl | ⟨bl, off, c, t, p, rfl, hh, hsz, hrow⟩
  · refine ⟨.sla0 _ _, rfl, rfl, rfl, fun l hl => ?_⟩
    rw [hσ] at hl
    simp [locOf] at hl
  · cases xs with
    | nil =>
      refine ⟨.sla0 _ _, rfl, rfl, rfl, fun l hl => ?_⟩
      rw [hσ] at hl
      simp [locOf] at hl
    | cons x xs =>
      have hlo : locOf w (.slice (some ⟨bl, off, none⟩) (x :: xs).length cap) z = some ⟨bl, off, c.size, z⟩ := by
        simp [locOf, hh]
      rw [hlo] at hσ
      refine ⟨?_, rfl, rfl, rfl, fun l hl => ?_⟩
      · have := VR.sla (ρ := ρ) (σ := σ) (b := b) (z := z) (o := 0) (n := (x :: xs).length) (c' := cap) hσ hcap
        simpa using this
      · rw [hσ] at hl
        obtain rfl := Option.some.inj hl
        refine ⟨c, t, p, hh, rfl, rfl, by rw [hcl, hlen]; exact hsz, fun τ => ?_⟩
        rw [hcl, hlen, hrow]
        have := rows_rel (ρ := ρ) (d := d) he τ (x :: xs) (x :: xs).length (Nat.le_refl _)
        rwa [List.take_of_length_le (Nat.le_refl _)] at this

/-- A law's contract, as its statement's walk. -/
theorem Ctr.law {f : Nat} {args : List CV} {h0 h1 : Tr Blk} {base n1 : Nat} {e : BE} {w : World} {σ : Mp} {args' : Array Value} (K : Ctr P ρ f args h0 base [] (.bool e) h1 n1) (he : e.den ρ = true) (ha : VRl ρ σ args args'.toList) (hH : HR ρ σ (curOf h0 base) w) (hN : ∀ b, base ≤ b → σ b = none) :
    Calls P f args' w fun e w' => e = .returned (.bool true) ∧ Below w.heap.size w w' := by
  refine ((K.run 0 σ w args' ha hH hN).calls (fun k d h => by cases h)).mono ?_
  rintro e' w' ⟨v, rfl, σ', h1, h2, h3, h4, h5⟩
  cases h2
  refine ⟨by rw [he], h4.os, h4.tape, h4.output, h4.size, fun k hk => h4.block k hk (fun b hb l hl => ?_)⟩
  rcases hb with hb | hb
  · cases hb
  · rw [hN b hb] at hl; cases hl

end
end Go.Proofs.YthhceoendicboaaGreat.Cx

/- ARGUMENTS OF LAWS, OPENED BY THEIR TYPES: integers, bools, structs, arrays, and slices of rows of integers and bools (a table each); the memory in which these lie. -/
namespace Go.Proofs.YthhceoendicboaaGreat.Cx
set_option linter.unusedSimpArgs false
set_option linter.unusedVariables false
open Go Go.RowKit Go.ChangeShapes Go.WideShapes Go.Deep Go.Proofs.YthhceoendicboaaGreat

/-! ## What the cells of a type are -/

inductive CK where
  | int (k : IntKind)
  | bool
  | tab (ks : List (Option IntKind))

def flatCK : List CK → Option (List (Option IntKind))
  | [] => some []
  | .int k :: l => match flatCK l with | some m => some (some k :: m) | none => none
  | .bool :: l => match flatCK l with | some m => some (none :: m) | none => none
  | .tab _ :: _ => none

def ckFs (P : Program) (f : TypeId → Option (List CK)) : Nat → List Field → Option (List CK)
  | _, [] => some []
  | off, fd :: l => match f fd.type with
    | some ks => bif Nat.beq fd.offset off && Nat.beq (P.cellsOf fd.type) ks.length then (match ckFs P f (off + ks.length) l with | some m => some (ks ++ m) | none => none) else none
    | none => none

def repL {α : Type} : Nat → List α → List α
  | 0, _ => []
  | n + 1, l => repL n l ++ l

def ckOf (P : Program) : Nat → TypeId → Option (List CK)
  | 0, _ => none
  | d + 1, t => match P.underlying t with
    | some (.int k) => some [.int k]
    | some .bool => some [.bool]
    | some (.struct fs) => match ckFs P (ckOf P d) 0 fs.toList with
      | some ks => bif Nat.beq (P.cellsOf t) ks.length then some ks else none
      | none => none
    | some (.array n e) => match ckOf P d e with
      | some ks => bif Nat.beq (P.cellsOf e) ks.length && Nat.beq (P.cellsOf t) (n * ks.length) then some (repL n ks) else none
      | none => none
    | some (.slice e) => match ckOf P d e with
      | some ks => match flatCK ks with
        | some l => bif Nat.beq (P.cellsOf e) l.length && Nat.blt 0 l.length then some [.tab l] else none
        | none => none
      | none => none
    | _ => none

/-! ## Rows -/

/-- The cells of a row: integers and bools, by their places. -/
structure RowV where
  c : Nat → Int
  g : Nat → Bool

def RowV.zero : RowV := ⟨fun _ => 0, fun _ => false⟩

def enV (r : RowV) : List (Option IntKind) → Nat → List Value
  | [], _ => []
  | some k :: ks, j => .int k (r.c j) :: enV r ks (j + 1)
  | none :: ks, j => .bool (r.g j) :: enV r ks (j + 1)

def okV (ks : List (Option IntKind)) (r : RowV) : Prop := ∀ j k, ks[j]? = some (some k) → (Lit.int k (r.c j)).wf = true

theorem enV_length (r : RowV) : ∀ (ks : List (Option IntKind)) (j : Nat), (enV r ks j).length = ks.length
  | [], _ => rfl
  | some k :: ks, j => congrArg Nat.succ (enV_length r ks (j + 1))
  | none :: ks, j => congrArg Nat.succ (enV_length r ks (j + 1))

/-- The cells of an argument: such, and slices of rows. -/
structure RowW where
  c : Nat → Int
  g : Nat → Bool
  s : Nat → Value
  t : Nat → List RowV

def enW (r : RowW) : List CK → Nat → List Value
  | [], _ => []
  | .int k :: ks, j => .int k (r.c j) :: enW r ks (j + 1)
  | .bool :: ks, j => .bool (r.g j) :: enW r ks (j + 1)
  | .tab _ :: ks, j => r.s j :: enW r ks (j + 1)

/-- A slice of such rows. -/
def SlT (ks : List (Option IntKind)) (w : World) (v : Value) (xs : List RowV) : Prop := SlR (fun r => enV r ks 0) ks.length w v xs ∧ ∀ x ∈ xs, okV ks x

def cellW (w : World) : CK → Value → Prop
  | .int k, v => ∃ z, v = .int k z ∧ (Lit.int k z).wf = true
  | .bool, v => ∃ b, v = .bool b
  | .tab ks, v => ∃ xs, SlT ks w v xs

inductive Mt (w : World) : List CK → List Value → Prop
  | nil : Mt w [] []
  | cons {k : CK} {v : Value} {ks : List CK} {vs : List Value} (h : cellW w k v) (t : Mt w ks vs) : Mt w (k :: ks) (v :: vs)

theorem Mt.append {w : World} {a b : List CK} {x y : List Value} (h : Mt w a x) (h' : Mt w b y) : Mt w (a ++ b) (x ++ y) := by
  induction h with
  | nil => exact h'
  | cons h _ ih => exact .cons h ih
theorem Mt.length {w : World} {a : List CK} {x : List Value} (h : Mt w a x) : x.length = a.length := by
  induction h with
  | nil => rfl
  | cons h _ ih => simp [ih]

/-- What the cells' places hold. -/
noncomputable def rowW (w : World) (ks : List CK) (vs : List Value) : RowW :=
  ⟨fun j => match vs[j]? with | some (.int _ z) => z | _ => 0, fun j => match vs[j]? with | some (.bool b) => b | _ => false, fun j => vs.getD j (.bool false),
   fun j => match ks[j]? with | some (.tab l) => @dite _ (∃ xs, SlT l w (vs.getD j (.bool false)) xs) (Classical.propDecidable _) (fun h => Classical.choose h) (fun _ => []) | _ => []⟩

def okW (w : World) (ks : List CK) (r : RowW) : Prop := (∀ j k, ks[j]? = some (.int k) → (Lit.int k (r.c j)).wf = true) ∧ ∀ j l, ks[j]? = some (.tab l) → SlT l w (r.s j) (r.t j)

theorem Mt.get {w : World} {ks : List CK} {vs : List Value} (h : Mt w ks vs) : ∀ {j : Nat} {k : CK}, ks[j]? = some k → ∃ v, vs[j]? = some v ∧ cellW w k v := by
  induction h with
  | nil => intro j k h; simp at h
  | cons h _ ih =>
    intro j k hj
    cases j with
    | zero => simp at hj; subst hj; exact ⟨_, rfl, h⟩
    | succ j => simpa using ih (by simpa using hj)

theorem Mt.row {w : World} {ks : List CK} {vs : List Value} (h : Mt w ks vs) : vs = enW (rowW w ks vs) ks 0 ∧ okW w ks (rowW w ks vs) := by
  have key : ∀ (n : Nat) (pre post : List CK) (a b : List Value), ks = pre ++ post → vs = a ++ b → a.length = pre.length → b.length = post.length → post.length = n → b = enW (rowW w ks vs) post pre.length := by
    intro n
    induction n with
    | zero =>
      intro pre post a b h1 h2 h3 h4 h5
      cases post with
      | nil => cases b with
        | nil => rfl
        | cons x b => simp at h4
      | cons x l => simp at h5
    | succ n ih =>
      intro pre post a b h1 h2 h3 h4 h5
      cases post with
      | nil => simp at h5
      | cons k post =>
        cases b with
        | nil => simp at h4
        | cons v b =>
          have hk : ks[pre.length]? = some k := by rw [h1]; simp
          have hv : vs[pre.length]? = some v := by rw [h2, ← h3]; simp
          obtain ⟨v', hv', hc⟩ := h.get hk
          rw [hv] at hv'
          obtain rfl := Option.some.inj hv'
          have ih' := ih (pre ++ [k]) post (a ++ [v]) b (by simp [h1]) (by simp [h2]) (by simp [h3]) (by simpa using h4) (by simpa using h5)
          rw [List.length_append, List.length_singleton] at ih'
          have hd : vs.getD pre.length (.bool false) = v := by rw [List.getD_eq_getElem?_getD, hv]; rfl
          cases k with
          | int k =>
            obtain ⟨z, rfl, _⟩ := hc
            rw [enW, ← ih']
            congr 1
            simp [rowW, hv]
          | bool =>
            obtain ⟨z, rfl⟩ := hc
            rw [enW, ← ih']
            congr 1
            simp [rowW, hv]
          | tab l =>
            rw [enW, ← ih']
            congr 1
            exact hd.symm
  refine ⟨key ks.length [] ks [] vs rfl rfl rfl h.length rfl, fun j k hk => ?_, fun j l hl => ?_⟩
  · obtain ⟨v, hv, z, rfl, hz⟩ := h.get hk
    simpa [rowW, hv] using hz
  · obtain ⟨v, hv, xs, hx⟩ := h.get hl
    have hd : vs.getD j (.bool false) = v := by rw [List.getD_eq_getElem?_getD, hv]; rfl
    have hex : ∃ xs, SlT l w (vs.getD j (.bool false)) xs := ⟨xs, by rw [hd]; exact hx⟩
    have e : (rowW w ks vs).t j = Classical.choose hex := by
      simp only [rowW, hl]
      rw [dif_pos hex]
    rw [e]
    exact Classical.choose_spec hex

/-- Cells of a row, as a row. -/
theorem Mt.flat {w : World} {cks : List CK} {vs : List Value} (h : Mt w cks vs) : ∀ {ks : List (Option IntKind)}, flatCK cks = some ks → ∃ r : RowV, vs = enV r ks 0 ∧ okV ks r := by
  have key : ∀ {cks : List CK} {vs : List Value}, Mt w cks vs → ∀ {ks : List (Option IntKind)}, flatCK cks = some ks → ∀ (r : RowV) (j : Nat), ∃ r' : RowV, vs = enV r' ks j ∧ (∀ i k, ks[i]? = some (some k) → (Lit.int k (r'.c (j + i))).wf = true) ∧ ∀ i, i < j → r'.c i = r.c i ∧ r'.g i = r.g i := by
    intro cks vs h
    induction h with
    | nil =>
      intro ks hk r j
      simp only [flatCK] at hk
      cases hk
      exact ⟨r, rfl, fun i k h => by simp at h, fun i _ => ⟨rfl, rfl⟩⟩
    | @cons k v cks vs hc _ ih =>
      intro ks hk r j
      cases k with
      | int k =>
        simp only [flatCK] at hk
        split at hk
        · rename_i m hm
          cases hk
          obtain ⟨z, rfl, hz⟩ := hc
          obtain ⟨r', h1, h2, h3⟩ := ih hm ⟨fun i => if i = j then z else r.c i, r.g⟩ (j + 1)
          have hj := h3 j (by omega)
          simp only [if_true] at hj
          refine ⟨r', by rw [enV, hj.1, ← h1], fun i k' hk' => ?_, fun i hi => ?_⟩
          · cases i with
            | zero => simp at hk'; subst hk'; rw [Nat.add_zero, hj.1]; exact hz
            | succ i => have := h2 i k' (by simpa using hk'); rwa [show j + 1 + i = j + (i + 1) by omega] at this
          · have := h3 i (by omega)
            simp only [if_neg (show i ≠ j by omega)] at this
            exact this
        · cases hk
      | bool =>
        simp only [flatCK] at hk
        split at hk
        · rename_i m hm
          cases hk
          obtain ⟨z, rfl⟩ := hc
          obtain ⟨r', h1, h2, h3⟩ := ih hm ⟨r.c, fun i => if i = j then z else r.g i⟩ (j + 1)
          have hj := h3 j (by omega)
          simp only [if_true] at hj
          refine ⟨r', by rw [enV, hj.2, ← h1], fun i k' hk' => ?_, fun i hi => ?_⟩
          · cases i with
            | zero => simp at hk'
            | succ i => have := h2 i k' (by simpa using hk'); rwa [show j + 1 + i = j + (i + 1) by omega] at this
          · have := h3 i (by omega)
            simp only [if_neg (show i ≠ j by omega)] at this
            exact this
        · cases hk
      | tab l => simp [flatCK] at hk
  intro ks hk
  obtain ⟨r', h1, h2, _⟩ := key h hk RowV.zero 0
  exact ⟨r', h1, fun j k hj => by have := h2 j k hj; rwa [Nat.zero_add] at this⟩

section
variable {H : Type} {enc : TypeId × Value → H} {P : Program} {w : World} {base : Nat} {spare : Nat → Bool} {held : Bool}

theorem seg_add {α : Type} (cs : List α) (o a b : Nat) : (cs.drop o).take (a + b) = (cs.drop o).take a ++ (cs.drop (o + a)).take b := by
  rw [List.take_add, List.drop_drop]

theorem ckFs_ok {f : TypeId → Option (List CK)} {cs : List Value} (hf : ∀ t ks, f t = some ks → ∀ n vs y, DataW.trod enc P w base spare held n t vs = some y → Mt w ks vs) :
    ∀ (l : List Field) (off : Nat) (ks : List CK), ckFs P f off l = some ks → (∀ (i : Nat) (fd : Field), l[i]? = some fd → ∃ n y, DataW.trod enc P w base spare held n fd.type ((cs.drop fd.offset).take (P.cellsOf fd.type)) = some y) → Mt w ks ((cs.drop off).take ks.length)
  | [], off, ks, h, _ => by
    simp only [ckFs] at h
    cases h
    simpa using Mt.nil
  | fd :: l, off, ks, h, ht => by
    simp only [ckFs] at h
    split at h
    · rename_i k1 hk1
      cases hc : (Nat.beq fd.offset off && Nat.beq (P.cellsOf fd.type) k1.length) with
      | false => rw [hc, cond_false] at h; cases h
      | true =>
        rw [hc, cond_true] at h
        simp only [Bool.and_eq_true] at hc
        have e1 := Nat.eq_of_beq_eq_true hc.1
        have e2 := Nat.eq_of_beq_eq_true hc.2
        split at h
        · rename_i m hm
          cases h
          obtain ⟨n, y, hy⟩ := ht 0 fd rfl
          rw [e1, e2] at hy
          have h1 := hf _ _ hk1 _ _ _ hy
          have h2 := ckFs_ok hf l (off + k1.length) m hm fun i fd' hi => ht (i + 1) fd' (by simpa using hi)
          rw [List.length_append, seg_add]
          exact h1.append h2
        · cases h
    · cases h

theorem repL_length {α : Type} (l : List α) : ∀ n, (repL n l).length = n * l.length
  | 0 => by simp [repL]
  | n + 1 => by rw [repL, List.length_append, repL_length l n, Nat.succ_mul]

theorem repL_ok {cs : List Value} {ks : List CK} {z : Nat} (hz : ks.length = z) : ∀ (n : Nat), (∀ i, i < n → Mt w ks ((cs.drop (i * z)).take z)) → Mt w (repL n ks) (cs.take (n * z))
  | 0, _ => by simpa [repL] using Mt.nil
  | n + 1, h => by
    have ih := repL_ok hz n fun i hi => h i (by omega)
    rw [repL, Nat.succ_mul, List.take_add]
    exact ih.append (h n (by omega))

theorem ckOf_ok : ∀ (d : Nat) (t : TypeId) (ks : List CK), ckOf P d t = some ks → ∀ n cs y, DataW.trod enc P w base spare held n t cs = some y → Mt w ks cs
  | 0, _, _, h => by simp [ckOf] at h
  | d + 1, t, ks, h => by
    intro n cs y hy
    unfold ckOf at h
    split at h
    · rename_i k hk
      cases h
      obtain ⟨z, rfl, _, hw⟩ := DataW.trod_int hk hy
      exact .cons ⟨z, rfl, hw⟩ .nil
    · rename_i hk
      cases h
      obtain ⟨b, rfl, _⟩ := DataW.trod_bool hk hy
      exact .cons ⟨b, rfl⟩ .nil
    · rename_i fs hk
      split at h
      · rename_i l hl
        cases hc : Nat.beq (P.cellsOf t) l.length with
        | false => rw [hc, cond_false] at h; cases h
        | true =>
          rw [hc, cond_true] at h
          cases h
          have hlen := Nat.eq_of_beq_eq_true hc
          obtain ⟨xs, m, _, _, hcl, hxl, hg⟩ := DataW.trod_struct hk hy
          have := ckFs_ok (ckOf_ok d) fs.toList 0 _ hl (cs := cs) fun i fd hi => by
            have hi' : fs[i]? = some fd := by simpa using hi
            have hlt : i < xs.length := by rw [hxl]; exact (Array.getElem?_eq_some_iff.1 hi').1
            exact ⟨m, xs[i], by rw [hg i fd hi']; exact List.getElem?_eq_getElem hlt⟩
          rwa [List.drop_zero, List.take_of_length_le (by omega)] at this
      · cases h
    · rename_i m e hk
      split at h
      · rename_i l hl
        cases hc : (Nat.beq (P.cellsOf e) l.length && Nat.beq (P.cellsOf t) (m * l.length)) with
        | false => rw [hc, cond_false] at h; cases h
        | true =>
          rw [hc, cond_true] at h
          cases h
          simp only [Bool.and_eq_true] at hc
          have e1 := Nat.eq_of_beq_eq_true hc.1
          have e2 := Nat.eq_of_beq_eq_true hc.2
          obtain ⟨xs, q, _, _, hcl, hxl, hg⟩ := DataW.trod_array hk hy
          have := repL_ok (w := w) (cs := cs) (ks := l) rfl m fun i hi => by
            have h1 := hg i hi
            rw [e1, List.getElem?_eq_getElem (by omega)] at h1
            exact ckOf_ok d _ _ hl _ _ _ h1
          rwa [List.take_of_length_le (by omega)] at this
      · cases h
    · rename_i e hk
      split at h
      · rename_i ck hck
        split at h
        · rename_i l hl
          cases hc : (Nat.beq (P.cellsOf e) l.length && Nat.blt 0 l.length) with
          | false => rw [hc, cond_false] at h; cases h
          | true =>
            rw [hc, cond_true] at h
            cases h
            simp only [Bool.and_eq_true] at hc
            obtain ⟨v, xs, rfl, h1, h2⟩ := sl_open (en := fun r => enV r l 0) (ok := okV l) (z := l.length) (Nat.lt_of_succ_le (Nat.le_of_ble_eq_true hc.2)) (fun x => enV_length _ _ _) hk (Nat.eq_of_beq_eq_true hc.1)
              (fun n cs y _ hy => (ckOf_ok d _ _ hck _ _ _ hy).flat hl) hy
            exact .cons ⟨xs, h1, h2⟩ .nil
        · cases h
      · cases h
    · cases h

/-- An argument, opened. -/
theorem open_agg {t : TypeId} {r : Reach} {b0 : Nat} {v : Value} {d : DataW H} {p : List MemPlace} {dp : Nat} {ks : List CK} (hk : ckOf P dp t = some ks) (hs : (∃ fs, P.underlying t = some (.struct fs)) ∨ ∃ n e, P.underlying t = some (.array n e))
    (hval : Value.okWide P w r b0 t v) (h : DataW.Trod enc P w base spare held t v d p) : ∃ x : RowW, v = .agg (enW x ks 0).toArray ∧ okW w ks x := by
  obtain ⟨cs, rfl⟩ : ∃ cs, v = .agg cs := by
    rcases hs with ⟨fs, hs⟩ | ⟨n, e, hs⟩
    · obtain ⟨cs, h1, _⟩ := okWide_struct hs hval; exact ⟨cs, h1⟩
    · obtain ⟨cs, h1, _⟩ := okWide_arr hs hval; exact ⟨cs, h1⟩
  obtain ⟨fuel, hf⟩ := h
  have hm := ckOf_ok dp t ks hk _ _ _ hf
  obtain ⟨h1, h2⟩ := hm.row
  refine ⟨_, ?_, h2⟩
  rw [← h1]
  simp [Value.cells]
theorem open_slT {t : TypeId} {r : Reach} {b0 : Nat} {v : Value} {d : DataW H} {p : List MemPlace} {dp : Nat} {l : List (Option IntKind)} {e : TypeId} (hk : ckOf P dp t = some [.tab l]) (hs : P.underlying t = some (.slice e))
    (hval : Value.okWide P w r b0 t v) (h : DataW.Trod enc P w base spare held t v d p) : ∃ xs, SlT l w v xs := by
  obtain ⟨a, len, cap, rfl⟩ := okWide_slice hs hval
  obtain ⟨fuel, hf⟩ := h
  have hm := ckOf_ok dp t _ hk _ _ _ hf
  have e : (Value.slice a len cap).cells.toList = [Value.slice a len cap] := rfl
  rw [e] at hm
  cases hm with
  | cons h _ => exact h
end

/-! ## Slices as tables -/

def tabV (xs : List RowV) : Tab := ⟨xs.length, fun j i => (xs.getD i RowV.zero).c j, fun j i => (xs.getD i RowV.zero).g j⟩

theorem rowCs_sl {c c' : Nat → Nat → Int} {g g' : Nat → Nat → Bool} {i i' : Nat} (hc : ∀ j, c j i = c' j i') (hg : ∀ j, g j i = g' j i') : ∀ (ks : List (Option IntKind)) (j : Nat), rowCs c g i ks j = rowCs c' g' i' ks j
  | [], _ => rfl
  | some k :: ks, j => by rw [rowCs, rowCs, hc j, rowCs_sl hc hg ks]
  | none :: ks, j => by rw [rowCs, rowCs, hg j, rowCs_sl hc hg ks]

theorem enV_rel {ρ : Env} {σ : Mp} (r : RowV) : ∀ (ks : List (Option IntKind)) (j : Nat), VRl ρ σ (rowCs (fun j _ => r.c j) (fun j _ => r.g j) 0 ks j) (enV r ks j)
  | [], _ => .nil
  | some k :: ks, j => .cons (.int k (.x (r.c j))) (enV_rel r ks (j + 1))
  | none :: ks, j => .cons (.bool (.x (r.g j))) (enV_rel r ks (j + 1))

theorem ArgAt.rows_eq {ρ : Env} {w : World} {n z : Nat} {f g : Nat → List CV} {hf : ∀ j, (f j).length = z ∧ (f j).all CV.flat = true} {hg : ∀ j, (g j).length = z ∧ (g j).all CV.flat = true} {lo : Option Loc} (e : f = g) (h : ArgAt ρ w ⟨.arg n z f hf, z, true, none⟩ lo) : ArgAt ρ w ⟨.arg n z g hg, z, true, none⟩ lo := by
  subst e; exact h

structure SlV where
  v : Value
  ks : List (Option IntKind)
  xs : List RowV

noncomputable def sigV (w : World) (S : List SlV) : Mp := fun b => match S[b]? with | some s => locOf w s.v s.ks.length | none => none
def heapV : Nat → List SlV → List (Nat × Blk)
  | _, [] => []
  | i, s :: l => (i, tabB s.ks (tabV s.xs)) :: heapV (i + 1) l

theorem sigV_none {w : World} {S : List SlV} {b : Nat} (h : S.length ≤ b) : sigV w S b = none := by
  unfold sigV; rw [List.getElem?_eq_none h]

theorem SlT.both {ρ : Env} {w : World} {S : List SlV} {b : Nat} {s : SlV} (hb : S[b]? = some s) (h : SlT s.ks w s.v s.xs) : VR ρ (sigV w S) (.sla b s.ks.length 0 s.xs.length) s.v ∧ ArgAt ρ w (tabB s.ks (tabV s.xs)) (sigV w S b) := by
  obtain ⟨h1, h2⟩ := SlR.rel (ρ := ρ) (σ := sigV w S) (b := b) (ec := fun r => rowCs (fun j _ => r.c j) (fun j _ => r.g j) 0 s.ks 0) (d := RowV.zero) h.1 (fun x => enV_length _ _ _) (fun σ x => enV_rel x s.ks 0) (fun j => rowCs_ok _ _ _ _ _) (by unfold sigV; rw [hb])
  have e : (fun j => rowCs (fun j' _ => (s.xs.getD j RowV.zero).c j') (fun j' _ => (s.xs.getD j RowV.zero).g j') 0 s.ks 0) = fun i => rowCs (tabV s.xs).c (tabV s.xs).g i s.ks 0 := funext fun i => rowCs_sl (c := fun j' _ => (s.xs.getD i RowV.zero).c j') (g := fun j' _ => (s.xs.getD i RowV.zero).g j') (fun _ => rfl) (fun _ => rfl) _ _
  have h3 := ArgAt.rows_eq (hg := fun i => rowCs_ok (tabV s.xs).c (tabV s.xs).g i s.ks 0) e h2
  exact ⟨h1, h3⟩

theorem SlT.rel {ρ : Env} {w : World} {S : List SlV} (b : Nat) {s : SlV} (hb : S[b]? = some s) (h : SlT s.ks w s.v s.xs) : VR ρ (sigV w S) (.sla b s.ks.length 0 s.xs.length) s.v := (h.both hb).1

theorem SlT.len {ks : List (Option IntKind)} {w : World} {v : Value} {xs : List RowV} (h : SlT ks w v xs) : xs.length ≤ 9223372036854775807 := by
  obtain ⟨⟨a, cap, _, _, hl, _⟩, _⟩ := h
  exact hl
theorem SlT.wf {ks : List (Option IntKind)} {w : World} {v : Value} {xs : List RowV} (h : SlT ks w v xs) (j : Nat) (k : IntKind) (hk : ks[j]? = some (some k)) (h0 : (Lit.int k 0).wf = true) (i : Nat) : (Lit.int k ((tabV xs).c j i)).wf = true := by
  show (Lit.int k ((xs.getD i RowV.zero).c j)).wf = true
  by_cases hi : i < xs.length
  · rw [List.getD_eq_getElem?_getD, List.getElem?_eq_getElem hi]
    exact h.2 _ (List.getElem_mem hi) j k hk
  · rw [List.getD_eq_getElem?_getD, List.getElem?_eq_none (by omega)]
    exact h0

theorem heapV_get {ρ : Env} {w : World} : ∀ (l : List SlV) (i : Nat) (S : List SlV), (∀ j s, l[j]? = some s → S[i + j]? = some s) → (∀ s ∈ l, SlT s.ks w s.v s.xs) → ∀ b k, (mkH (heapV i l)).get b = some k → ArgAt ρ w k (sigV w S b)
  | [], i, S, _, _, b, k, h => by
    simp only [heapV, mkH] at h
    cases h
  | s :: l, i, S, hS, hT, b, k, h => by
    have h : ((mkH (heapV (i + 1) l)).set i (tabB s.ks (tabV s.xs))).get b = some k := h
    rw [Tr.get_set] at h
    split at h
    · rename_i hb
      cases h
      have := hS 0 s rfl
      rw [Nat.add_zero] at this
      rw [hb]
      exact ((hT s (by simp)).both this).2
    · exact heapV_get l (i + 1) S (fun j s' hj => by rw [show i + 1 + j = i + (j + 1) by omega]; exact hS (j + 1) s' (by simpa using hj)) (fun s' hs => hT s' (by simp [hs])) b k h

theorem argsV {ρ : Env} {w : World} (S : List SlV) (base : Nat) (hS : ∀ s ∈ S, SlT s.ks w s.v s.xs) (hL : Laid w) : HR ρ (sigV w S) (curOf (mkH (heapV 0 S)) base) w :=
  HR.ofArgs hL fun i k _ hk => heapV_get S 0 S (fun j s h => by rw [Nat.zero_add]; exact h) hS i k hk

end Go.Proofs.YthhceoendicboaaGreat.Cx
