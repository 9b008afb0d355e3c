/- LotOdds: the law's own automaton yields true, for all bytes. -/
import Derived.Test.YtpojncoplaopcaaDoorRows
import Derived.ProofKit
import Derived.LaidMore
import Derived.OpenShut
import Derived.Stop.Joined
import Derived.Test.YtpojncoplaopcaaDoorCards
import Derived.Test.YtpojncoplaopcaaDoorTie
import Derived.SevenTiedAt
import Derived.Test.YtpojncoplaopcaaDoorPkLOdds6

namespace Go.Proofs.YtpojncoplaopcaaDoor.Cx
set_option linter.unusedVariables false
set_option linter.unusedSimpArgs false
set_option maxHeartbeats 2000000
open Go Go.RowKit

theorem conv_id {a : Int} (h : -9223372036854775808 ≤ a ∧ a ≤ 9223372036854775807) : Ar.run Ar.conv IntKind.i64 a 0 = a := IntWalk.i64_in _ (by omega)
theorem rem_pos {a b : Int} (h : 0 ≤ a) : Ar.run Ar.rem IntKind.i64 a b = a % b := by
  show a.tmod b = _
  rw [Int.tmod_eq_emod_of_nonneg h]

/-- A lot, a sample and what is accepted, out of four bytes. -/
theorem odds_args {a0 a1 a2 a3 : Int} (r0 : 0 ≤ a0 ∧ a0 ≤ 255) (r1 : 0 ≤ a1 ∧ a1 ≤ 255) (r2 : 0 ≤ a2 ∧ a2 ≤ 255) (r3 : 0 ≤ a3 ∧ a3 ≤ 255) :
    ∃ b m n A : Nat, (1 ≤ b + m ∧ b + m ≤ 50 ∧ n ≤ b + m ∧ A ≤ n) ∧ Ar.run Ar.add IntKind.i64 1 (Ar.run Ar.rem IntKind.i64 (Ar.run Ar.conv IntKind.i64 a0 0) 50) = ((b + m : Nat) : Int) ∧
      Ar.run Ar.rem IntKind.i64 (Ar.run Ar.conv IntKind.i64 a1 0) (Ar.run Ar.add IntKind.i64 ((b + m : Nat) : Int) 1) = (b : Int) ∧
      Ar.run Ar.rem IntKind.i64 (Ar.run Ar.conv IntKind.i64 a2 0) (Ar.run Ar.add IntKind.i64 ((b + m : Nat) : Int) 1) = (n : Int) ∧
      Ar.run Ar.rem IntKind.i64 (Ar.run Ar.conv IntKind.i64 a3 0) (Ar.run Ar.add IntKind.i64 (n : Int) 1) = (A : Int) := by
  rw [conv_id (a := a0) (by omega), conv_id (a := a1) (by omega), conv_id (a := a2) (by omega), conv_id (a := a3) (by omega), rem_pos r0.1, arAdd (a := 1) (by omega)]
  have b0 := Int.emod_lt_of_pos a0 (show (0 : Int) < 50 by omega)
  have b1 := Int.emod_nonneg a0 (show (50 : Int) ≠ 0 by omega)
  generalize hN : a0 % 50 = s at *
  have c0 := Int.emod_lt_of_pos a1 (show (0 : Int) < 1 + s + 1 by omega)
  have c1 := Int.emod_nonneg a1 (show (1 + s + 1 : Int) ≠ 0 by omega)
  have d0 := Int.emod_lt_of_pos a2 (show (0 : Int) < 1 + s + 1 by omega)
  have d1 := Int.emod_nonneg a2 (show (1 + s + 1 : Int) ≠ 0 by omega)
  generalize hb : a1 % (1 + s + 1) = b at *
  generalize hn : a2 % (1 + s + 1) = n at *
  have e0 := Int.emod_lt_of_pos a3 (show (0 : Int) < n + 1 by omega)
  have e1 := Int.emod_nonneg a3 (show (n + 1 : Int) ≠ 0 by omega)
  generalize hA : a3 % (n + 1) = A at *
  refine ⟨b.toNat, (1 + s - b).toNat, n.toNat, A.toNat, by omega, by omega, ?_, ?_, ?_⟩
  · rw [arAdd (by omega), rem_pos r1.1, show (((b.toNat + (1 + s - b).toNat : Nat) : Int) + 1) = 1 + s + 1 by omega, hb]; omega
  · rw [arAdd (by omega), rem_pos r2.1, show (((b.toNat + (1 + s - b).toNat : Nat) : Int) + 1) = 1 + s + 1 by omega, hn]; omega
  · rw [arAdd (by omega), rem_pos r3.1, show ((n.toNat : Int) + 1) = n + 1 by omega, hA]; omega

/-- What is known of a lot's chance. -/
theorem lca_low {b m n A : Nat} (h1 : 1 ≤ b + m) (hN : b + m ≤ 50) (hn : n ≤ b + m) (hA : A ≤ n) : ∃ p q : Int, AF.fin (lcaA ((b + m : Nat) : Int) b n A) = true ∧ AF.val (lcaA ((b + m : Nat) : Int) b n A) = (p, q, 0) ∧ Low (psum b m n (A + 1)) (bin (b + m) n) p q ∧ q ≤ 562949953421312 := by
  obtain ⟨f, v⟩ := lca_ok h1 hN hn hA
  have l := low_ok (psum_le b m n (A + 1)) (bin_pos _ _ hn)
  have bl := bin_le (k := n) hN
  exact ⟨_, _, f, v, l, by have := l.qy; omega⟩

theorem llo_run (a0 a1 a2 a3 : Int) (r0 : 0 ≤ a0 ∧ a0 ≤ 255) (r1 : 0 ≤ a1 ∧ a1 ≤ 255) (r2 : 0 ≤ a2 ∧ a2 ≤ 255) (r3 : 0 ≤ a3 ∧ a3 ≤ 255) : ∃ k v, (lloA a0 a1 a2 a3).run k = some v ∧ v = true :=
  AF.run_sat (Inv := fun _ => False) (fun _ => 0) (E := fun (v : lloR) => v = true) (fun _ => rfl) (fun a => nomatch a) (by
    obtain ⟨b, m, n, A, ⟨h1, h2, h3, h4⟩, eN, eb, en, eA⟩ := odds_args r0 r1 r2 r3
    obtain ⟨p, q, f0, v0, l0, q0⟩ := lca_low h1 h2 h3 h4
    obtain ⟨p3, q3, f3, v3, l3, _⟩ := lca_low h1 h2 h3 (Nat.le_refl n)
    have o0 := psum_one (A := A) h3
    have z0 := psum_nil (A := A) h3 h4
    have o3 : psum b m n (n + 1) = bin (b + m) n := psum_all b m n
    have w0 := l0.one; have w1 := l0.nil; have w3 := l3.one.2 o3
    have i0 := l0.p0; have i1 := l0.pq; have i2 := l0.q1
    have bp := bin_pos _ _ h3
    obtain ⟨rfl, rfl⟩ := w3
    have t1 : Ar.run Ar.add IntKind.i64 ((b + m : Nat) : Int) 1 = ((b + m : Nat) : Int) + 1 := arAdd (by omega)
    have t2 : Ar.run Ar.add IntKind.i64 (n : Int) 1 = (n : Int) + 1 := arAdd (by omega)
    have t3 : Ar.run Ar.sub IntKind.i64 ((b + m : Nat) : Int) (b : Int) = (m : Int) := by rw [arSub (by omega)]; omega
    have t4 : Ar.run Ar.sub IntKind.i64 (n : Int) (m : Int) = (n : Int) - m := arSub (by omega)
    have t5 : Ar.run Ar.mn IntKind.i64 (b : Int) (n : Int) = ((min b n : Nat) : Int) := by rw [arMn]; omega
    have t6 : Ar.run Ar.add IntKind.i64 (b : Int) 1 = ((b + 1 : Nat) : Int) := by rw [arAdd (by omega)]; omega
    have t7 : Ar.run Ar.add IntKind.i64 (A : Int) 1 = ((A + 1 : Nat) : Int) := by rw [arAdd (by omega)]; omega
    have s1 : Cm.run .neq (((b + m : Nat) : Int) + 1) 0 = true := cmNeq.2 (by omega)
    have s2 : Cm.run .neq ((n : Int) + 1) 0 = true := cmNeq.2 (by omega)
    have s3 : Cm.run .neq 0 0 = false := rfl
    have s4 : Cm.run .eql 0 0 = true := rfl
    have s5 : Cm.run .eql 1 1 = true := rfl
    have s6 : Cm.run .lss q 1 = false := cmLssF.2 (by omega)
    have s7 : Cm.run .lss p 0 = false := cmLssF.2 (by omega)
    have s8 : Cm.run .gtr p q = false := cmGtrF.2 (by omega)
    show DD.sat _ _ (lloD0 a0 a1 a2 a3)
    unfold lloD0
    simp only [eN, eb, en, eA]
    by_cases hm : 0 < m
    · obtain ⟨p1, q1, f1, v1, l1, q1'⟩ := lca_low (b := b + 1) (m := m - 1) (n := n) (A := A) (by omega) (by omega) (by omega) h4
      rw [show b + 1 + (m - 1) = b + m by omega] at f1 v1 l1
      have c1 : psum (b + 1) (m - 1) n (A + 1) ≤ psum b m n (A + 1) := by
        have := psum_worse b (m - 1) n A
        rwa [show m - 1 + 1 = m by omega] at this
      have x1 := l1.p0; have x2 := l1.pq; have x3 := l1.q1
      obtain ⟨g1, u1⟩ := lle_ok (a0 := p1) (a1 := q1) (a2 := p) (a3 := q) (by omega) (by omega) (by omega) (by omega)
      have u1 := u1.2 (l1.le l0 (by omega) c1)
      have k1 : Cm.run .lss (b : Int) ((b + m : Nat) : Int) = true := cmLss.2 (by omega)
      by_cases hA : A < n
      · obtain ⟨p2, q2, f2, v2, l2, q2'⟩ := lca_low (b := b) (m := m) (n := n) (A := A + 1) h1 h2 h3 (by omega)
        have c2 : psum b m n (A + 1) ≤ psum b m n (A + 1 + 1) := psum_mono b m n (by omega)
        have y1 := l2.p0; have y2 := l2.pq; have y3 := l2.q1
        obtain ⟨g2, u2⟩ := lle_ok (a0 := p) (a1 := q) (a2 := p2) (a3 := q2) (by omega) (by omega) (by omega) (by omega)
        have u2 := u2.2 (l0.le l2 (by omega) c2)
        have k2 : Cm.run .lss (A : Int) (n : Int) = true := cmLss.2 (by omega)
        simp only [t1, t2, t3, t4, t5, t6, t7, s1, s2, f0, v0, f1, v1, f2, v2, f3, v3, g1, u1, g2, u2, k1, k2, s3, s4, s5, s6, s7, s8, DD.sat, Bool.not_true, Bool.false_eq_true, false_imp_iff, true_and, and_true, forall_const, Bool.true_eq_false, reduceCtorEq, cmEql, cmEqlF, cmLeq, cmLeqF, cmGtr, cmGtrF]
        repeat' (first | (intro _) | (apply And.intro))
        all_goals (first | trivial | omega)
      · have k2 : Cm.run .lss (A : Int) (n : Int) = false := cmLssF.2 (by omega)
        simp only [t1, t2, t3, t4, t5, t6, t7, s1, s2, f0, v0, f1, v1, f3, v3, g1, u1, k1, k2, s3, s4, s5, s6, s7, s8, DD.sat, Bool.not_true, Bool.false_eq_true, false_imp_iff, true_and, and_true, forall_const, Bool.true_eq_false, reduceCtorEq, cmEql, cmEqlF, cmLeq, cmLeqF, cmGtr, cmGtrF]
        repeat' (first | (intro _) | (apply And.intro))
        all_goals (first | trivial | omega)
    · have k1 : Cm.run .lss (b : Int) ((b + m : Nat) : Int) = false := cmLssF.2 (by omega)
      by_cases hA : A < n
      · obtain ⟨p2, q2, f2, v2, l2, q2'⟩ := lca_low (b := b) (m := m) (n := n) (A := A + 1) h1 h2 h3 (by omega)
        have c2 : psum b m n (A + 1) ≤ psum b m n (A + 1 + 1) := psum_mono b m n (by omega)
        have y1 := l2.p0; have y2 := l2.pq; have y3 := l2.q1
        obtain ⟨g2, u2⟩ := lle_ok (a0 := p) (a1 := q) (a2 := p2) (a3 := q2) (by omega) (by omega) (by omega) (by omega)
        have u2 := u2.2 (l0.le l2 (by omega) c2)
        have k2 : Cm.run .lss (A : Int) (n : Int) = true := cmLss.2 (by omega)
        simp only [t1, t2, t3, t4, t5, t6, t7, s1, s2, f0, v0, f2, v2, f3, v3, g2, u2, k1, k2, s3, s4, s5, s6, s7, s8, DD.sat, Bool.not_true, Bool.false_eq_true, false_imp_iff, true_and, and_true, forall_const, Bool.true_eq_false, reduceCtorEq, cmEql, cmEqlF, cmLeq, cmLeqF, cmGtr, cmGtrF]
        repeat' (first | (intro _) | (apply And.intro))
        all_goals (first | trivial | omega)
      · have k2 : Cm.run .lss (A : Int) (n : Int) = false := cmLssF.2 (by omega)
        simp only [t1, t2, t3, t4, t5, t6, t7, s1, s2, f0, v0, f3, v3, k1, k2, s3, s4, s5, s6, s7, s8, DD.sat, Bool.not_true, Bool.false_eq_true, false_imp_iff, true_and, and_true, forall_const, Bool.true_eq_false, reduceCtorEq, cmEql, cmEqlF, cmLeq, cmLeqF, cmGtr, cmGtrF]
        repeat' (first | (intro _) | (apply And.intro))
        all_goals (first | trivial | omega))
end Go.Proofs.YtpojncoplaopcaaDoor.Cx

/- ARGUMENTS THAT ARE SLICES: opened as lists; the memory in which they lie as blocks that are read alone; a law's contract as its statement's walk. -/
namespace Go.Proofs.YtpojncoplaopcaaDoor.Cx
set_option linter.unusedSimpArgs false
set_option linter.unusedVariables false
open Go Go.RowKit Go.ChangeShapes Go.WideShapes Go.Deep Go.Proofs.YtpojncoplaopcaaDoor

/-! ## Such slices as blocks -/

section
variable {P : Program} {ρ : Env}

/-- Where a slice's rows lie. -/
noncomputable def locOf (w : World) (v : Value) (z : Nat) : Option Loc :=
  match v with
  | .slice (some a) (_ + 1) _ => match w.heap[a.block]? with
    | some (.cells c _ _) => some ⟨a.block, a.off, c.size, z⟩
    | _ => none
  | _ => none

theorem rows_rel {α : Type} {en : α → List Value} {ec : α → List CV} {d : α} (he : ∀ σ x, VRl ρ σ (ec x) (en x)) (σ : Mp) : ∀ (xs : List α) (n : Nat), n ≤ xs.length → VRl ρ σ (flatR (fun j => ec (xs.getD j d)) n) ((xs.take n).flatMap en)
  | xs, 0, _ => by simpa [flatR] using VRl.nil
  | xs, n + 1, h => by
    have ih := rows_rel (d := d) he σ xs n (by omega)
    rw [flatR, List.take_add_one, List.flatMap_append]
    refine ih.append ?_
    have hn : n < xs.length := by omega
    rw [List.getElem?_eq_getElem hn, List.getD_eq_getElem?_getD, List.getElem?_eq_getElem hn]
    simpa using he σ xs[n]

theorem SlR.rel {α : Type} {en : α → List Value} {ec : α → List CV} {d : α} {z : Nat} {w : World} {v : Value} {xs : List α} {σ : Mp} {b : Nat} (h : SlR en z w v xs) (hz : ∀ x, (en x).length = z) (he : ∀ σ x, VRl ρ σ (ec x) (en x))
    (hk : ∀ j, (ec (xs.getD j d)).length = z ∧ (ec (xs.getD j d)).all CV.flat = true) (hσ : σ b = locOf w v z) :
    VR ρ σ (.sla b z 0 xs.length) v ∧ ArgAt ρ w ⟨.arg xs.length z (fun j => ec (xs.getD j d)) hk, z, true, none⟩ (σ b) := by
  obtain ⟨a, cap, rfl, hcap, _, hx⟩ := h
  have hcl : Blk.cells ⟨.arg xs.length z (fun j => ec (xs.getD j d)) hk, z, true, none⟩ = flatR (fun j => ec (xs.getD j d)) xs.length := rfl
  have hlen := flatR_length (fun j => (hk j).1) xs.length
  rcases hx with rfl | ⟨bl, off, c, t, p, rfl, hh, hsz, hrow⟩
  · refine ⟨.sla0 _ _, rfl, rfl, rfl, fun l hl => ?_⟩
    rw [hσ] at hl
    simp [locOf] at hl
  · cases xs with
    | nil =>
      refine ⟨.sla0 _ _, rfl, rfl, rfl, fun l hl => ?_⟩
      rw [hσ] at hl
      simp [locOf] at hl
    | cons x xs =>
      have hlo : locOf w (.slice (some ⟨bl, off, none⟩) (x :: xs).length cap) z = some ⟨bl, off, c.size, z⟩ := by
        simp [locOf, hh]
      rw [hlo] at hσ
      refine ⟨?_, rfl, rfl, rfl, fun l hl => ?_⟩
      · have := VR.sla (ρ := ρ) (σ := σ) (b := b) (z := z) (o := 0) (n := (x :: xs).length) (c' := cap) hσ hcap
        simpa using this
      · rw [hσ] at hl
        obtain rfl := Option.some.inj hl
        refine ⟨c, t, p, hh, rfl, rfl, by rw [hcl, hlen]; exact hsz, fun τ => ?_⟩
        rw [hcl, hlen, hrow]
        have := rows_rel (ρ := ρ) (d := d) he τ (x :: xs) (x :: xs).length (Nat.le_refl _)
        rwa [List.take_of_length_le (Nat.le_refl _)] at this

/-- A law's contract, as its statement's walk. -/
theorem Ctr.law {f : Nat} {args : List CV} {h0 h1 : Tr Blk} {base n1 : Nat} {e : BE} {w : World} {σ : Mp} {args' : Array Value} (K : Ctr P ρ f args h0 base [] (.bool e) h1 n1) (he : e.den ρ = true) (ha : VRl ρ σ args args'.toList) (hH : HR ρ σ (curOf h0 base) w) (hN : ∀ b, base ≤ b → σ b = none) :
    Calls P f args' w fun e w' => e = .returned (.bool true) ∧ Below w.heap.size w w' := by
  refine ((K.run 0 σ w args' ha hH hN).calls (fun k d h => by cases h)).mono ?_
  rintro e' w' ⟨v, rfl, σ', h1, h2, h3, h4, h5⟩
  cases h2
  refine ⟨by rw [he], h4.os, h4.tape, h4.output, h4.size, fun k hk => h4.block k hk (fun b hb l hl => ?_)⟩
  rcases hb with hb | hb
  · cases hb
  · rw [hN b hb] at hl; cases hl

end
end Go.Proofs.YtpojncoplaopcaaDoor.Cx

/- What the rows' premise on package-level variables says of memory. Made by tools/gen_laid.py. -/
namespace Go.Proofs.YtpojncoplaopcaaDoor
set_option linter.unusedVariables false
set_option maxRecDepth 100000
open Go.ChangeShapes Go.WideShapes Go.ChangeAt Go.RowKit

theorem arr_cells {H : Type} {enc : TypeId × Value → H} {P : Program} {w : World} {sp : Nat → Bool} {held : Bool} {fuel n : Nat} {t e : TypeId} {cs : List Value} {ks : List Int} {k : IntKind} {p : List MemPlace} (ht : P.underlying t = some (.array n e)) (he : P.underlying e = some (.int k)) (hc : P.cellsOf e = 1) (hn : ks.length = n) (hcs : P.cellsOf t = n)
    (h : DataW.trod enc P w 0 sp held fuel t cs = some (.agg (ks.map fun x => .lit (.int k x)), p)) : cs = ks.map fun x => .int k x := by
  obtain ⟨xs, m, rfl, hx, hl, hlen, hel⟩ := DataW.trod_array ht h
  simp only [Prod.mk.injEq, DataW.agg.injEq] at hx
  apply List.ext_getElem?
  intro i
  by_cases hi : i < n
  · have h1 := hel i hi
    rw [hc, Nat.mul_one, List.getElem?_eq_getElem (by omega)] at h1
    obtain ⟨v, e1, e2, _⟩ := DataW.trod_int he h1
    have h2 : (xs.map (·.1))[i]? = (ks.map fun x => DataW.lit (.int k x))[i]? := by rw [hx.1]
    rw [List.getElem?_map, List.getElem?_map, List.getElem?_eq_getElem (show i < xs.length by omega), List.getElem?_eq_getElem (show i < ks.length by omega), e2] at h2
    simp only [Option.map_some, Option.some.injEq, DataW.lit.injEq, Lit.int.injEq, true_and] at h2
    have h3 : (((cs.drop i).take 1))[0]? = some (.int k v) := by rw [e1]; rfl
    rw [List.getElem?_take_of_lt (by decide), List.getElem?_drop, Nat.add_zero] at h3
    rw [h3, List.getElem?_map, List.getElem?_eq_getElem (show i < ks.length by omega), h2]
    rfl
  · rw [List.getElem?_eq_none (by omega), List.getElem?_eq_none (by simp; omega)]

theorem laid_cell {P : Program} {w : World} {nm : String} {g : Nat} {cs : Array Value} {vs : List Value} (hg : P.globalNamed nm = some g) (hv : w.var? P nm = some cs) (hcs : cs.toList = vs) (hf : ∃ c t, w.heap[g]? = some (.cells c t (0, 0))) : ∃ t, w.heap[g]? = some (.cells vs.toArray t (0, 0)) := by
  obtain ⟨c, t, h⟩ := hf
  simp only [World.var?, hg, Option.bind_some, h, Option.some.injEq] at hv
  subst hv
  rw [← hcs]
  exact ⟨t, h⟩

theorem place_here {g n : Nat} (h : 0 < n) : MemPlace.cell g 0 ∈ MemPlace.row ⟨g, 0, none⟩ n := List.mem_map.2 ⟨0, List.mem_range.2 h, rfl⟩

def lk0 : List Int := [0, 1, 28, 2, 29, 14, 24, 3, 30, 22, 20, 15, 25, 17, 4, 8, 31, 27, 13, 23, 21, 19, 16, 7, 26, 12, 18, 6, 11, 5, 10, 9]
theorem lg0 : Tryd.prog.globalNamed "math/bits.deBruijn32tab" = some 0 := by kernel_rfl
theorem lt0 : (Tryd.prog.globals[0]?).map (·.type) = some 147 := by kernel_rfl
theorem ld0 {H : Type} : (Rows.laid_math_bits_deBruijn32tab : DataW H) = .agg (lk0.map fun x => .lit (.int .u8 x)) := by rfl

def lk1 : List Int := [0, 1, 56, 2, 57, 49, 28, 3, 61, 58, 42, 50, 38, 29, 17, 4, 62, 47, 59, 36, 45, 43, 51, 22, 53, 39, 33, 30, 24, 18, 12, 5, 63, 55, 48, 27, 60, 41, 37, 16, 46, 35, 44, 21, 52, 32, 23, 11, 54, 26, 40, 15, 34, 20, 31, 10, 25, 14, 19, 9, 13, 8, 7, 6]
theorem lg1 : Tryd.prog.globalNamed "math/bits.deBruijn64tab" = some 1 := by kernel_rfl
theorem lt1 : (Tryd.prog.globals[1]?).map (·.type) = some 148 := by kernel_rfl
theorem ld1 {H : Type} : (Rows.laid_math_bits_deBruijn64tab : DataW H) = .agg (lk1.map fun x => .lit (.int .u8 x)) := by rfl

abbrev laidL : List (String × DataW Unit) := [("math/bits.deBruijn32tab", Rows.laid_math_bits_deBruijn32tab), ("math/bits.deBruijn64tab", Rows.laid_math_bits_deBruijn64tab)]

/-- The program's own start meets it. -/
theorem door_met (os : Os) (args : Array Value) : laidMetH Tryd.prog laidL ((World.doorLaid Tryd.prog 400 os).forCall (fun _ _ => 0) ⟨#[], args, []⟩).memory :=
  laidMetH_of_parts3 (fuel := 8) (laidMet_of_run' 8 (by kernel_rfl) (by kernel_rfl)) (by kernel_rfl) (by kernel_rfl)

theorem of_laid {W : World} (h : laidMetH Tryd.prog laidL W) : Cx.Laid W := by
  rw [MakeChecks.laidMetH_plain _ _ _ (by kernel_rfl)] at h
  obtain ⟨ps, ⟨g0, t0, cs0, fu0, p0, q0, hg0, ht0, hv0, hd0, ⟨g1, t1, cs1, fu1, p1, q1, hg1, ht1, hv1, hd1, hr, e1⟩, e0⟩, _, hc⟩ := h
  obtain rfl := Option.some.inj (lg0.symm.trans hg0)
  obtain rfl := Option.some.inj (lt0.symm.trans ht0)
  have c0 := arr_cells (ks := lk0) Tryd.underlying147 Tryd.underlying5 (by kernel_rfl) (by rfl) (by kernel_rfl) (hd0.trans (by rw [ld0]))
  have s0 : 0 < cs0.size := by have := congrArg List.length c0; rw [Array.length_toList, List.length_map] at this; rw [this]; decide
  obtain rfl := Option.some.inj (lg1.symm.trans hg1)
  obtain rfl := Option.some.inj (lt1.symm.trans ht1)
  have c1 := arr_cells (ks := lk1) Tryd.underlying148 Tryd.underlying5 (by kernel_rfl) (by rfl) (by kernel_rfl) (hd1.trans (by rw [ld1]))
  have s1 : 0 < cs1.size := by have := congrArg List.length c1; rw [Array.length_toList, List.length_map] at this; rw [this]; decide
  intro x hx
  rcases List.mem_cons.1 hx with rfl | hx
  · exact laid_cell lg0 hv0 c0 (hc 0 0 (by rw [e0]; exact List.mem_append_left _ (List.mem_append_left _ (place_here s0)))).1
  rcases List.mem_cons.1 hx with rfl | hx
  · exact laid_cell lg1 hv1 c1 (hc 1 0 (by rw [e0]; exact List.mem_append_right _ (by rw [e1]; exact List.mem_append_left _ (List.mem_append_left _ (place_here s1))))).1
  cases hx

end Go.Proofs.YtpojncoplaopcaaDoor

/- LotOdds holds, for all inputs: by its automaton. Made by tools/cxlaw.py. -/
namespace Go.Proofs.YtpojncoplaopcaaDoor
set_option linter.unusedVariables false
set_option linter.unusedSimpArgs false
open Go.ChangeShapes Go.WideShapes Go.ChangeAt Go.RowKit
open Cx (Env IE BE DT KnownB)

set_option maxRecDepth 100000 in
theorem lodds_open0 {H : Type} {enc : TypeId × Value → H} {w : World} {base : Nat} {spare : Nat → Bool} {held : Bool} {r : Reach} {b0 : Nat} {vv : Value} {d : DataW H} {p : List MemPlace} (hval : Value.okWide Tryd.prog w r b0 47 vv) (h : DataW.Trod enc Tryd.prog w base spare held 47 vv d p) :
    ∃ (x0 : Int) (x1 : Int) (x2 : Int) (x3 : Int), vv = .agg #[.int .u8 x0, .int .u8 x1, .int .u8 x2, .int .u8 x3] ∧ (Lit.int .u8 x0).wf = true ∧ (Lit.int .u8 x1).wf = true ∧ (Lit.int .u8 x2).wf = true ∧ (Lit.int .u8 x3).wf = true := by
  obtain ⟨cs, rfl, hsz⟩ := okWide_arr Tryd.underlying47 hval
  obtain ⟨l⟩ := cs
  obtain ⟨fuel, hf⟩ := h
  have hl : l.length = 4 := hsz.trans (by kernel_rfl)
  obtain ⟨n0, y0, t0⟩ := trodE Tryd.underlying47 hf 0 (by decide) (o := 0) (c := 1) (by kernel_rfl) rfl
  obtain ⟨x0, g0, w0⟩ := leafI Tryd.underlying5 t0
  obtain ⟨n1, y1, t1⟩ := trodE Tryd.underlying47 hf 1 (by decide) (o := 1) (c := 1) (by kernel_rfl) rfl
  obtain ⟨x1, g1, w1⟩ := leafI Tryd.underlying5 t1
  obtain ⟨n2, y2, t2⟩ := trodE Tryd.underlying47 hf 2 (by decide) (o := 2) (c := 1) (by kernel_rfl) rfl
  obtain ⟨x2, g2, w2⟩ := leafI Tryd.underlying5 t2
  obtain ⟨n3, y3, t3⟩ := trodE Tryd.underlying47 hf 3 (by decide) (o := 3) (c := 1) (by kernel_rfl) rfl
  obtain ⟨x3, g3, w3⟩ := leafI Tryd.underlying5 t3
  refine ⟨x0, x1, x2, x3, ?_, w0, w1, w2, w3⟩
  clear hval hsz hf t0 t1 t2 t3
  match l, hl with
  | [k0, k1, k2, k3], _ =>
    simp [Value.cells] at g0 g1 g2 g3
    subst g0 g1 g2 g3
    rfl

theorem lodds_walk (x0 : Int) (x1 : Int) (x2 : Int) (x3 : Int) (w : World) (hLw : Cx.Laid w) (wx0 : (Lit.int .u8 x0).wf = true) (wx1 : (Lit.int .u8 x1).wf = true) (wx2 : (Lit.int .u8 x2).wf = true) (wx3 : (Lit.int .u8 x3).wf = true) :
    Calls Tryd.prog 4 #[.agg #[.int .u8 x0, .int .u8 x1, .int .u8 x2, .int .u8 x3]] w fun e w' => e = .returned (.bool true) ∧ Below w.heap.size w w' := by
  obtain ⟨n, v, hv, hp⟩ := Cx.llo_run x0 x1 x2 x3 (rng_u8 wx0) (rng_u8 wx1) (rng_u8 wx2) (rng_u8 wx3)
  exact Cx.Ctr.law (ρ := ⟨fun _ => 0, fun _ => false⟩) (σ := fun _ => none) (e := .x v) (Cx.lloctr x0 x1 x2 x3 Cx.llomem hv) hp (.cons (.agg (.cons (.int .u8 (.x x0)) (.cons (.int .u8 (.x x1)) (.cons (.int .u8 (.x x2)) (.cons (.int .u8 (.x x3)) .nil))))) .nil) ⟨fun _ _ _ _ _ h => (by cases h), fun _ _ _ _ _ _ _ _ h => (by cases h), fun _ _ _ _ _ _ h => (by cases h), fun _ _ _ _ _ _ _ _ _ _ h => (by cases h), fun y hy => ⟨hLw y hy, fun _ _ _ h => (by cases h)⟩⟩ (fun _ _ => rfl)

theorem lodds_own : ownKnob Tryd.prog.godebug = none := by kernel_rfl
theorem lodds_laidOut : laidOutB Tryd.prog = true := by kernel_rfl

set_option maxRecDepth 100000 in
theorem lodds_lifted (os : Os) (started : os.Started) (H : Type) (enc : TypeId × Value → H) :
    ReturnsInHanded {} Tryd.checked os 4 .any (fun w args => (Rows.lotOddsSpec.pre enc Tryd.prog Tryd.f4 [] false w args ∧ laidMetH Tryd.prog laidL w) ∧ sizedMet enc Tryd.prog Tryd.f4 (OpenSpec.ofChange Rows.lotOddsSpec) false w args)
      (Rows.lotOddsSpec.post enc Tryd.prog Tryd.f4 false true false false) := by
  refine returnsInHanded_of_change_and (C := Tryd.checked) (X := fun w _ => laidMetH Tryd.prog laidL w) (fun _ _ _ hh h => h.of_heap hh) lodds_own started (by kernel_rfl) Tryd.func4
    (ChangeSpec.witness_shaped (enc := enc) (C := Tryd.checked) (os := os) (X := fun w _ => laidMetH Tryd.prog laidL w) false (World.doorLaid Tryd.prog 400 os) #[.agg #[.int .u8 0, .int .u8 0, .int .u8 0, .int .u8 0]] 8 rfl (World.shaped_of_RefB (by kernel_rfl) (by kernel_rfl)) (by kernel_rfl) (by kernel_rfl) (by kernel_rfl) (door_met os _)) ?_
  intro W base args ds gs before hval0 hW _ _ hLd _
  have hval : ∀ (j : Nat) t v, Tryd.f4.params[j]? = some t → args[j]? = some v → Value.okWide Tryd.prog W .any base t v := hval0
  have hW' := hW
  obtain ⟨p, q, hA0, hV, rfl, hfz, hnd⟩ := hW
  have hA : DataW.TrodAll enc Tryd.prog W 0 (fun _ => true) true Tryd.f4.params.toList args.toList ds p := hA0
  rw [Tryd.params4] at hA hval
  obtain ⟨v0, vs0, d0, ds0, p0, q0, hargs, rfl, rfl, h0, r0⟩ := trodAll_cons hA
  obtain ⟨rfl, rfl, rfl⟩ := trodAll_nil r0
  obtain rfl : args = #[v0] := by cases args; simp_all
  obtain ⟨rfl, rfl⟩ := trodVars_none hV
  have k0 := h0
  have lt0 : ∀ x ∈ p0, x.block < W.heap.size := by obtain ⟨m, hm⟩ := k0; exact DataW.trod_lt m _ _ _ hm
  obtain ⟨x0, x1, x2, x3, rfl, wx0, wx1, wx2, wx3⟩ := lodds_open0 (hval 0 47 v0 rfl rfl) h0
  clear hA0 hval0
  refine (lodds_walk x0 x1 x2 x3 W (of_laid hLd) wx0 wx1 wx2 wx3).mono fun e W' ⟨he, bel⟩ => ?_
  subst he
  exact ⟨_, rfl, _, _, _, [], _, [], hW', trodAll_mk1 (shut_bool Tryd.underlying4 _), (trodAll_cons_mk (Below.trod lodds_laidOut (by kernel_rfl) (of_decide_eq_true (by kernel_rfl)) k0 bel lt0) trodAll_mk0), rfl, bel.frame _, fun h => by cases h⟩

theorem lodds_over : Rows.lotOddsRow.holds Tryd.pinned (OpenSpec.ofChange Rows.lotOddsSpec) :=
  OpenClaim.holds_of_wide 4 Tryd.f4 rfl rfl rfl rfl rfl rfl rfl ⟨rfl, rfl, rfl, rfl, rfl⟩ rfl rfl rfl rfl rfl (by kernel_rfl) Tryd.func4 (by kernel_rfl)
    (of_decide_eq_true (by kernel_rfl)) (by unfold Func.isWrapper; rw [if_neg (of_decide_eq_false (by kernel_rfl))]; exact ⟨rfl, rfl⟩)
    (fun os started H enc _ => lodds_lifted os started H enc)

theorem lodds_proved : Rows.LotOddsCardSaid :=
  Claim7.holds_tied_plain_at .later [] [.data, .data] true (true, "52739f66c1efddf15e985fdf60a27055599c35910d891fd34423f67e856a23b7") false
    lodds_over (fun _ h => by cases h) (by kernel_rfl) (fun _ h => by cases h) lotOdds_row_tie rfl ⟨rfl, rfl⟩ (by kernel_rfl) rfl
    (fun f fn hf hfn => by
      obtain rfl : f = 4 := Option.some.inj ((show Tryd.prog.funcNamed "acme/acmelaw11.LotOdds" = some 4 by kernel_rfl).symm.trans hf) |>.symm
      obtain rfl : fn = Tryd.f4 := (Option.some.inj (Tryd.func4.symm.trans hfn)).symm
      exact ⟨by kernel_rfl, fun j t ht => by
        rw [Tryd.params4] at ht
        have hm : t ∈ [47] := by simpa using Array.mem_of_getElem? ht
        have hall : ([47].all fun u => !Tryd.prog.wantsStandIn u) = true := by kernel_rfl
        exact (show Tryd.prog.wantsStandIn t = false by simpa using List.all_eq_true.1 hall t hm)⟩)
    (by kernel_rfl)
#print axioms lodds_proved

end Go.Proofs.YtpojncoplaopcaaDoor
