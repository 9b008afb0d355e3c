/- acmelaw02.same at a copy. Made by tools/gen_zsame.py. -/
import Derived.Test.YtpmeahmjmpgbfaaZTCopy
import Derived.LoopNIn
namespace Go.Proofs.Ytpmeahmjmpgbfaa
open Go.ChangeShapes Go.WideShapes Go.ChangeAt Go.RowKit
set_option linter.unusedVariables false
set_option linter.unusedSimpArgs false

theorem row_i {w : World} {ls : List (List Int)} {a : Option Addr} {k : Nat} {r : List Int} (h : SlA IntsAt w a ls) (hx : ls[k]? = some r) :
    ∃ b off ra rc, a = some ⟨b, off, none⟩ ∧ b < w.heap.size ∧ w.cell? ⟨b, off + k, none⟩ = some (.slice ra r.length rc) ∧ r.length ≤ 4611686018427387904 ∧ SlA IntE w ra r := by
  rcases h with h0 | ⟨b, off, ha, hb, hc⟩
  · subst h0; simp at hx
  · obtain ⟨u, hu, ra, rc, rfl, hm, hs⟩ := hc k _ hx
    exact ⟨b, off, ra, rc, ha, hb, hu, hm, hs⟩

set_option maxRecDepth 100000 in
set_option maxHeartbeats 8000000 in
theorem same_any (ss : List Int) (gs ps : List (List Int)) (sa ga pa sb gb pb : Option Addr) (sc gc pc sd gd pd : Nat) (w : World) (m1 : ss.length ≤ 4611686018427387904) (m2 : gs.length ≤ 4611686018427387904) (m3 : ps.length ≤ 4611686018427387904)
    (hs : SlA IntE w sa ss) (hg : SlA IntsAt w ga gs) (hp : SlA IntsAt w pa ps) (hs2 : SlA IntE w sb ss) (hg2 : SlA IntsAt w gb gs) (hp2 : SlA IntsAt w pb ps) :
    Calls Try.prog 33 #[.agg #[.slice sa ss.length sc, .slice ga gs.length gc, .slice pa ps.length pc], .agg #[.slice sb ss.length sd, .slice gb gs.length gd, .slice pb ps.length pd]] w fun e w' => e = .returned (.bool true) ∧ Below w.heap.size w w' := by
  have HG := Lib.hid hg
  have HG2 := Lib.hid hg2
  have HP := Lib.hid hp
  have HP2 := Lib.hid hp2
  clear hg hg2 hp hp2
  go_enter Try.func33, Try.ntmps33
  go_wp2_with fail
  refine (equal_same ss sa sb sc sd _ m1 (hs.below intE_stable (by go_grown)) (hs2.below intE_stable (by go_grown))).mono ?_
  rintro e w1 ⟨rfl, hb1⟩
  have Xb2_1 : Box w1 w.heap.size #[.slice sa ss.length sc, .slice ga gs.length gc, .slice pa ps.length pc] := Box.below (Box.alloc (Box.new w _ _) _) hb1
  have Xb3_1 : Box w1 (w.heap.size + 1) #[.slice sb ss.length sd, .slice gb gs.length gd, .slice pb ps.length pd] := Box.below (Box.newAt (w.alloc _) _ _ (by simp)) hb1
  have hB1 : Below w.heap.size w w1 := stepB (by go_grown) hb1
  have hs1 := hB1.size
  clear hb1
  have cc2 := Xb2_1.2.1
  have ll2 := Xb2_1.1
  have cc3 := Xb3_1.2.1
  have ll3 := Xb3_1.1
  have lm3_0 : w.heap.size < w1.heap.size := by have := ll3; omega
  go_wp2
  go_loopw [5] (fun i wr => ∃ k : Nat, k ≤ gs.length ∧ i = .int .i64 k ∧ Box wr w.heap.size #[.slice sa ss.length sc, .slice ga gs.length gc, .slice pa ps.length pc] ∧ Box wr (w.heap.size + 1) #[.slice sb ss.length sd, .slice gb gs.length gd, .slice pb ps.length pd] ∧ Below w.heap.size w wr) (fun i _ => gs.length - (intOf i).toNat)
  case atStart => exact ⟨0, Nat.zero_le _, rfl, Xb2_1, Xb3_1, by go_grown⟩
  case round =>
    clear Xb2_1 Xb3_1 cc2 ll2 cc3 ll3 lm3_0 hB1 hs1
    obtain ⟨k, hk, rfl, X2, X3, hBr⟩ := hrel
    have hsr := hBr.size
    have HBr := Lib.hid hBr
    by_cases hlt : k < gs.length
    · have hx : gs[k]? = some gs[k] := List.getElem?_eq_getElem hlt
      obtain ⟨r, hr⟩ : ∃ r, gs[k] = r := ⟨_, rfl⟩
      rw [hr] at hx
      obtain ⟨b, off, ra, rc, ha, hb, hcu, hrm, hra⟩ := row_i HG.out hx
      obtain ⟨d, of2, rb, rd, hb', hd, hcv, -, hrb⟩ := row_i HG2.out hx
      have HEQ := Lib.hid (fun (W : World) (hW : Below wr.heap.size wr W) => equal_same r ra rb rc rd W hrm ((hra.below intE_stable hBr).below intE_stable hW) ((hrb.below intE_stable hBr).below intE_stable hW))
      clear hx hr hra hrb
      subst ha
      subst hb'
      have cc2 := X2.2.1
      have ll2 := X2.1
      go_wp2
      have Yb2 : Box wr w.heap.size #[.slice sa ss.length sc, .slice (some ⟨b, off, none⟩) gs.length gc, .slice pa ps.length pc] := X2
      have Yb3 : Box wr (w.heap.size + 1) #[.slice sb ss.length sd, .slice (some ⟨d, of2, none⟩) gs.length gd, .slice pb ps.length pd] := X3
      have hBX : Below w.heap.size w wr := by go_grown
      clear hBr hsr X2 X3 cc2 ll2
      have hsX := hBX.size
      have rd2 := fun dz os => (Yb2.regrown dz os).2.1
      have rd3 := fun dz os => (Yb3.regrown dz os).2.1
      have kc48 := fun dz os => (HEQ.out (Go.Sort.grow (redrawn wr dz) os) (below_regrown wr dz os)).regrown_of
      have Zb2 := Lib.hid Yb2
      have Zb3 := Lib.hid Yb3
      clear Yb2 Yb3
      have q1 := fun dz os => ((below_regrown wr dz os).cell (p := ⟨b, off + k, none⟩) (Nat.lt_of_lt_of_le hb HBr.out.size)).trans ((HBr.out.cell (p := ⟨b, off + k, none⟩) hb).trans hcu)
      have q2 := fun dz os => ((below_regrown wr dz os).cell (p := ⟨d, of2 + k, none⟩) (Nat.lt_of_lt_of_le hd HBr.out.size)).trans ((HBr.out.cell (p := ⟨d, of2 + k, none⟩) hd).trans hcv)
      refine wp_region_quiet_below (by kernel_rfl) (by kernel_rfl) ?_
      repeat ((with_reducible refine wpQuiet_step (fun K hK => ?_)); go_simp; first | ((with_reducible refine hK _ ?_); clear hK K) | (apply Exists.intro; refine ⟨fun _ => ?_, hK _ ?_⟩; (first | (go_at_call 98; with_reducible exact kc48 _ _)); clear hK K) | (refine ite_skip (fun h => ?_) (hK _ ?_); (have h2 : (none : Option Bool) = some true := h); cases h2; clear hK K))
      with_reducible refine wpQuiet_nil ?_
      intro w251 hw'
      obtain ⟨⟨dq, osq⟩, hw''⟩ := hw'
      have hb251 : Below wr.heap.size wr w251 := by rw [hw'']; exact below_regrown wr dq osq
      have Xb2_251 : Box w251 w.heap.size #[.slice sa ss.length sc, .slice (some ⟨b, off, none⟩) gs.length gc, .slice pa ps.length pc] := Zb2.out.below hb251
      have Xb3_251 : Box w251 (w.heap.size + 1) #[.slice sb ss.length sd, .slice (some ⟨d, of2, none⟩) gs.length gd, .slice pb ps.length pd] := Zb3.out.below hb251
      have hB251 : Below w.heap.size w w251 := stepB hBX hb251
      have hs251 := hB251.size
      clear hw'' hb251 hBX hsX rd2 rd3 kc48 Zb2 Zb3
      go_wp2
      go_roundw
      case rel => exact ⟨k + 1, by omega, by go_num, Xb2_251, Xb3_251, hB251⟩
      case measure => simp [intOf]; omega
    · have hk' : k = gs.length := by omega
      have dk : decide ((k : Int) < gs.length) = false := decide_eq_false (by omega)
      have cc2 := X2.2.1
      have ll2 := X2.1
      go_wp2
      go_loopw [6] (fun i wr => ∃ q : Nat, q ≤ ps.length ∧ i = .int .i64 q ∧ Box wr w.heap.size #[.slice sa ss.length sc, .slice ga gs.length gc, .slice pa ps.length pc] ∧ Box wr (w.heap.size + 1) #[.slice sb ss.length sd, .slice gb gs.length gd, .slice pb ps.length pd] ∧ Below w.heap.size w wr) (fun i _ => ps.length - (intOf i).toNat)
      case atStart => exact ⟨0, Nat.zero_le _, rfl, X2, X3, hBr⟩
      case round =>
        clear X2 X3 hBr hsr HBr cc2 ll2 dk hk'
        obtain ⟨q, hq, rfl, X2, X3, hBr⟩ := hrel
        have hsr := hBr.size
        have HBr := Lib.hid hBr
        by_cases hlt : q < ps.length
        · have hx : ps[q]? = some ps[q] := List.getElem?_eq_getElem hlt
          obtain ⟨r, hr⟩ : ∃ r, ps[q] = r := ⟨_, rfl⟩
          rw [hr] at hx
          obtain ⟨b, off, ra, rc, ha, hb, hcu, hrm, hra⟩ := row_i HP.out hx
          obtain ⟨d, of2, rb, rd, hb', hd, hcv, -, hrb⟩ := row_i HP2.out hx
          have HEQ := Lib.hid (fun (W : World) (hW : Below wr.heap.size wr W) => equal_same r ra rb rc rd W hrm ((hra.below intE_stable hBr).below intE_stable hW) ((hrb.below intE_stable hBr).below intE_stable hW))
          clear hx hr hra hrb
          subst ha
          subst hb'
          have cc2 := X2.2.1
          have ll2 := X2.1
          go_wp2
          have Yb2 : Box wr w.heap.size #[.slice sa ss.length sc, .slice ga gs.length gc, .slice (some ⟨b, off, none⟩) ps.length pc] := X2
          have Yb3 : Box wr (w.heap.size + 1) #[.slice sb ss.length sd, .slice gb gs.length gd, .slice (some ⟨d, of2, none⟩) ps.length pd] := X3
          have hBX : Below w.heap.size w wr := by go_grown
          clear hBr hsr X2 X3 cc2 ll2
          have hsX := hBX.size
          have rd2 := fun dz os => (Yb2.regrown dz os).2.1
          have rd3 := fun dz os => (Yb3.regrown dz os).2.1
          have kc67 := fun dz os => (HEQ.out (Go.Sort.grow (redrawn wr dz) os) (below_regrown wr dz os)).regrown_of
          have Zb2 := Lib.hid Yb2
          have Zb3 := Lib.hid Yb3
          clear Yb2 Yb3
          have q1 := fun dz os => ((below_regrown wr dz os).cell (p := ⟨b, off + q, none⟩) (Nat.lt_of_lt_of_le hb HBr.out.size)).trans ((HBr.out.cell (p := ⟨b, off + q, none⟩) hb).trans hcu)
          have q2 := fun dz os => ((below_regrown wr dz os).cell (p := ⟨d, of2 + q, none⟩) (Nat.lt_of_lt_of_le hd HBr.out.size)).trans ((HBr.out.cell (p := ⟨d, of2 + q, none⟩) hd).trans hcv)
          refine wp_region_quiet_below (by kernel_rfl) (by kernel_rfl) ?_
          repeat ((with_reducible refine wpQuiet_step (fun K hK => ?_)); go_simp; first | ((with_reducible refine hK _ ?_); clear hK K) | (apply Exists.intro; refine ⟨fun _ => ?_, hK _ ?_⟩; (first | (go_at_call 98; with_reducible exact kc67 _ _)); clear hK K) | (refine ite_skip (fun h => ?_) (hK _ ?_); (have h2 : (none : Option Bool) = some true := h); cases h2; clear hK K))
          with_reducible refine wpQuiet_nil ?_
          intro w301 hw'
          obtain ⟨⟨dq, osq⟩, hw''⟩ := hw'
          have hb301 : Below wr.heap.size wr w301 := by rw [hw'']; exact below_regrown wr dq osq
          have Xb2_301 : Box w301 w.heap.size #[.slice sa ss.length sc, .slice ga gs.length gc, .slice (some ⟨b, off, none⟩) ps.length pc] := Zb2.out.below hb301
          have Xb3_301 : Box w301 (w.heap.size + 1) #[.slice sb ss.length sd, .slice gb gs.length gd, .slice (some ⟨d, of2, none⟩) ps.length pd] := Zb3.out.below hb301
          have hB301 : Below w.heap.size w w301 := stepB hBX hb301
          have hs301 := hB301.size
          clear hw'' hb301 hBX hsX rd2 rd3 kc67 Zb2 Zb3
          go_wp2
          go_roundw
          case rel => exact ⟨q + 1, by omega, by go_num, Xb2_301, Xb3_301, hB301⟩
          case measure => simp [intOf]; omega
        · have hk' : q = ps.length := by omega
          have dk : decide ((q : Int) < ps.length) = false := decide_eq_false (by omega)
          have cc2 := X2.2.1
          have ll2 := X2.1
          go_wp2
          go_returns
          exact ⟨rfl, hBr⟩

end Go.Proofs.Ytpmeahmjmpgbfaa
