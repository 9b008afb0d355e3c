/- The runs of a law, leaf by leaf. Made by tools/cxparts.py. -/
import Derived.Test.YtdicfkocjakhcaaRScrewsT
import Derived.Test.YtdicfkocjakhcaaCxKnPF
import Derived.Test.YtdicfkocjakhcaaCxKnPG
import Derived.Test.YtdicfkocjakhcaaCxOpen
import Derived.Test.YtdicfkocjakhcaaCxUp
import Derived.Test.YtdicfkocjakhcaaCxRow
set_option maxRecDepth 100000
set_option linter.unusedVariables false
namespace Go.Proofs.Ytdicfkocjakhcaa.Cx
open Go Go.RowKit
noncomputable def rscrews_C : Ctx := ctxOf Try.prog (memoU 31 (memoB [22, 23]))
noncomputable def rscrews_run : List Nat → Option (BE × List PC) := runOf2 rscrews_C 1000 12 (heapOf [(6, (List.replicate 2 .u8)), (6, (List.replicate 2 .u8))] 0 6) 6 [.agg [.int .u8 (.v 0), .int .u8 (.v 1), .int .u8 (.v 2), .int .u8 (.v 3)], .slr 0 2 6 (.v 4), .slr 6 2 6 (.v 5)]
theorem ok_dead {run : List Nat → Option (BE × List PC)} {o : List Nat} {p : List PC} : DT.ok run .dead o p = true := rfl
theorem ok_ask {run : List Nat → Option (BE × List PC)} {c : BE} {t f : DT} {o : List Nat} {p : List PC} (h1 : DT.ok run t (1 :: o) (.b c true :: p) = true) (h2 : DT.ok run f (0 :: o) (.b c false :: p) = true) : DT.ok run (.ask c t f) o p = true := by
  show (DT.ok run t (1 :: o) (.b c true :: p) && DT.ok run f (0 :: o) (.b c false :: p)) = true
  rw [h1, h2]; rfl
theorem ok_conc {run : List Nat → Option (BE × List PC)} {e : IE} {n : Nat} {t f : DT} {o : List Nat} {p : List PC} (h1 : DT.ok run t (n :: o) (.b (.cmp .eql e (.c n)) true :: p) = true) (h2 : DT.ok run f o p = true) : DT.ok run (.conc e n t f) o p = true := by
  show (DT.ok run t (n :: o) (.b (.cmp .eql e (.c n)) true :: p) && DT.ok run f o p) = true
  rw [h1, h2]; rfl
def rsO0 (o : List Nat) : List Nat := (1 :: (1 :: (1 :: (1 :: (1 :: o)))))
def rsP0 (p : List PC) : List PC := (.b (.cmp .leq (.c 0) rs6) true :: (.b (.cmp .leq rs4 (.c 3000)) true :: (.b (.cmp .leq (.c 0) rs4) true :: (.b (.cmp .leq rs2 (.c 200000)) true :: (.b (.cmp .leq (.c 100) rs2) true :: p)))))
theorem rs_okC0 {run : List Nat → Option (BE × List PC)} {t : DT} {o : List Nat} {p : List PC} (h : DT.ok run t (rsO0 o) (rsP0 p) = true) : DT.ok run (rsC0 t) o p = true := (ok_ask (ok_ask (ok_ask (ok_ask (ok_ask h ok_dead) ok_dead) ok_dead) ok_dead) ok_dead)
def rsO1 (o : List Nat) : List Nat := (1 :: (1 :: (1 :: (1 :: (1 :: (1 :: (1 :: o)))))))
def rsP1 (p : List PC) : List PC := (.b (.cmp .leq rs13 rs14) true :: (.b (.cmp .leq (.c 1) rs10) true :: (.b (.cmp .leq rs8 (.c 200000)) true :: (.b (.cmp .leq (.c 0) rs8) true :: (.b (.cmp .leq rs9 (.c 200000)) true :: (.b (.cmp .leq (.c 0) rs9) true :: (.b (.cmp .leq rs6 (.c 3000)) true :: p)))))))
theorem rs_okC1 {run : List Nat → Option (BE × List PC)} {t : DT} {o : List Nat} {p : List PC} (h : DT.ok run t (rsO1 o) (rsP1 p) = true) : DT.ok run (rsC1 t) o p = true := (ok_ask (ok_ask (ok_ask (ok_ask (ok_ask (ok_ask (ok_ask h ok_dead) ok_dead) ok_dead) ok_dead) ok_dead) ok_dead) ok_dead)
def rsO2 (o : List Nat) : List Nat := (1 :: (1 :: (0 :: (1 :: (1 :: (1 :: o))))))
def rsP2 (p : List PC) : List PC := (.b (.cmp .leq rs121 rs123) true :: (.b (.cmp .leq (.c (-10000000)) rs121) true :: (.b (.cmp .eql rs12 (.c 0)) false :: (.b (.cmp .leq rs22 (.c 10000000)) true :: (.b (.cmp .leq rs20 rs22) true :: (.b (.cmp .leq (.c (-10000000)) rs20) true :: p))))))
theorem rs_okC2 {run : List Nat → Option (BE × List PC)} {t : DT} {o : List Nat} {p : List PC} (h : DT.ok run t (rsO2 o) (rsP2 p) = true) : DT.ok run (rsC2 t) o p = true := (ok_ask (ok_ask (ok_ask (ok_ask ok_dead (ok_ask (ok_ask h ok_dead) ok_dead)) ok_dead) ok_dead) ok_dead)
def rsO3 (o : List Nat) : List Nat := (1 :: (1 :: (1 :: o)))
def rsP3 (p : List PC) : List PC := (.b (.cmp .leq rs140 (.c 10000000)) true :: (.b (.cmp .leq (.c 0) rs140) true :: (.b (.cmp .leq rs123 (.c 10000000)) true :: p)))
theorem rs_okC3 {run : List Nat → Option (BE × List PC)} {t : DT} {o : List Nat} {p : List PC} (h : DT.ok run t (rsO3 o) (rsP3 p) = true) : DT.ok run (rsC3 t) o p = true := (ok_ask (ok_ask (ok_ask h ok_dead) ok_dead) ok_dead)
def rsO4 (o : List Nat) : List Nat := (1 :: (1 :: (1 :: (1 :: (1 :: o)))))
def rsP4 (p : List PC) : List PC := (.b (.cmp .leq (.c 4990) rs58) true :: (.b (.cmp .leq rs182 (.c 10000000)) true :: (.b (.cmp .leq (.c 0) rs182) true :: (.b (.cmp .leq rs160 (.c 10000000)) true :: (.b (.cmp .leq rs158 rs160) true :: p)))))
theorem rs_okC4 {run : List Nat → Option (BE × List PC)} {t : DT} {o : List Nat} {p : List PC} (h : DT.ok run t (rsO4 o) (rsP4 p) = true) : DT.ok run (rsC4 t) o p = true := (ok_ask (ok_ask (ok_ask (ok_ask (ok_ask h ok_dead) ok_dead) ok_dead) ok_dead) ok_dead)
def rsO5 (o : List Nat) : List Nat := (1 :: (1 :: (1 :: (1 :: (1 :: (1 :: (1 :: (1 :: (1 :: o)))))))))
def rsP5 (p : List PC) : List PC := (.b (.cmp .leq rs87 rs72) true :: (.b (.cmp .leq rs82 rs85) true :: (.b (.cmp .leq rs87 rs80) true :: (.b (.cmp .leq rs62 rs85) true :: (.b (.cmp .leq rs82 rs73) true :: (.b (.cmp .leq rs71 rs72) true :: (.b (.cmp .leq rs60 (.c 100000)) true :: (.b (.cmp .leq (.c 1) rs60) true :: (.b (.cmp .leq rs58 (.c 10000000)) true :: p)))))))))
theorem rs_okC5 {run : List Nat → Option (BE × List PC)} {t : DT} {o : List Nat} {p : List PC} (h : DT.ok run t (rsO5 o) (rsP5 p) = true) : DT.ok run (rsC5 t) o p = true := (ok_ask (ok_ask (ok_ask (ok_ask (ok_ask (ok_ask (ok_ask (ok_ask (ok_ask h ok_dead) ok_dead) ok_dead) ok_dead) ok_dead) ok_dead) ok_dead) ok_dead) ok_dead)
def rsO6 (o : List Nat) : List Nat := (1 :: (1 :: (1 :: (1 :: (1 :: (1 :: (1 :: o)))))))
def rsP6 (p : List PC) : List PC := (.b (.cmp .leq (.c 4990) rs58) true :: (.b (.cmp .leq rs217 (.c 10000000)) true :: (.b (.cmp .leq (.c 0) rs217) true :: (.b (.cmp .leq rs195 (.c 10000000)) true :: (.b (.cmp .leq rs193 rs195) true :: (.b (.cmp .leq rs160 rs193) true :: (.b (.cmp .leq rs158 rs160) true :: p)))))))
theorem rs_okC6 {run : List Nat → Option (BE × List PC)} {t : DT} {o : List Nat} {p : List PC} (h : DT.ok run t (rsO6 o) (rsP6 p) = true) : DT.ok run (rsC6 t) o p = true := (ok_ask (ok_ask (ok_ask (ok_ask (ok_ask (ok_ask (ok_ask h ok_dead) ok_dead) ok_dead) ok_dead) ok_dead) ok_dead) ok_dead)
def rsO7 (o : List Nat) : List Nat := (1 :: (1 :: (1 :: (1 :: o))))
def rsP7 (p : List PC) : List PC := (.b (.cmp .leq rs195 rs228) true :: (.b (.cmp .leq rs193 rs195) true :: (.b (.cmp .leq rs160 rs193) true :: (.b (.cmp .leq rs158 rs160) true :: p))))
theorem rs_okC7 {run : List Nat → Option (BE × List PC)} {t : DT} {o : List Nat} {p : List PC} (h : DT.ok run t (rsO7 o) (rsP7 p) = true) : DT.ok run (rsC7 t) o p = true := (ok_ask (ok_ask (ok_ask (ok_ask h ok_dead) ok_dead) ok_dead) ok_dead)
def rsO8 (o : List Nat) : List Nat := (1 :: (1 :: o))
def rsP8 (p : List PC) : List PC := (.b (.cmp .leq rs230 (.c 10000000)) true :: (.b (.cmp .leq rs228 rs230) true :: p))
theorem rs_okC8 {run : List Nat → Option (BE × List PC)} {t : DT} {o : List Nat} {p : List PC} (h : DT.ok run t (rsO8 o) (rsP8 p) = true) : DT.ok run (rsC8 t) o p = true := (ok_ask (ok_ask h ok_dead) ok_dead)
def rsO9 (o : List Nat) : List Nat := (1 :: (1 :: o))
def rsP9 (p : List PC) : List PC := (.b (.cmp .leq (.c 4990) rs58) true :: (.b (.cmp .leq rs252 (.c 10000000)) true :: p))
theorem rs_okC9 {run : List Nat → Option (BE × List PC)} {t : DT} {o : List Nat} {p : List PC} (h : DT.ok run t (rsO9 o) (rsP9 p) = true) : DT.ok run (rsC9 t) o p = true := (ok_ask (ok_ask h ok_dead) ok_dead)
def rsO10 (o : List Nat) : List Nat := (1 :: (1 :: (1 :: (1 :: (1 :: (1 :: (1 :: o)))))))
def rsP10 (p : List PC) : List PC := (.b (.cmp .leq (.c 4990) rs58) true :: (.b (.cmp .leq rs287 (.c 10000000)) true :: (.b (.cmp .leq (.c 0) rs287) true :: (.b (.cmp .leq rs265 (.c 10000000)) true :: (.b (.cmp .leq rs263 rs265) true :: (.b (.cmp .leq rs230 rs263) true :: (.b (.cmp .leq rs228 rs230) true :: p)))))))
theorem rs_okC10 {run : List Nat → Option (BE × List PC)} {t : DT} {o : List Nat} {p : List PC} (h : DT.ok run t (rsO10 o) (rsP10 p) = true) : DT.ok run (rsC10 t) o p = true := (ok_ask (ok_ask (ok_ask (ok_ask (ok_ask (ok_ask (ok_ask h ok_dead) ok_dead) ok_dead) ok_dead) ok_dead) ok_dead) ok_dead)
def rsO11 (o : List Nat) : List Nat := (1 :: (1 :: (1 :: (1 :: o))))
def rsP11 (p : List PC) : List PC := (.b (.cmp .leq rs265 rs298) true :: (.b (.cmp .leq rs263 rs265) true :: (.b (.cmp .leq rs230 rs263) true :: (.b (.cmp .leq rs228 rs230) true :: p))))
theorem rs_okC11 {run : List Nat → Option (BE × List PC)} {t : DT} {o : List Nat} {p : List PC} (h : DT.ok run t (rsO11 o) (rsP11 p) = true) : DT.ok run (rsC11 t) o p = true := (ok_ask (ok_ask (ok_ask (ok_ask h ok_dead) ok_dead) ok_dead) ok_dead)
def rsO12 (o : List Nat) : List Nat := (1 :: (1 :: o))
def rsP12 (p : List PC) : List PC := (.b (.cmp .leq (.c 0) rs322) true :: (.b (.cmp .leq rs300 (.c 10000000)) true :: p))
theorem rs_okC12 {run : List Nat → Option (BE × List PC)} {t : DT} {o : List Nat} {p : List PC} (h : DT.ok run t (rsO12 o) (rsP12 p) = true) : DT.ok run (rsC12 t) o p = true := (ok_ask (ok_ask h ok_dead) ok_dead)
def rsO13 (o : List Nat) : List Nat := (1 :: (1 :: (0 :: (1 :: (1 :: (1 :: o))))))
def rsP13 (p : List PC) : List PC := (.b (.cmp .leq rs121 rs123) true :: (.b (.cmp .leq (.c (-10000000)) rs121) true :: (.b (.cmp .eql rs12 (.c 0)) false :: (.b (.cmp .leq rs334 (.c 10000000)) true :: (.b (.cmp .leq rs332 rs334) true :: (.b (.cmp .leq (.c (-10000000)) rs332) true :: p))))))
theorem rs_okC13 {run : List Nat → Option (BE × List PC)} {t : DT} {o : List Nat} {p : List PC} (h : DT.ok run t (rsO13 o) (rsP13 p) = true) : DT.ok run (rsC13 t) o p = true := (ok_ask (ok_ask (ok_ask (ok_ask ok_dead (ok_ask (ok_ask h ok_dead) ok_dead)) ok_dead) ok_dead) ok_dead)
def rsO14 (o : List Nat) : List Nat := (1 :: (1 :: (1 :: (1 :: (1 :: o)))))
def rsP14 (p : List PC) : List PC := (.b (.cmp .leq rs374 (.c 10000000)) true :: (.b (.cmp .leq rs372 rs374) true :: (.b (.cmp .leq rs334 rs372) true :: (.b (.cmp .leq rs332 rs334) true :: (.b (.cmp .leq (.c (-10000000)) rs332) true :: p)))))
theorem rs_okC14 {run : List Nat → Option (BE × List PC)} {t : DT} {o : List Nat} {p : List PC} (h : DT.ok run t (rsO14 o) (rsP14 p) = true) : DT.ok run (rsC14 t) o p = true := (ok_ask (ok_ask (ok_ask (ok_ask (ok_ask h ok_dead) ok_dead) ok_dead) ok_dead) ok_dead)
def rsO15 (o : List Nat) : List Nat := (1 :: (1 :: (0 :: o)))
def rsP15 (p : List PC) : List PC := (.b (.cmp .leq rs121 rs123) true :: (.b (.cmp .leq (.c (-10000000)) rs121) true :: (.b (.cmp .eql rs12 (.c 0)) false :: p)))
theorem rs_okC15 {run : List Nat → Option (BE × List PC)} {t : DT} {o : List Nat} {p : List PC} (h : DT.ok run t (rsO15 o) (rsP15 p) = true) : DT.ok run (rsC15 t) o p = true := (ok_ask ok_dead (ok_ask (ok_ask h ok_dead) ok_dead))
def rsO16 (o : List Nat) : List Nat := (1 :: (1 :: (0 :: (1 :: (1 :: (1 :: (1 :: (1 :: (1 :: (1 :: o))))))))))
def rsP16 (p : List PC) : List PC := (.b (.cmp .leq rs121 rs123) true :: (.b (.cmp .leq (.c (-10000000)) rs121) true :: (.b (.cmp .eql rs12 (.c 0)) false :: (.b (.cmp .leq rs407 (.c 10000000)) true :: (.b (.cmp .leq rs405 rs407) true :: (.b (.cmp .leq rs374 rs405) true :: (.b (.cmp .leq rs372 rs374) true :: (.b (.cmp .leq rs334 rs372) true :: (.b (.cmp .leq rs332 rs334) true :: (.b (.cmp .leq (.c (-10000000)) rs332) true :: p))))))))))
theorem rs_okC16 {run : List Nat → Option (BE × List PC)} {t : DT} {o : List Nat} {p : List PC} (h : DT.ok run t (rsO16 o) (rsP16 p) = true) : DT.ok run (rsC16 t) o p = true := (ok_ask (ok_ask (ok_ask (ok_ask (ok_ask (ok_ask (ok_ask (ok_ask ok_dead (ok_ask (ok_ask h ok_dead) ok_dead)) ok_dead) ok_dead) ok_dead) ok_dead) ok_dead) ok_dead) ok_dead)
def rsO17 (o : List Nat) : List Nat := (1 :: (1 :: (0 :: (1 :: (1 :: (1 :: (1 :: (1 :: (1 :: (1 :: (1 :: (1 :: o))))))))))))
def rsP17 (p : List PC) : List PC := (.b (.cmp .leq rs121 rs123) true :: (.b (.cmp .leq (.c (-10000000)) rs121) true :: (.b (.cmp .eql rs12 (.c 0)) false :: (.b (.cmp .leq rs440 (.c 10000000)) true :: (.b (.cmp .leq rs438 rs440) true :: (.b (.cmp .leq rs407 rs438) true :: (.b (.cmp .leq rs405 rs407) true :: (.b (.cmp .leq rs374 rs405) true :: (.b (.cmp .leq rs372 rs374) true :: (.b (.cmp .leq rs334 rs372) true :: (.b (.cmp .leq rs332 rs334) true :: (.b (.cmp .leq (.c (-10000000)) rs332) true :: p))))))))))))
theorem rs_okC17 {run : List Nat → Option (BE × List PC)} {t : DT} {o : List Nat} {p : List PC} (h : DT.ok run t (rsO17 o) (rsP17 p) = true) : DT.ok run (rsC17 t) o p = true := (ok_ask (ok_ask (ok_ask (ok_ask (ok_ask (ok_ask (ok_ask (ok_ask (ok_ask (ok_ask ok_dead (ok_ask (ok_ask h ok_dead) ok_dead)) ok_dead) ok_dead) ok_dead) ok_dead) ok_dead) ok_dead) ok_dead) ok_dead) ok_dead)
def rsO18 (o : List Nat) : List Nat := (1 :: (1 :: (0 :: (1 :: (1 :: (1 :: (1 :: (1 :: (1 :: (1 :: (1 :: (1 :: (1 :: (1 :: o))))))))))))))
def rsP18 (p : List PC) : List PC := (.b (.cmp .leq rs121 rs123) true :: (.b (.cmp .leq (.c (-10000000)) rs121) true :: (.b (.cmp .eql rs12 (.c 0)) false :: (.b (.cmp .leq rs473 (.c 10000000)) true :: (.b (.cmp .leq rs471 rs473) true :: (.b (.cmp .leq rs440 rs471) true :: (.b (.cmp .leq rs438 rs440) true :: (.b (.cmp .leq rs407 rs438) true :: (.b (.cmp .leq rs405 rs407) true :: (.b (.cmp .leq rs374 rs405) true :: (.b (.cmp .leq rs372 rs374) true :: (.b (.cmp .leq rs334 rs372) true :: (.b (.cmp .leq rs332 rs334) true :: (.b (.cmp .leq (.c (-10000000)) rs332) true :: p))))))))))))))
theorem rs_okC18 {run : List Nat → Option (BE × List PC)} {t : DT} {o : List Nat} {p : List PC} (h : DT.ok run t (rsO18 o) (rsP18 p) = true) : DT.ok run (rsC18 t) o p = true := (ok_ask (ok_ask (ok_ask (ok_ask (ok_ask (ok_ask (ok_ask (ok_ask (ok_ask (ok_ask (ok_ask (ok_ask ok_dead (ok_ask (ok_ask h ok_dead) ok_dead)) ok_dead) ok_dead) ok_dead) ok_dead) ok_dead) ok_dead) ok_dead) ok_dead) ok_dead) ok_dead) ok_dead)
def rsO19 (o : List Nat) : List Nat := (1 :: (1 :: (1 :: (1 :: (1 :: (1 :: (1 :: (1 :: (1 :: (1 :: (1 :: (1 :: o))))))))))))
def rsP19 (p : List PC) : List PC := (.b (.cmp .leq rs504 rs506) true :: (.b (.cmp .leq rs473 rs504) true :: (.b (.cmp .leq rs471 rs473) true :: (.b (.cmp .leq rs440 rs471) true :: (.b (.cmp .leq rs438 rs440) true :: (.b (.cmp .leq rs407 rs438) true :: (.b (.cmp .leq rs405 rs407) true :: (.b (.cmp .leq rs374 rs405) true :: (.b (.cmp .leq rs372 rs374) true :: (.b (.cmp .leq rs334 rs372) true :: (.b (.cmp .leq rs332 rs334) true :: (.b (.cmp .leq (.c (-10000000)) rs332) true :: p))))))))))))
theorem rs_okC19 {run : List Nat → Option (BE × List PC)} {t : DT} {o : List Nat} {p : List PC} (h : DT.ok run t (rsO19 o) (rsP19 p) = true) : DT.ok run (rsC19 t) o p = true := (ok_ask (ok_ask (ok_ask (ok_ask (ok_ask (ok_ask (ok_ask (ok_ask (ok_ask (ok_ask (ok_ask (ok_ask h ok_dead) ok_dead) ok_dead) ok_dead) ok_dead) ok_dead) ok_dead) ok_dead) ok_dead) ok_dead) ok_dead) ok_dead)
def rsO20 (o : List Nat) : List Nat := (1 :: (1 :: (1 :: (1 :: (1 :: (0 :: (1 :: o)))))))
def rsP20 (p : List PC) : List PC := (.b (.cmp .leq rs56 (.c 10000000)) true :: (.b (.cmp .leq (.c 0) rs56) true :: (.b (.cmp .leq rs22 (.c 10000000)) true :: (.b (.cmp .leq rs20 rs22) true :: (.b (.cmp .leq (.c (-10000000)) rs20) true :: (.b (.cmp .eql rs12 (.c 0)) false :: (.b (.cmp .leq rs506 (.c 10000000)) true :: p)))))))
theorem rs_okC20 {run : List Nat → Option (BE × List PC)} {t : DT} {o : List Nat} {p : List PC} (h : DT.ok run t (rsO20 o) (rsP20 p) = true) : DT.ok run (rsC20 t) o p = true := (ok_ask (ok_ask ok_dead (ok_ask (ok_ask (ok_ask (ok_ask (ok_ask h ok_dead) ok_dead) ok_dead) ok_dead) ok_dead)) ok_dead)
def rsO21 (o : List Nat) : List Nat := (1 :: (1 :: (0 :: (1 :: o))))
def rsP21 (p : List PC) : List PC := (.b (.cmp .leq rs121 rs123) true :: (.b (.cmp .leq (.c (-10000000)) rs121) true :: (.b (.cmp .eql rs12 (.c 0)) false :: (.b (.cmp .leq rs506 (.c 10000000)) true :: p))))
theorem rs_okC21 {run : List Nat → Option (BE × List PC)} {t : DT} {o : List Nat} {p : List PC} (h : DT.ok run t (rsO21 o) (rsP21 p) = true) : DT.ok run (rsC21 t) o p = true := (ok_ask (ok_ask ok_dead (ok_ask (ok_ask h ok_dead) ok_dead)) ok_dead)
end Go.Proofs.Ytdicfkocjakhcaa.Cx
