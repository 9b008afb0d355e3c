/- The runs of a law, leaf by leaf. Made by tools/cxparts.py. -/
import Derived.Test.YtknphpihipkdpaaBRightsT
import Derived.Test.YtknphpihipkdpaaCxKn09
import Derived.Test.YtknphpihipkdpaaCxOpen
import Derived.Test.YtknphpihipkdpaaCxUp
set_option maxRecDepth 100000
set_option linter.unusedVariables false
namespace Go.Proofs.Ytknphpihipkdpaa.Cx
open Go Go.RowKit
noncomputable def brights_C : Ctx := ctxOf Try.prog (memoU 102 (memoB [21]))
noncomputable def brights_run : List Nat → Option (BE × List PC) := runOf brights_C 1000 8 [.agg [.int .u8 (.v 0), .int .u8 (.v 1), .int .u8 (.v 2), .int .u8 (.v 3), .int .u8 (.v 4), .int .u8 (.v 5), .int .u8 (.v 6), .int .u8 (.v 7), .int .u8 (.v 8), .int .u8 (.v 9), .int .u8 (.v 10), .int .u8 (.v 11), .int .u8 (.v 12), .int .u8 (.v 13), .int .u16 (.v 14), .int .u16 (.v 15), .int .u16 (.v 16), .int .u16 (.v 17), .int .u8 (.v 18), .int .u8 (.v 19), .int .u8 (.v 20), .int .u8 (.v 21), .int .u8 (.v 22), .int .u8 (.v 23), .int .u8 (.v 24), .int .u8 (.v 25)], .agg [.int .u16 (.v 26), .int .u16 (.v 27)], .agg [.int .i16 (.v 28), .int .i16 (.v 29)]]
theorem ok_dead {run : List Nat → Option (BE × List PC)} {o : List Nat} {p : List PC} : DT.ok run .dead o p = true := rfl
theorem ok_ask {run : List Nat → Option (BE × List PC)} {c : BE} {t f : DT} {o : List Nat} {p : List PC} (h1 : DT.ok run t (1 :: o) (.b c true :: p) = true) (h2 : DT.ok run f (0 :: o) (.b c false :: p) = true) : DT.ok run (.ask c t f) o p = true := by
  show (DT.ok run t (1 :: o) (.b c true :: p) && DT.ok run f (0 :: o) (.b c false :: p)) = true
  rw [h1, h2]; rfl
theorem ok_conc {run : List Nat → Option (BE × List PC)} {e : IE} {n : Nat} {t f : DT} {o : List Nat} {p : List PC} (h1 : DT.ok run t (n :: o) (.b (.cmp .eql e (.c n)) true :: p) = true) (h2 : DT.ok run f o p = true) : DT.ok run (.conc e n t f) o p = true := by
  show (DT.ok run t (n :: o) (.b (.cmp .eql e (.c n)) true :: p) && DT.ok run f o p) = true
  rw [h1, h2]; rfl
def brO0 (o : List Nat) : List Nat := (1 :: (1 :: (1 :: o)))
def brP0 (p : List PC) : List PC := (.b (.cmp .leq br79 (.c 10000000000000)) true :: (.b (.cmp .leq br77 br79) true :: (.b (.cmp .leq (.c 0) br77) true :: p)))
theorem br_okC0 {run : List Nat → Option (BE × List PC)} {t : DT} {o : List Nat} {p : List PC} (h : DT.ok run t (brO0 o) (brP0 p) = true) : DT.ok run (brC0 t) o p = true := (ok_ask (ok_ask (ok_ask h ok_dead) ok_dead) ok_dead)
def brO1 (o : List Nat) : List Nat := (1 :: (1 :: (1 :: o)))
def brP1 (p : List PC) : List PC := (.b (.cmp .leq br139 (.c 10000000000000)) true :: (.b (.cmp .leq br137 br139) true :: (.b (.cmp .leq (.c 0) br137) true :: p)))
theorem br_okC1 {run : List Nat → Option (BE × List PC)} {t : DT} {o : List Nat} {p : List PC} (h : DT.ok run t (brO1 o) (brP1 p) = true) : DT.ok run (brC1 t) o p = true := (ok_ask (ok_ask (ok_ask h ok_dead) ok_dead) ok_dead)
def brO2 (o : List Nat) : List Nat := (0 :: (0 :: (1 :: (1 :: (1 :: (1 :: (1 :: (1 :: (1 :: o)))))))))
def brP2 (p : List PC) : List PC := (.b (.cmp .eql br56 (.c 0)) false :: (.b (.cmp .eql br44 (.c 0)) false :: (.b (.cmp .leq br69 (.c 10000000000000)) true :: (.b (.cmp .leq br67 br69) true :: (.b (.cmp .leq (.c 0) br67) true :: (.b (.cmp .leq br110 (.c 1000)) true :: (.b (.cmp .leq (.c 0) br110) true :: (.b (.cmp .leq br103 (.c 1000)) true :: (.b (.cmp .leq (.c 0) br103) true :: p)))))))))
theorem br_okC2 {run : List Nat → Option (BE × List PC)} {t : DT} {o : List Nat} {p : List PC} (h : DT.ok run t (brO2 o) (brP2 p) = true) : DT.ok run (brC2 t) o p = true := (ok_ask (ok_ask (ok_ask (ok_ask (ok_ask (ok_ask (ok_ask (ok_ask ok_dead (ok_ask ok_dead h)) ok_dead) ok_dead) ok_dead) ok_dead) ok_dead) ok_dead) ok_dead)
def brO3 (o : List Nat) : List Nat := (1 :: (1 :: o))
def brP3 (p : List PC) : List PC := (.b (.cmp .leq br155 br157) true :: (.b (.cmp .leq (.c 0) br155) true :: p))
theorem br_okC3 {run : List Nat → Option (BE × List PC)} {t : DT} {o : List Nat} {p : List PC} (h : DT.ok run t (brO3 o) (brP3 p) = true) : DT.ok run (brC3 t) o p = true := (ok_ask (ok_ask h ok_dead) ok_dead)
def brO4 (o : List Nat) : List Nat := (1 :: (1 :: o))
def brP4 (p : List PC) : List PC := (.b (.cmp .leq br167 br169) true :: (.b (.cmp .leq (.c 0) br167) true :: p))
theorem br_okC4 {run : List Nat → Option (BE × List PC)} {t : DT} {o : List Nat} {p : List PC} (h : DT.ok run t (brO4 o) (brP4 p) = true) : DT.ok run (brC4 t) o p = true := (ok_ask (ok_ask h ok_dead) ok_dead)
def brQ0 : List Nat := (1 :: (1 :: (1 :: (1 :: (1 :: (1 :: (1 :: (1 :: (1 :: (1 :: (1 :: (1 :: (1 :: (1 :: (1 :: (1 :: (1 :: (1 :: (1 :: (1 :: (1 :: (1 :: (1 :: (1 :: (1 :: (1 :: (1 :: (0 :: []))))))))))))))))))))))))))))
def brR0 : List PC := (.b (.cmp .leq br39 (.c 10000000000000)) true :: (.b (.cmp .leq br37 br39) true :: (.b (.cmp .leq (.c (-10000000000000)) br37) true :: (.b (.cmp .leq br35 (.c 100000000)) true :: (.b (.cmp .leq br33 br35) true :: (.b (.cmp .leq (.c 0) br33) true :: (.b (.cmp .leq br31 (.c 100000000)) true :: (.b (.cmp .leq br28 br31) true :: (.b (.cmp .leq (.c 1) br28) true :: (.b (.cmp .leq br25 (.c 100000)) true :: (.b (.cmp .leq br22 br25) true :: (.b (.cmp .leq (.c 1) br22) true :: (.b (.cmp .leq br20 (.c 100000000)) true :: (.b (.cmp .leq br17 br20) true :: (.b (.cmp .leq (.c 1) br17) true :: (.b (.cmp .leq br14 (.c 1000)) true :: (.b (.cmp .leq br11 br14) true :: (.b (.cmp .leq (.c 0) br11) true :: (.b (.cmp .leq br10 (.c 1000)) true :: (.b (.cmp .leq br7 br10) true :: (.b (.cmp .leq (.c 0) br7) true :: (.b (.cmp .leq br6 (.c 100000)) true :: (.b (.cmp .leq (.c 0) br6) true :: (.b (.cmp .leq br4 (.c 100000)) true :: (.b (.cmp .leq (.c 0) br4) true :: (.b (.cmp .leq br2 (.c 100000)) true :: (.b (.cmp .leq (.c 0) br2) true :: (.b (.cmp .leq br2 (.c 0)) false :: []))))))))))))))))))))))))))))
def brQ1 : List Nat := (1 :: brQ0)
def brR1 : List PC := (.b (.cmp .leq br50 (.c 0)) true :: brR0)
def brQ2 : List Nat := (brO1 (0 :: (1 :: (1 :: (1 :: (0 :: (1 :: (1 :: (1 :: (1 :: (1 :: (1 :: (1 :: (1 :: (1 :: (brO0 (1 :: (1 :: (1 :: (0 :: (0 :: (1 :: (1 :: (1 :: (1 :: (1 :: brQ1))))))))))))))))))))))))))
def brR2 : List PC := (brP1 (.b (.cmp .eql br65 (.c 10000000000000)) false :: (.b (.cmp .leq br129 br134) true :: (.b (.cmp .leq br129 br35) true :: (.b (.cmp .leq br33 br129) true :: (.b (.cmp .eql br112 (.c 0)) false :: (.b (.cmp .leq br95 br35) true :: (.b (.cmp .leq br33 br98) true :: (.b (.cmp .leq br95 br28) true :: (.b (.cmp .leq br92 (.c 10000000000000)) true :: (.b (.cmp .leq br90 br92) true :: (.b (.cmp .leq (.c 0) br90) true :: (.b (.cmp .leq br82 br35) true :: (.b (.cmp .leq br33 br85) true :: (.b (.cmp .leq br82 br28) true :: (brP0 (.b (.cmp .leq br72 br35) true :: (.b (.cmp .leq br33 br75) true :: (.b (.cmp .leq br72 br28) true :: (.b (.cmp .eql br56 (.c 0)) false :: (.b (.cmp .eql br44 (.c 0)) false :: (.b (.cmp .leq br69 (.c 10000000000000)) true :: (.b (.cmp .leq br67 br69) true :: (.b (.cmp .leq (.c 0) br67) true :: (.b (.cmp .leq br65 (.c 10000000000000)) true :: (.b (.cmp .leq (.c 0) br65) true :: brR1))))))))))))))))))))))))))
def brQ3 : List Nat := (brO2 (1 :: (0 :: brQ1)))
def brR3 : List PC := (brP2 (.b (.cmp .leq br33 (.c 100000000)) true :: (.b (.cmp .leq (.c 0) br65) false :: brR1)))
def brQ4 : List Nat := (1 :: (brO4 (0 :: (1 :: (1 :: (1 :: (brO3 (0 :: (1 :: (1 :: brQ3))))))))))
def brR4 : List PC := (.b (.cmp .leq br169 (.c 10000000000000)) true :: (brP4 (.b (.cmp .leq br160 br35) false :: (.b (.cmp .leq br33 br163) true :: (.b (.cmp .leq br160 br28) true :: (.b (.cmp .leq br157 (.c 10000000000000)) true :: (brP3 (.b (.cmp .leq br72 br35) false :: (.b (.cmp .leq br33 br75) true :: (.b (.cmp .leq br72 br28) true :: brR3))))))))))
def brQ5 : List Nat := (0 :: brQ0)
def brR5 : List PC := (.b (.cmp .leq br50 (.c 0)) false :: brR0)
def brQ6 : List Nat := (1 :: (1 :: (1 :: (0 :: (1 :: (1 :: (1 :: (1 :: (1 :: (1 :: (1 :: (1 :: (1 :: (brO0 (1 :: (1 :: (1 :: (0 :: (0 :: (1 :: (1 :: (1 :: (1 :: (1 :: (1 :: brQ5)))))))))))))))))))))))))
def brR6 : List PC := (.b (.cmp .leq br211 br134) true :: (.b (.cmp .leq br211 br35) true :: (.b (.cmp .leq br33 br211) true :: (.b (.cmp .eql br112 (.c 0)) false :: (.b (.cmp .leq br197 br35) true :: (.b (.cmp .leq br33 br200) true :: (.b (.cmp .leq br197 br28) true :: (.b (.cmp .leq br194 (.c 10000000000000)) true :: (.b (.cmp .leq br192 br194) true :: (.b (.cmp .leq (.c 0) br192) true :: (.b (.cmp .leq br82 br35) true :: (.b (.cmp .leq br33 br85) true :: (.b (.cmp .leq br82 br28) true :: (brP0 (.b (.cmp .leq br184 br35) true :: (.b (.cmp .leq br33 br187) true :: (.b (.cmp .leq br184 br28) true :: (.b (.cmp .eql br56 (.c 0)) false :: (.b (.cmp .eql br44 (.c 0)) false :: (.b (.cmp .leq br181 (.c 10000000000000)) true :: (.b (.cmp .leq br179 br181) true :: (.b (.cmp .leq (.c 0) br179) true :: (.b (.cmp .leq br65 (.c 10000000000000)) true :: (.b (.cmp .leq (.c 0) br177) true :: (.b (.cmp .leq br177 br65) true :: brR5)))))))))))))))))))))))))
def brQ7 : List Nat := (brO1 (0 :: (1 :: brQ6)))
def brR7 : List PC := (brP1 (.b (.cmp .eql br65 (.c 10000000000000)) false :: (.b (.cmp .eql br177 (.c 0)) true :: brR6)))
def brQ8 : List Nat := (brO1 (0 :: (0 :: (1 :: (1 :: (1 :: (1 :: (0 :: brQ6))))))))
def brR8 : List PC := (brP1 (.b (.cmp .eql br65 (.c 10000000000000)) false :: (.b (.cmp .leq br33 br222) false :: (.b (.cmp .leq br219 br28) true :: (.b (.cmp .leq br216 (.c 10000000000000)) true :: (.b (.cmp .leq br214 br216) true :: (.b (.cmp .leq (.c 0) br214) true :: (.b (.cmp .eql br177 (.c 0)) false :: brR6))))))))
def brQ9 : List Nat := (brO2 (1 :: (0 :: brQ5)))
def brR9 : List PC := (brP2 (.b (.cmp .leq br33 (.c 100000000)) true :: (.b (.cmp .leq br177 br65) false :: brR5)))
def brQ10 : List Nat := (1 :: brQ9)
def brR10 : List PC := (.b (.cmp .leq br72 br28) true :: brR9)
def brQ11 : List Nat := (1 :: (brO3 (0 :: (1 :: brQ10))))
def brR11 : List PC := (.b (.cmp .leq br157 (.c 10000000000000)) true :: (brP3 (.b (.cmp .leq br72 br35) false :: (.b (.cmp .leq br33 br75) true :: brR10))))
def brQ12 : List Nat := (1 :: (brO3 (0 :: brQ10)))
def brR12 : List PC := (.b (.cmp .leq br157 (.c 10000000000000)) true :: (brP3 (.b (.cmp .leq br33 br75) false :: brR10)))
def brQ13 : List Nat := (1 :: brQ12)
def brR13 : List PC := (.b (.cmp .leq br160 br28) true :: brR12)
def brQ14 : List Nat := (1 :: (1 :: (brO4 (0 :: (1 :: brQ13)))))
def brR14 : List PC := (.b (.cmp .leq br172 br28) true :: (.b (.cmp .leq br169 (.c 10000000000000)) true :: (brP4 (.b (.cmp .leq br160 br35) false :: (.b (.cmp .leq br33 br163) true :: brR13)))))
def brQ15 : List Nat := (1 :: (brO4 (0 :: brQ13)))
def brR15 : List PC := (.b (.cmp .leq br169 (.c 10000000000000)) true :: (brP4 (.b (.cmp .leq br33 br163) false :: brR13)))
def brQ16 : List Nat := (1 :: brQ15)
def brR16 : List PC := (.b (.cmp .leq br172 br28) true :: brR15)
def brQ17 : List Nat := (1 :: (brO4 (0 :: brQ12)))
def brR17 : List PC := (.b (.cmp .leq br169 (.c 10000000000000)) true :: (brP4 (.b (.cmp .leq br160 br28) false :: brR12)))
def brQ18 : List Nat := (1 :: brQ17)
def brR18 : List PC := (.b (.cmp .leq br172 br28) true :: brR17)
end Go.Proofs.Ytknphpihipkdpaa.Cx
