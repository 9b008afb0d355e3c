/- BoltLoosening: the tests of the law and their arithmetic. Made by tools/cxroot.py. -/
import Derived.Test.YtknphpihipkdpaaCxS
set_option linter.unusedSimpArgs false
set_option linter.unusedVariables false
set_option maxRecDepth 100000
set_option maxHeartbeats 4000000
namespace Go.Proofs.Ytknphpihipkdpaa.Cx
open Go Go.RowKit

def bl0 : IE := .bin .conv .i64 (.v 0) (.c 0)
def bl1 : IE := .bin .mul .i64 (.c 10) bl0
def bl2 : IE := .bin .add .i64 (.c 1) bl1
def bl3 : IE := .bin .conv .i64 (.v 1) (.c 0)
def bl4 : IE := .bin .mul .i64 (.c 20) bl3
def bl5 : IE := .bin .conv .i64 (.v 2) (.c 0)
def bl6 : IE := .bin .mul .i64 (.c 30) bl5
def bl7 : IE := .bin .conv .i64 (.v 3) (.c 0)
def bl8 : IE := .bin .conv .i64 (.v 4) (.c 0)
def bl9 : IE := .bin .rem .i64 bl8 (.c 60)
def bl10 : IE := .bin .add .i64 bl7 bl9
def bl11 : IE := .bin .conv .i64 (.v 5) (.c 0)
def bl12 : IE := .bin .conv .i64 (.v 6) (.c 0)
def bl13 : IE := .bin .rem .i64 bl12 (.c 60)
def bl14 : IE := .bin .add .i64 bl11 bl13
def bl15 : IE := .bin .conv .i64 (.v 7) (.c 0)
def bl16 : IE := .bin .mul .i64 (.c 100) bl15
def bl17 : IE := .bin .add .i64 (.c 1) bl16
def bl18 : IE := .bin .conv .i64 (.v 8) (.c 0)
def bl19 : IE := .bin .mul .i64 (.c 10) bl18
def bl20 : IE := .bin .add .i64 bl17 bl19
def bl21 : IE := .bin .conv .i64 (.v 9) (.c 0)
def bl22 : IE := .bin .add .i64 (.c 1) bl21
def bl23 : IE := .bin .conv .i64 (.v 10) (.c 0)
def bl24 : IE := .bin .rem .i64 bl23 (.c 20)
def bl25 : IE := .bin .add .i64 bl22 bl24
def bl26 : IE := .bin .conv .i64 (.v 11) (.c 0)
def bl27 : IE := .bin .mul .i64 (.c 100) bl26
def bl28 : IE := .bin .add .i64 (.c 1) bl27
def bl29 : IE := .bin .conv .i64 (.v 12) (.c 0)
def bl30 : IE := .bin .mul .i64 (.c 10) bl29
def bl31 : IE := .bin .add .i64 bl28 bl30
def bl32 : IE := .bin .conv .i64 (.v 26) (.c 0)
def bl33 : IE := .bin .conv .i64 (.v 18) (.c 0)
def bl34 : IE := .bin .sub .i64 bl10 bl7
def bl35 : IE := .bin .mul .i64 bl33 bl34
def bl36 : IE := .bin .quo .i64 bl35 (.c 255)
def bl37 : IE := .bin .add .i64 bl7 bl36
def bl38 : IE := .bin .conv .i64 (.v 19) (.c 0)
def bl39 : IE := .bin .sub .i64 bl14 bl11
def bl40 : IE := .bin .mul .i64 bl38 bl39
def bl41 : IE := .bin .quo .i64 bl40 (.c 255)
def bl42 : IE := .bin .add .i64 bl11 bl41
def bl43 : IE := .bin .mul .i64 bl4 bl7
def bl44 : IE := .bin .mul .i64 bl6 bl11
def bl45 : IE := .bin .add .i64 bl43 bl44
def bl46 : IE := .bin .mul .i64 (.c 1000) bl2
def bl47 : IE := .bin .sub .i64 (.c 0) bl46
def bl48 : IE := .bin .add .i64 bl45 bl47
def bl49 : IE := .bin .mx .i64 bl48 (.c 0)
def bl50 : IE := .bin .mul .i64 bl32 bl49
def bl51 : IE := .bin .quo .i64 bl50 (.c 1000)
def bl52 : IE := .bin .rem .i64 bl50 (.c 1000)
def bl53 : IE := .bin .mx .i64 (.c 0) bl52
def bl54 : IE := .bin .mn .i64 (.c 1) bl53
def bl55 : IE := .bin .add .i64 bl51 bl54
def bl56 : IE := .bin .mul .i64 bl4 bl10
def bl57 : IE := .bin .mul .i64 bl6 bl14
def bl58 : IE := .bin .add .i64 bl56 bl57
def bl59 : IE := .bin .add .i64 bl58 bl47
def bl60 : IE := .bin .mx .i64 bl59 (.c 0)
def bl61 : IE := .bin .mul .i64 bl32 bl60
def bl62 : IE := .bin .quo .i64 bl61 (.c 1000)
def bl63 : IE := .bin .rem .i64 bl61 (.c 1000)
def bl64 : IE := .bin .mx .i64 (.c 0) bl63
def bl65 : IE := .bin .mn .i64 (.c 1) bl64
def bl66 : IE := .bin .add .i64 bl62 bl65
def bl67 : IE := .bin .mul .i64 bl4 bl37
def bl68 : IE := .bin .mul .i64 bl6 bl42
def bl69 : IE := .bin .add .i64 bl67 bl68
def bl70 : IE := .bin .add .i64 bl69 bl47
def bl71 : IE := .bin .mx .i64 bl70 (.c 0)
def bl72 : IE := .bin .mul .i64 bl32 bl71
def bl73 : IE := .bin .quo .i64 bl72 (.c 1000)
def bl74 : IE := .bin .rem .i64 bl72 (.c 1000)
def bl75 : IE := .bin .mx .i64 (.c 0) bl74
def bl76 : IE := .bin .mn .i64 (.c 1) bl75
def bl77 : IE := .bin .add .i64 bl73 bl76
def bl78 : IE := .bin .add .i64 bl46 bl69
def bl79 : IE := .bin .mul .i64 bl32 bl78
def bl80 : IE := .bin .quo .i64 bl79 (.c 1000)
def bl81 : IE := .bin .rem .i64 bl79 (.c 1000)
def bl82 : IE := .bin .mx .i64 (.c 0) bl81
def bl83 : IE := .bin .mn .i64 (.c 1) bl82
def bl84 : IE := .bin .add .i64 bl80 bl83
def blC0 (t : DT) : DT := (.ask (.cmp .leq bl55 bl77) (.ask (.cmp .leq bl77 bl66) t .dead) .dead)
def blTree : DT :=
(.ask (.cmp .leq bl2 (.c 0))
 .dead
 (.ask (.cmp .leq (.c 0) bl2)
 (.ask (.cmp .leq bl2 (.c 100000))
 (.ask (.cmp .leq (.c 0) bl4)
 (.ask (.cmp .leq bl4 (.c 100000))
 (.ask (.cmp .leq (.c 0) bl6)
 (.ask (.cmp .leq bl6 (.c 100000))
 (.ask (.cmp .leq (.c 0) bl7)
 (.ask (.cmp .leq bl7 bl10)
 (.ask (.cmp .leq bl10 (.c 1000))
 (.ask (.cmp .leq (.c 0) bl11)
 (.ask (.cmp .leq bl11 bl14)
 (.ask (.cmp .leq bl14 (.c 1000))
 (.ask (.cmp .leq (.c 1) bl17)
 (.ask (.cmp .leq bl17 bl20)
 (.ask (.cmp .leq bl20 (.c 100000000))
 (.ask (.cmp .leq (.c 1) bl22)
 (.ask (.cmp .leq bl22 bl25)
 (.ask (.cmp .leq bl25 (.c 100000))
 (.ask (.cmp .leq (.c 1) bl28)
 (.ask (.cmp .leq bl28 bl31)
 (.ask (.cmp .leq bl31 (.c 100000000))
 (.ask (.cmp .leq (.c 0) bl32)
 (.ask (.cmp .leq bl32 (.c 100000000))
 (.ask (.cmp .leq (.c 0) bl37)
 (.ask (.cmp .leq bl37 (.c 1000))
 (.ask (.cmp .leq (.c 0) bl42)
 (.ask (.cmp .leq bl42 (.c 1000))
 (.ask (.cmp .leq (.c 0) bl55)
 (.ask (.cmp .leq bl55 bl66)
 (.ask (.cmp .leq bl48 (.c 0))
 (blC0
 (.ask (.cmp .leq bl32 (.c 0))
 (.ask (.cmp .eql bl32 (.c 0))
 (.ask (.cmp .eql bl77 (.c 0))
 (.ask (.cmp .leq bl59 (.c 0))
 (.ask (.cmp .eql bl66 (.c 0))
 (.leaf (.c true))
 .dead)
 (.leaf (.c true)))
 .dead)
 .dead)
 (.ask (.cmp .leq bl84 bl77)
 .dead
 (.ask (.cmp .eql bl32 (.c 0))
 .dead
 (.ask (.cmp .leq bl59 (.c 0))
 (.ask (.cmp .eql bl66 (.c 0))
 (.leaf (.c true))
 .dead)
 (.leaf (.c true)))))))
 (.ask (.cmp .leq bl59 (.c 0))
 .dead
 (blC0
 (.ask (.cmp .leq bl32 (.c 0))
 (.ask (.cmp .eql bl32 (.c 0))
 (.ask (.cmp .eql bl77 (.c 0))
 (.leaf (.c true))
 .dead)
 .dead)
 (.ask (.cmp .leq bl84 bl77)
 .dead
 (.ask (.cmp .eql bl32 (.c 0))
 .dead
 (.ask (.cmp .leq bl55 (.c 0))
 .dead
 (.leaf (.c true)))))))))
 .dead)
 .dead)
 .dead)
 .dead)
 .dead)
 .dead)
 .dead)
 .dead)
 .dead)
 .dead)
 .dead)
 .dead)
 .dead)
 .dead)
 .dead)
 .dead)
 .dead)
 .dead)
 .dead)
 .dead)
 .dead)
 .dead)
 .dead)
 .dead)
 .dead)
 .dead)
 .dead)
 .dead)
 .dead))
end Go.Proofs.Ytknphpihipkdpaa.Cx
