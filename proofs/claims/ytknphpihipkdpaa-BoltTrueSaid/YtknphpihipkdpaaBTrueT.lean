/- BoltTrue: the tests of the law and their arithmetic. Made by tools/cxroot.py. -/
import Derived.Test.YtknphpihipkdpaaCxS
set_option linter.unusedSimpArgs false
set_option linter.unusedVariables false
set_option maxRecDepth 100000
set_option maxHeartbeats 4000000
namespace Go.Proofs.Ytknphpihipkdpaa.Cx
open Go Go.RowKit

def bt0 : IE := .bin .rem .u8 (.v 13) (.c 3)
def bt1 : IE := .bin .conv .i64 (.v 0) (.c 0)
def bt2 : IE := .bin .mul .i64 (.c 10) bt1
def bt3 : IE := .bin .add .i64 (.c 1) bt2
def bt4 : IE := .bin .conv .i64 (.v 1) (.c 0)
def bt5 : IE := .bin .mul .i64 (.c 20) bt4
def bt6 : IE := .bin .conv .i64 (.v 2) (.c 0)
def bt7 : IE := .bin .mul .i64 (.c 30) bt6
def bt8 : IE := .bin .conv .i64 (.v 3) (.c 0)
def bt9 : IE := .bin .conv .i64 (.v 4) (.c 0)
def bt10 : IE := .bin .rem .i64 bt9 (.c 60)
def bt11 : IE := .bin .add .i64 bt8 bt10
def bt12 : IE := .bin .conv .i64 (.v 5) (.c 0)
def bt13 : IE := .bin .conv .i64 (.v 6) (.c 0)
def bt14 : IE := .bin .rem .i64 bt13 (.c 60)
def bt15 : IE := .bin .add .i64 bt12 bt14
def bt16 : IE := .bin .conv .i64 (.v 7) (.c 0)
def bt17 : IE := .bin .mul .i64 (.c 100) bt16
def bt18 : IE := .bin .add .i64 (.c 1) bt17
def bt19 : IE := .bin .conv .i64 (.v 8) (.c 0)
def bt20 : IE := .bin .mul .i64 (.c 10) bt19
def bt21 : IE := .bin .add .i64 bt18 bt20
def bt22 : IE := .bin .conv .i64 (.v 9) (.c 0)
def bt23 : IE := .bin .add .i64 (.c 1) bt22
def bt24 : IE := .bin .conv .i64 (.v 10) (.c 0)
def bt25 : IE := .bin .rem .i64 bt24 (.c 20)
def bt26 : IE := .bin .add .i64 bt23 bt25
def bt27 : IE := .bin .conv .i64 (.v 11) (.c 0)
def bt28 : IE := .bin .mul .i64 (.c 100) bt27
def bt29 : IE := .bin .add .i64 (.c 1) bt28
def bt30 : IE := .bin .conv .i64 (.v 12) (.c 0)
def bt31 : IE := .bin .mul .i64 (.c 10) bt30
def bt32 : IE := .bin .add .i64 bt29 bt31
def bt33 : IE := .bin .conv .i64 (.v 14) (.c 0)
def bt34 : IE := .bin .mul .i64 (.c 500) bt33
def bt35 : IE := .bin .conv .i64 (.v 15) (.c 0)
def bt36 : IE := .bin .add .i64 bt34 bt35
def bt37 : IE := .bin .mul .i64 bt5 bt11
def bt38 : IE := .bin .mul .i64 bt7 bt15
def bt39 : IE := .bin .add .i64 bt37 bt38
def bt40 : IE := .bin .mul .i64 (.c 1000) bt3
def bt41 : IE := .bin .add .i64 bt39 bt40
def bt42 : IE := .bin .mul .i64 bt5 bt8
def bt43 : IE := .bin .mul .i64 bt7 bt12
def bt44 : IE := .bin .add .i64 bt42 bt43
def bt45 : IE := .bin .add .i64 bt44 bt40
def bt46 : IE := .bin .conv .i64 (.v 18) (.c 0)
def bt47 : IE := .bin .sub .i64 bt11 bt8
def bt48 : IE := .bin .mul .i64 bt46 bt47
def bt49 : IE := .bin .quo .i64 bt48 (.c 255)
def bt50 : IE := .bin .add .i64 bt8 bt49
def bt51 : IE := .bin .mul .i64 bt5 bt50
def bt52 : IE := .bin .add .i64 bt40 bt51
def bt53 : IE := .bin .conv .i64 (.v 19) (.c 0)
def bt54 : IE := .bin .sub .i64 bt15 bt12
def bt55 : IE := .bin .mul .i64 bt53 bt54
def bt56 : IE := .bin .quo .i64 bt55 (.c 255)
def bt57 : IE := .bin .add .i64 bt12 bt56
def bt58 : IE := .bin .mul .i64 bt7 bt57
def bt59 : IE := .bin .add .i64 bt52 bt58
def bt60 : IE := .bin .conv .i64 (.v 26) (.c 0)
def bt61 : IE := .bin .conv .i64 (.v 27) (.c 0)
def bt62 : IE := .bin .add .i64 bt60 bt61
def bt63 : IE := .bin .mul .i64 (.c 1000) bt34
def bt64 : IE := .bin .quo .i64 bt63 bt41
def bt65 : IE := .bin .add .i64 (.c 0) bt64
def bt66 : IE := .bin .conv .i64 (.v 20) (.c 0)
def bt67 : IE := .bin .sub .i64 bt36 bt34
def bt68 : IE := .bin .mul .i64 bt66 bt67
def bt69 : IE := .bin .quo .i64 bt68 (.c 255)
def bt70 : IE := .bin .add .i64 bt34 bt69
def bt71 : IE := .bin .mul .i64 (.c 1000) bt70
def bt72 : IE := .bin .quo .i64 bt71 bt59
def bt73 : IE := .bin .mul .i64 (.c 1000) bt36
def bt74 : IE := .bin .quo .i64 bt73 bt45
def bt75 : IE := .bin .add .i64 (.c 0) bt74
def bt76 : IE := .bin .mul .i64 (.c 255) bt47
def bt77 : IE := .bin .quo .i64 bt76 (.c 255)
def bt78 : IE := .bin .add .i64 bt8 bt77
def bt79 : IE := .bin .mul .i64 bt5 bt78
def bt80 : IE := .bin .add .i64 bt40 bt79
def bt81 : IE := .bin .mul .i64 (.c 255) bt54
def bt82 : IE := .bin .quo .i64 bt81 (.c 255)
def bt83 : IE := .bin .add .i64 bt12 bt82
def bt84 : IE := .bin .mul .i64 bt7 bt83
def bt85 : IE := .bin .add .i64 bt80 bt84
def bt86 : IE := .bin .mul .i64 (.c 0) bt67
def bt87 : IE := .bin .quo .i64 bt86 (.c 255)
def bt88 : IE := .bin .add .i64 bt34 bt87
def bt89 : IE := .bin .mul .i64 (.c 1000) bt88
def bt90 : IE := .bin .quo .i64 bt89 bt85
def bt91 : IE := .bin .mul .i64 (.c 0) bt47
def bt92 : IE := .bin .quo .i64 bt91 (.c 255)
def bt93 : IE := .bin .add .i64 bt8 bt92
def bt94 : IE := .bin .mul .i64 bt5 bt93
def bt95 : IE := .bin .add .i64 bt40 bt94
def bt96 : IE := .bin .mul .i64 (.c 0) bt54
def bt97 : IE := .bin .quo .i64 bt96 (.c 255)
def bt98 : IE := .bin .add .i64 bt12 bt97
def bt99 : IE := .bin .mul .i64 bt7 bt98
def bt100 : IE := .bin .add .i64 bt95 bt99
def bt101 : IE := .bin .mul .i64 (.c 255) bt67
def bt102 : IE := .bin .quo .i64 bt101 (.c 255)
def bt103 : IE := .bin .add .i64 bt34 bt102
def bt104 : IE := .bin .mul .i64 (.c 1000) bt103
def bt105 : IE := .bin .quo .i64 bt104 bt100
def bt106 : IE := .bin .sub .i64 bt65 bt62
def bt107 : IE := .bin .mx .i64 bt106 (.c 0)
def bt108 : IE := .bin .conv .i64 (.v 25) (.c 0)
def bt109 : IE := .bin .sub .i64 bt62 bt60
def bt110 : IE := .bin .mul .i64 bt108 bt109
def bt111 : IE := .bin .quo .i64 bt110 (.c 255)
def bt112 : IE := .bin .add .i64 bt60 bt111
def bt113 : IE := .bin .sub .i64 bt72 bt112
def bt114 : IE := .bin .mx .i64 (.c 0) bt113
def bt115 : IE := .bin .sub .i64 bt75 bt60
def bt116 : IE := .bin .mx .i64 bt115 (.c 0)
def bt117 : IE := .bin .sub .i64 bt32 bt29
def bt118 : IE := .bin .mul .i64 bt108 bt117
def bt119 : IE := .bin .quo .i64 bt118 (.c 255)
def bt120 : IE := .bin .add .i64 bt29 bt119
def bt121 : IE := .bin .conv .i64 (.v 16) (.c 0)
def bt122 : IE := .bin .rem .i64 bt121 (.c 1000)
def bt123 : IE := .bin .conv .i64 (.v 17) (.c 0)
def bt124 : IE := .bin .rem .i64 bt123 (.c 50)
def bt125 : IE := .bin .add .i64 bt122 bt124
def bt126 : IE := .bin .mul .i64 bt18 bt122
def bt127 : IE := .bin .quo .i64 bt126 (.c 1000)
def bt128 : IE := .bin .add .i64 bt127 bt64
def bt129 : IE := .bin .conv .i64 (.v 21) (.c 0)
def bt130 : IE := .bin .sub .i64 bt21 bt18
def bt131 : IE := .bin .mul .i64 bt129 bt130
def bt132 : IE := .bin .quo .i64 bt131 (.c 255)
def bt133 : IE := .bin .add .i64 bt18 bt132
def bt134 : IE := .bin .conv .i64 (.v 22) (.c 0)
def bt135 : IE := .bin .sub .i64 bt125 bt122
def bt136 : IE := .bin .mul .i64 bt134 bt135
def bt137 : IE := .bin .quo .i64 bt136 (.c 255)
def bt138 : IE := .bin .add .i64 bt122 bt137
def bt139 : IE := .bin .mul .i64 bt133 bt138
def bt140 : IE := .bin .quo .i64 bt139 (.c 1000)
def bt141 : IE := .bin .add .i64 bt72 bt140
def bt142 : IE := .bin .mul .i64 bt21 bt125
def bt143 : IE := .bin .quo .i64 bt142 (.c 1000)
def bt144 : IE := .bin .add .i64 bt143 bt74
def bt145 : IE := .bin .mul .i64 (.c 0) bt130
def bt146 : IE := .bin .quo .i64 bt145 (.c 255)
def bt147 : IE := .bin .add .i64 bt18 bt146
def bt148 : IE := .bin .mul .i64 (.c 0) bt135
def bt149 : IE := .bin .quo .i64 bt148 (.c 255)
def bt150 : IE := .bin .add .i64 bt122 bt149
def bt151 : IE := .bin .mul .i64 bt147 bt150
def bt152 : IE := .bin .quo .i64 bt151 (.c 1000)
def bt153 : IE := .bin .add .i64 bt90 bt152
def bt154 : IE := .bin .mul .i64 (.c 255) bt130
def bt155 : IE := .bin .quo .i64 bt154 (.c 255)
def bt156 : IE := .bin .add .i64 bt18 bt155
def bt157 : IE := .bin .mul .i64 (.c 255) bt135
def bt158 : IE := .bin .quo .i64 bt157 (.c 255)
def bt159 : IE := .bin .add .i64 bt122 bt158
def bt160 : IE := .bin .mul .i64 bt156 bt159
def bt161 : IE := .bin .quo .i64 bt160 (.c 1000)
def bt162 : IE := .bin .add .i64 bt105 bt161
def bt163 : IE := .bin .sub .i64 bt128 bt62
def bt164 : IE := .bin .mx .i64 bt163 (.c 0)
def bt165 : IE := .bin .sub .i64 bt141 bt112
def bt166 : IE := .bin .mx .i64 (.c 0) bt165
def bt167 : IE := .bin .sub .i64 bt144 bt60
def bt168 : IE := .bin .mx .i64 bt167 (.c 0)
def bt169 : IE := .bin .rem .i64 bt121 (.c 500)
def bt170 : IE := .bin .add .i64 bt169 bt124
def bt171 : IE := .bin .mul .i64 bt23 bt169
def bt172 : IE := .bin .conv .i64 (.v 23) (.c 0)
def bt173 : IE := .bin .sub .i64 bt26 bt23
def bt174 : IE := .bin .mul .i64 bt172 bt173
def bt175 : IE := .bin .quo .i64 bt174 (.c 255)
def bt176 : IE := .bin .add .i64 bt23 bt175
def bt177 : IE := .bin .conv .i64 (.v 24) (.c 0)
def bt178 : IE := .bin .sub .i64 bt170 bt169
def bt179 : IE := .bin .mul .i64 bt177 bt178
def bt180 : IE := .bin .quo .i64 bt179 (.c 255)
def bt181 : IE := .bin .add .i64 bt169 bt180
def bt182 : IE := .bin .mul .i64 bt176 bt181
def bt183 : IE := .bin .mul .i64 bt26 bt170
def bt184 : IE := .bin .mul .i64 (.c 0) bt173
def bt185 : IE := .bin .quo .i64 bt184 (.c 255)
def bt186 : IE := .bin .add .i64 bt23 bt185
def bt187 : IE := .bin .mul .i64 (.c 0) bt178
def bt188 : IE := .bin .quo .i64 bt187 (.c 255)
def bt189 : IE := .bin .add .i64 bt169 bt188
def bt190 : IE := .bin .mul .i64 bt186 bt189
def bt191 : IE := .bin .mul .i64 (.c 255) bt173
def bt192 : IE := .bin .quo .i64 bt191 (.c 255)
def bt193 : IE := .bin .add .i64 bt23 bt192
def bt194 : IE := .bin .mul .i64 (.c 255) bt178
def bt195 : IE := .bin .quo .i64 bt194 (.c 255)
def bt196 : IE := .bin .add .i64 bt169 bt195
def bt197 : IE := .bin .mul .i64 bt193 bt196
def bt198 : IE := .bin .sub .i64 bt171 bt62
def bt199 : IE := .bin .mx .i64 bt198 (.c 0)
def bt200 : IE := .bin .sub .i64 bt182 bt112
def bt201 : IE := .bin .mx .i64 (.c 0) bt200
def bt202 : IE := .bin .sub .i64 bt183 bt60
def bt203 : IE := .bin .mx .i64 bt202 (.c 0)
def btC0 (t : DT) : DT := (.ask (.cmp .leq bt3 (.c 0)) .dead (.ask (.cmp .leq (.c 0) bt3) (.ask (.cmp .leq bt3 (.c 100000)) (.ask (.cmp .leq (.c 0) bt5) (.ask (.cmp .leq bt5 (.c 100000)) (.ask (.cmp .leq (.c 0) bt7) (.ask (.cmp .leq bt7 (.c 100000)) (.ask (.cmp .leq (.c 0) bt8) (.ask (.cmp .leq bt8 bt11) (.ask (.cmp .leq bt11 (.c 1000)) (.ask (.cmp .leq (.c 0) bt12) t .dead) .dead) .dead) .dead) .dead) .dead) .dead) .dead) .dead) .dead))
def btC1 (t : DT) : DT := (.ask (.cmp .leq bt12 bt15) (.ask (.cmp .leq bt15 (.c 1000)) (.ask (.cmp .leq (.c 1) bt18) (.ask (.cmp .leq bt18 bt21) t .dead) .dead) .dead) .dead)
def btC2 (t : DT) : DT := (.ask (.cmp .leq bt21 (.c 100000000)) (.ask (.cmp .leq (.c 1) bt23) (.ask (.cmp .leq bt23 bt26) t .dead) .dead) .dead)
def btC3 (t : DT) : DT := (.ask (.cmp .leq bt26 (.c 100000)) (.ask (.cmp .leq (.c 1) bt29) (.ask (.cmp .leq bt29 bt32) (.ask (.cmp .leq bt32 (.c 100000000)) (.ask (.cmp .leq (.c 0) bt34) t .dead) .dead) .dead) .dead) .dead)
def btC4 (t : DT) : DT := (.ask (.cmp .eql bt45 (.c 0)) .dead (.ask (.cmp .eql bt59 (.c 0)) .dead (.ask (.cmp .leq (.c 0) bt60) (.ask (.cmp .leq bt60 bt62) t .dead) .dead)))
def btTree : DT :=
(.ask (.cmp .eql bt0 (.c 0))
 (btC0
 (btC1
 (btC2
 (btC3
 (.ask (.cmp .leq bt34 bt36)
 (.ask (.cmp .leq bt36 (.c 10000000000000))
 (.ask (.cmp .eql bt41 (.c 0))
 .dead
 (btC4
 (.ask (.cmp .leq bt62 (.c 100000000))
 (.ask (.cmp .leq bt65 bt72)
 (.ask (.cmp .leq bt72 bt75)
 (.ask (.cmp .eql bt85 (.c 0))
 .dead
 (.ask (.cmp .eql bt65 bt90)
 (.ask (.cmp .eql bt100 (.c 0))
 .dead
 (.ask (.cmp .eql bt75 bt105)
 (.ask (.cmp .leq bt107 bt114)
 (.ask (.cmp .leq bt114 bt116)
 (.ask (.cmp .leq bt75 bt29)
 (.ask (.cmp .leq bt72 bt120)
 (.ask (.cmp .leq bt65 bt32)
 (.leaf (.c true))
 .dead)
 .dead)
 (.ask (.cmp .leq bt65 bt32)
 (.leaf (.c true))
 (.ask (.cmp .leq bt72 bt120)
 .dead
 (.leaf (.c true)))))
 .dead)
 .dead)
 .dead))
 .dead))
 .dead)
 .dead)
 .dead)))
 .dead)
 .dead)))))
 (.ask (.cmp .eql bt0 (.c 1))
 (btC0
 (btC1
 (btC2
 (btC3
 (.ask (.cmp .leq bt34 bt36)
 (.ask (.cmp .leq bt36 (.c 10000000000000))
 (.ask (.cmp .leq (.c 0) bt122)
 (.ask (.cmp .leq bt122 bt125)
 (.ask (.cmp .leq bt125 (.c 100000))
 (.ask (.cmp .eql bt41 (.c 0))
 .dead
 (btC4
 (.ask (.cmp .leq bt62 (.c 100000000))
 (.ask (.cmp .leq bt128 bt141)
 (.ask (.cmp .leq bt141 bt144)
 (.ask (.cmp .eql bt85 (.c 0))
 .dead
 (.ask (.cmp .eql bt128 bt153)
 (.ask (.cmp .eql bt100 (.c 0))
 .dead
 (.ask (.cmp .eql bt144 bt162)
 (.ask (.cmp .leq bt164 bt166)
 (.ask (.cmp .leq bt166 bt168)
 (.ask (.cmp .leq bt144 bt29)
 (.ask (.cmp .leq bt141 bt120)
 (.ask (.cmp .leq bt128 bt32)
 (.leaf (.c true))
 .dead)
 .dead)
 (.ask (.cmp .leq bt128 bt32)
 (.leaf (.c true))
 (.ask (.cmp .leq bt141 bt120)
 .dead
 (.leaf (.c true)))))
 .dead)
 .dead)
 .dead))
 .dead))
 .dead)
 .dead)
 .dead)))
 .dead)
 .dead)
 .dead)
 .dead)
 .dead)))))
 (btC0
 (btC1
 (btC2
 (.ask (.cmp .leq bt26 (.c 100000))
 (.ask (.cmp .leq (.c 1) bt29)
 (.ask (.cmp .leq bt29 bt32)
 (.ask (.cmp .leq bt32 (.c 100000000))
 (.ask (.cmp .leq (.c 0) bt169)
 (.ask (.cmp .leq bt169 bt170)
 (.ask (.cmp .leq bt170 (.c 100000))
 (.ask (.cmp .leq (.c 0) bt60)
 (.ask (.cmp .leq bt60 bt62)
 (.ask (.cmp .leq bt62 (.c 100000000))
 (.ask (.cmp .leq bt171 bt182)
 (.ask (.cmp .leq bt182 bt183)
 (.ask (.cmp .eql bt171 bt190)
 (.ask (.cmp .eql bt183 bt197)
 (.ask (.cmp .leq bt199 bt201)
 (.ask (.cmp .leq bt201 bt203)
 (.ask (.cmp .leq bt183 bt29)
 (.ask (.cmp .leq bt182 bt120)
 (.ask (.cmp .leq bt171 bt32)
 (.leaf (.c true))
 .dead)
 .dead)
 (.ask (.cmp .leq bt171 bt32)
 (.leaf (.c true))
 (.ask (.cmp .leq bt182 bt120)
 .dead
 (.leaf (.c true)))))
 .dead)
 .dead)
 .dead)
 .dead)
 .dead)
 .dead)
 .dead)
 .dead)
 .dead)
 .dead)
 .dead)
 .dead)
 .dead)
 .dead)
 .dead)
 .dead))))))
end Go.Proofs.Ytknphpihipkdpaa.Cx
