/- BoltRights: the tests of the law and their arithmetic. Made by tools/cxroot.py. -/
import Derived.Test.YtknphpihipkdpaaCxS
set_option linter.unusedSimpArgs false
set_option linter.unusedVariables false
set_option maxRecDepth 100000
set_option maxHeartbeats 4000000
namespace Go.Proofs.Ytknphpihipkdpaa.Cx
open Go Go.RowKit

def br0 : IE := .bin .conv .i64 (.v 0) (.c 0)
def br1 : IE := .bin .mul .i64 (.c 10) br0
def br2 : IE := .bin .add .i64 (.c 1) br1
def br3 : IE := .bin .conv .i64 (.v 1) (.c 0)
def br4 : IE := .bin .mul .i64 (.c 20) br3
def br5 : IE := .bin .conv .i64 (.v 2) (.c 0)
def br6 : IE := .bin .mul .i64 (.c 30) br5
def br7 : IE := .bin .conv .i64 (.v 3) (.c 0)
def br8 : IE := .bin .conv .i64 (.v 4) (.c 0)
def br9 : IE := .bin .rem .i64 br8 (.c 60)
def br10 : IE := .bin .add .i64 br7 br9
def br11 : IE := .bin .conv .i64 (.v 5) (.c 0)
def br12 : IE := .bin .conv .i64 (.v 6) (.c 0)
def br13 : IE := .bin .rem .i64 br12 (.c 60)
def br14 : IE := .bin .add .i64 br11 br13
def br15 : IE := .bin .conv .i64 (.v 7) (.c 0)
def br16 : IE := .bin .mul .i64 (.c 100) br15
def br17 : IE := .bin .add .i64 (.c 1) br16
def br18 : IE := .bin .conv .i64 (.v 8) (.c 0)
def br19 : IE := .bin .mul .i64 (.c 10) br18
def br20 : IE := .bin .add .i64 br17 br19
def br21 : IE := .bin .conv .i64 (.v 9) (.c 0)
def br22 : IE := .bin .add .i64 (.c 1) br21
def br23 : IE := .bin .conv .i64 (.v 10) (.c 0)
def br24 : IE := .bin .rem .i64 br23 (.c 20)
def br25 : IE := .bin .add .i64 br22 br24
def br26 : IE := .bin .conv .i64 (.v 11) (.c 0)
def br27 : IE := .bin .mul .i64 (.c 100) br26
def br28 : IE := .bin .add .i64 (.c 1) br27
def br29 : IE := .bin .conv .i64 (.v 12) (.c 0)
def br30 : IE := .bin .mul .i64 (.c 10) br29
def br31 : IE := .bin .add .i64 br28 br30
def br32 : IE := .bin .conv .i64 (.v 26) (.c 0)
def br33 : IE := .bin .quo .i64 br32 (.c 4)
def br34 : IE := .bin .conv .i64 (.v 27) (.c 0)
def br35 : IE := .bin .add .i64 br33 br34
def br36 : IE := .bin .mn .i16 (.v 28) (.v 29)
def br37 : IE := .bin .conv .i64 br36 (.c 0)
def br38 : IE := .bin .mx .i16 (.v 28) (.v 29)
def br39 : IE := .bin .conv .i64 br38 (.c 0)
def br40 : IE := .bin .mul .i64 br4 br10
def br41 : IE := .bin .mul .i64 br6 br14
def br42 : IE := .bin .add .i64 br40 br41
def br43 : IE := .bin .mul .i64 (.c 1000) br2
def br44 : IE := .bin .add .i64 br42 br43
def br45 : IE := .bin .mul .i64 br33 br44
def br46 : IE := .bin .quo .i64 br45 (.c 1000)
def br47 : IE := .bin .rem .i64 br45 (.c 1000)
def br48 : IE := .bin .mx .i64 (.c 0) br47
def br49 : IE := .bin .mn .i64 (.c 1) br48
def br50 : IE := .bin .add .i64 br46 br49
def br51 : IE := .bin .mn .i64 br35 br28
def br52 : IE := .bin .add .i64 br51 (.c 1)
def br53 : IE := .bin .mul .i64 br4 br7
def br54 : IE := .bin .mul .i64 br6 br11
def br55 : IE := .bin .add .i64 br53 br54
def br56 : IE := .bin .add .i64 br55 br43
def br57 : IE := .bin .mul .i64 br52 br56
def br58 : IE := .bin .quo .i64 br57 (.c 1000)
def br59 : IE := .bin .rem .i64 br57 (.c 1000)
def br60 : IE := .bin .mx .i64 (.c 0) br59
def br61 : IE := .bin .mn .i64 (.c 1) br60
def br62 : IE := .bin .add .i64 br58 br61
def br63 : IE := .bin .sub .i64 br62 (.c 1)
def br64 : IE := .bin .sub .i64 br63 br39
def br65 : IE := .bin .mn .i64 br64 (.c 10000000000000)
def br66 : IE := .bin .add .i64 (.c 0) br37
def br67 : IE := .bin .mx .i64 (.c 0) br66
def br68 : IE := .bin .add .i64 (.c 0) br39
def br69 : IE := .bin .mx .i64 (.c 0) br68
def br70 : IE := .bin .mul .i64 (.c 1000) br69
def br71 : IE := .bin .quo .i64 br70 br56
def br72 : IE := .bin .add .i64 (.c 0) br71
def br73 : IE := .bin .mul .i64 (.c 1000) br67
def br74 : IE := .bin .quo .i64 br73 br44
def br75 : IE := .bin .add .i64 (.c 0) br74
def br76 : IE := .bin .add .i64 br65 br37
def br77 : IE := .bin .mx .i64 (.c 0) br76
def br78 : IE := .bin .add .i64 br65 br39
def br79 : IE := .bin .mx .i64 (.c 0) br78
def br80 : IE := .bin .mul .i64 (.c 1000) br79
def br81 : IE := .bin .quo .i64 br80 br56
def br82 : IE := .bin .add .i64 (.c 0) br81
def br83 : IE := .bin .mul .i64 (.c 1000) br77
def br84 : IE := .bin .quo .i64 br83 br44
def br85 : IE := .bin .add .i64 (.c 0) br84
def br86 : IE := .bin .sub .i64 br65 (.c 0)
def br87 : IE := .bin .quo .i64 br86 (.c 2)
def br88 : IE := .bin .add .i64 (.c 0) br87
def br89 : IE := .bin .add .i64 br88 br37
def br90 : IE := .bin .mx .i64 (.c 0) br89
def br91 : IE := .bin .add .i64 br88 br39
def br92 : IE := .bin .mx .i64 (.c 0) br91
def br93 : IE := .bin .mul .i64 (.c 1000) br92
def br94 : IE := .bin .quo .i64 br93 br56
def br95 : IE := .bin .add .i64 (.c 0) br94
def br96 : IE := .bin .mul .i64 (.c 1000) br90
def br97 : IE := .bin .quo .i64 br96 br44
def br98 : IE := .bin .add .i64 (.c 0) br97
def br99 : IE := .bin .conv .i64 (.v 18) (.c 0)
def br100 : IE := .bin .sub .i64 br10 br7
def br101 : IE := .bin .mul .i64 br99 br100
def br102 : IE := .bin .quo .i64 br101 (.c 255)
def br103 : IE := .bin .add .i64 br7 br102
def br104 : IE := .bin .mul .i64 br4 br103
def br105 : IE := .bin .add .i64 br43 br104
def br106 : IE := .bin .conv .i64 (.v 19) (.c 0)
def br107 : IE := .bin .sub .i64 br14 br11
def br108 : IE := .bin .mul .i64 br106 br107
def br109 : IE := .bin .quo .i64 br108 (.c 255)
def br110 : IE := .bin .add .i64 br11 br109
def br111 : IE := .bin .mul .i64 br6 br110
def br112 : IE := .bin .add .i64 br105 br111
def br113 : IE := .bin .conv .i64 (.v 21) (.c 0)
def br114 : IE := .bin .mul .i64 br113 br86
def br115 : IE := .bin .quo .i64 br114 (.c 255)
def br116 : IE := .bin .add .i64 (.c 0) br115
def br117 : IE := .bin .conv .i64 (.v 20) (.c 0)
def br118 : IE := .bin .sub .i64 br39 br37
def br119 : IE := .bin .mul .i64 br117 br118
def br120 : IE := .bin .quo .i64 br119 (.c 255)
def br121 : IE := .bin .add .i64 br37 br120
def br122 : IE := .bin .add .i64 br116 br121
def br123 : IE := .bin .mx .i64 (.c 0) br122
def br124 : IE := .bin .sub .i64 br123 br123
def br125 : IE := .bin .mul .i64 br117 br124
def br126 : IE := .bin .quo .i64 br125 (.c 255)
def br127 : IE := .bin .add .i64 br123 br126
def br128 : IE := .bin .mul .i64 (.c 1000) br127
def br129 : IE := .bin .quo .i64 br128 br112
def br130 : IE := .bin .conv .i64 (.v 25) (.c 0)
def br131 : IE := .bin .sub .i64 br31 br28
def br132 : IE := .bin .mul .i64 br130 br131
def br133 : IE := .bin .quo .i64 br132 (.c 255)
def br134 : IE := .bin .add .i64 br28 br133
def br135 : IE := .bin .add .i64 br65 (.c 1)
def br136 : IE := .bin .add .i64 br135 br37
def br137 : IE := .bin .mx .i64 (.c 0) br136
def br138 : IE := .bin .add .i64 br135 br39
def br139 : IE := .bin .mx .i64 (.c 0) br138
def br140 : IE := .bin .mul .i64 (.c 1000) br139
def br141 : IE := .bin .quo .i64 br140 br56
def br142 : IE := .bin .add .i64 (.c 0) br141
def br143 : IE := .bin .mul .i64 (.c 1000) br137
def br144 : IE := .bin .quo .i64 br143 br44
def br145 : IE := .bin .add .i64 (.c 0) br144
def br146 : IE := .bin .add .i64 br104 br111
def br147 : IE := .bin .add .i64 br43 br146
def br148 : IE := .bin .mul .i64 br33 br147
def br149 : IE := .bin .quo .i64 br148 (.c 1000)
def br150 : IE := .bin .rem .i64 br148 (.c 1000)
def br151 : IE := .bin .mx .i64 (.c 0) br150
def br152 : IE := .bin .mn .i64 (.c 1) br151
def br153 : IE := .bin .add .i64 br149 br152
def br154 : IE := .bin .add .i64 br153 br37
def br155 : IE := .bin .mx .i64 (.c 0) br154
def br156 : IE := .bin .add .i64 br153 br39
def br157 : IE := .bin .mx .i64 (.c 0) br156
def br158 : IE := .bin .mul .i64 (.c 1000) br157
def br159 : IE := .bin .quo .i64 br158 br56
def br160 : IE := .bin .add .i64 (.c 0) br159
def br161 : IE := .bin .mul .i64 (.c 1000) br155
def br162 : IE := .bin .quo .i64 br161 br44
def br163 : IE := .bin .add .i64 (.c 0) br162
def br164 : IE := .bin .sub .i64 br153 br37
def br165 : IE := .bin .mx .i64 (.c 0) br164
def br166 : IE := .bin .add .i64 br165 br37
def br167 : IE := .bin .mx .i64 (.c 0) br166
def br168 : IE := .bin .add .i64 br165 br39
def br169 : IE := .bin .mx .i64 (.c 0) br168
def br170 : IE := .bin .mul .i64 (.c 1000) br169
def br171 : IE := .bin .quo .i64 br170 br56
def br172 : IE := .bin .add .i64 (.c 0) br171
def br173 : IE := .bin .mul .i64 (.c 1000) br167
def br174 : IE := .bin .quo .i64 br173 br44
def br175 : IE := .bin .add .i64 (.c 0) br174
def br176 : IE := .bin .sub .i64 br50 br37
def br177 : IE := .bin .mx .i64 br176 (.c 0)
def br178 : IE := .bin .add .i64 br177 br37
def br179 : IE := .bin .mx .i64 (.c 0) br178
def br180 : IE := .bin .add .i64 br177 br39
def br181 : IE := .bin .mx .i64 (.c 0) br180
def br182 : IE := .bin .mul .i64 (.c 1000) br181
def br183 : IE := .bin .quo .i64 br182 br56
def br184 : IE := .bin .add .i64 (.c 0) br183
def br185 : IE := .bin .mul .i64 (.c 1000) br179
def br186 : IE := .bin .quo .i64 br185 br44
def br187 : IE := .bin .add .i64 (.c 0) br186
def br188 : IE := .bin .sub .i64 br65 br177
def br189 : IE := .bin .quo .i64 br188 (.c 2)
def br190 : IE := .bin .add .i64 br177 br189
def br191 : IE := .bin .add .i64 br190 br37
def br192 : IE := .bin .mx .i64 (.c 0) br191
def br193 : IE := .bin .add .i64 br190 br39
def br194 : IE := .bin .mx .i64 (.c 0) br193
def br195 : IE := .bin .mul .i64 (.c 1000) br194
def br196 : IE := .bin .quo .i64 br195 br56
def br197 : IE := .bin .add .i64 (.c 0) br196
def br198 : IE := .bin .mul .i64 (.c 1000) br192
def br199 : IE := .bin .quo .i64 br198 br44
def br200 : IE := .bin .add .i64 (.c 0) br199
def br201 : IE := .bin .mul .i64 br113 br188
def br202 : IE := .bin .quo .i64 br201 (.c 255)
def br203 : IE := .bin .add .i64 br177 br202
def br204 : IE := .bin .add .i64 br203 br121
def br205 : IE := .bin .mx .i64 (.c 0) br204
def br206 : IE := .bin .sub .i64 br205 br205
def br207 : IE := .bin .mul .i64 br117 br206
def br208 : IE := .bin .quo .i64 br207 (.c 255)
def br209 : IE := .bin .add .i64 br205 br208
def br210 : IE := .bin .mul .i64 (.c 1000) br209
def br211 : IE := .bin .quo .i64 br210 br112
def br212 : IE := .bin .sub .i64 br177 (.c 1)
def br213 : IE := .bin .add .i64 br212 br37
def br214 : IE := .bin .mx .i64 (.c 0) br213
def br215 : IE := .bin .add .i64 br212 br39
def br216 : IE := .bin .mx .i64 (.c 0) br215
def br217 : IE := .bin .mul .i64 (.c 1000) br216
def br218 : IE := .bin .quo .i64 br217 br56
def br219 : IE := .bin .add .i64 (.c 0) br218
def br220 : IE := .bin .mul .i64 (.c 1000) br214
def br221 : IE := .bin .quo .i64 br220 br44
def br222 : IE := .bin .add .i64 (.c 0) br221
def brC0 (t : DT) : DT := (.ask (.cmp .leq (.c 0) br77) (.ask (.cmp .leq br77 br79) (.ask (.cmp .leq br79 (.c 10000000000000)) t .dead) .dead) .dead)
def brC1 (t : DT) : DT := (.ask (.cmp .leq (.c 0) br137) (.ask (.cmp .leq br137 br139) (.ask (.cmp .leq br139 (.c 10000000000000)) t .dead) .dead) .dead)
def brC2 (t : DT) : DT := (.ask (.cmp .leq (.c 0) br103) (.ask (.cmp .leq br103 (.c 1000)) (.ask (.cmp .leq (.c 0) br110) (.ask (.cmp .leq br110 (.c 1000)) (.ask (.cmp .leq (.c 0) br67) (.ask (.cmp .leq br67 br69) (.ask (.cmp .leq br69 (.c 10000000000000)) (.ask (.cmp .eql br44 (.c 0)) .dead (.ask (.cmp .eql br56 (.c 0)) .dead t)) .dead) .dead) .dead) .dead) .dead) .dead) .dead)
def brC3 (t : DT) : DT := (.ask (.cmp .leq (.c 0) br155) (.ask (.cmp .leq br155 br157) t .dead) .dead)
def brC4 (t : DT) : DT := (.ask (.cmp .leq (.c 0) br167) (.ask (.cmp .leq br167 br169) t .dead) .dead)
def brTree : DT :=
(.ask (.cmp .leq br2 (.c 0))
 .dead
 (.ask (.cmp .leq (.c 0) br2)
 (.ask (.cmp .leq br2 (.c 100000))
 (.ask (.cmp .leq (.c 0) br4)
 (.ask (.cmp .leq br4 (.c 100000))
 (.ask (.cmp .leq (.c 0) br6)
 (.ask (.cmp .leq br6 (.c 100000))
 (.ask (.cmp .leq (.c 0) br7)
 (.ask (.cmp .leq br7 br10)
 (.ask (.cmp .leq br10 (.c 1000))
 (.ask (.cmp .leq (.c 0) br11)
 (.ask (.cmp .leq br11 br14)
 (.ask (.cmp .leq br14 (.c 1000))
 (.ask (.cmp .leq (.c 1) br17)
 (.ask (.cmp .leq br17 br20)
 (.ask (.cmp .leq br20 (.c 100000000))
 (.ask (.cmp .leq (.c 1) br22)
 (.ask (.cmp .leq br22 br25)
 (.ask (.cmp .leq br25 (.c 100000))
 (.ask (.cmp .leq (.c 1) br28)
 (.ask (.cmp .leq br28 br31)
 (.ask (.cmp .leq br31 (.c 100000000))
 (.ask (.cmp .leq (.c 0) br33)
 (.ask (.cmp .leq br33 br35)
 (.ask (.cmp .leq br35 (.c 100000000))
 (.ask (.cmp .leq (.c (-10000000000000)) br37)
 (.ask (.cmp .leq br37 br39)
 (.ask (.cmp .leq br39 (.c 10000000000000))
 (.ask (.cmp .leq br50 (.c 0))
 (.ask (.cmp .leq (.c 0) br65)
 (.ask (.cmp .leq br65 (.c 10000000000000))
 (.ask (.cmp .leq (.c 0) br67)
 (.ask (.cmp .leq br67 br69)
 (.ask (.cmp .leq br69 (.c 10000000000000))
 (.ask (.cmp .eql br44 (.c 0))
 .dead
 (.ask (.cmp .eql br56 (.c 0))
 .dead
 (.ask (.cmp .leq br72 br28)
 (.ask (.cmp .leq br33 br75)
 (.ask (.cmp .leq br72 br35)
 (brC0
 (.ask (.cmp .leq br82 br28)
 (.ask (.cmp .leq br33 br85)
 (.ask (.cmp .leq br82 br35)
 (.ask (.cmp .leq (.c 0) br90)
 (.ask (.cmp .leq br90 br92)
 (.ask (.cmp .leq br92 (.c 10000000000000))
 (.ask (.cmp .leq br95 br28)
 (.ask (.cmp .leq br33 br98)
 (.ask (.cmp .leq br95 br35)
 (.ask (.cmp .eql br112 (.c 0))
 .dead
 (.ask (.cmp .leq br33 br129)
 (.ask (.cmp .leq br129 br35)
 (.ask (.cmp .leq br129 br134)
 (.ask (.cmp .eql br65 (.c 10000000000000))
 .dead
 (brC1
 (.ask (.cmp .leq br142 br28)
 (.ask (.cmp .leq br33 br145)
 (.ask (.cmp .leq br142 br35)
 .dead
 (.leaf (.c true)))
 .dead)
 (.leaf (.c true)))))
 .dead)
 .dead)
 .dead))
 .dead)
 .dead)
 .dead)
 .dead)
 .dead)
 .dead)
 .dead)
 .dead)
 .dead))
 .dead)
 .dead)
 .dead)))
 .dead)
 .dead)
 .dead)
 .dead)
 (.ask (.cmp .leq br33 (.c 100000000))
 (brC2
 (.ask (.cmp .leq br72 br28)
 (.ask (.cmp .leq br33 br75)
 (.ask (.cmp .leq br72 br35)
 .dead
 (brC3
 (.ask (.cmp .leq br157 (.c 10000000000000))
 (.ask (.cmp .leq br160 br28)
 (.ask (.cmp .leq br33 br163)
 (.ask (.cmp .leq br160 br35)
 .dead
 (brC4
 (.ask (.cmp .leq br169 (.c 10000000000000))
 (.ask (.cmp .leq br172 br28)
 (.ask (.cmp .leq br33 br175)
 (.ask (.cmp .leq br172 br35)
 .dead
 (.leaf (.c true)))
 .dead)
 (.leaf (.c true)))
 .dead)))
 .dead)
 .dead)
 .dead)))
 .dead)
 (brC3
 (.ask (.cmp .leq br157 (.c 10000000000000))
 (.ask (.cmp .leq br160 br28)
 .dead
 (brC4
 (.ask (.cmp .leq br169 (.c 10000000000000))
 (.ask (.cmp .leq br172 br28)
 .dead
 (.leaf (.c true)))
 .dead)))
 .dead))))
 .dead))
 (.ask (.cmp .leq br177 br65)
 (.ask (.cmp .leq (.c 0) br177)
 (.ask (.cmp .leq br65 (.c 10000000000000))
 (.ask (.cmp .leq (.c 0) br179)
 (.ask (.cmp .leq br179 br181)
 (.ask (.cmp .leq br181 (.c 10000000000000))
 (.ask (.cmp .eql br44 (.c 0))
 .dead
 (.ask (.cmp .eql br56 (.c 0))
 .dead
 (.ask (.cmp .leq br184 br28)
 (.ask (.cmp .leq br33 br187)
 (.ask (.cmp .leq br184 br35)
 (brC0
 (.ask (.cmp .leq br82 br28)
 (.ask (.cmp .leq br33 br85)
 (.ask (.cmp .leq br82 br35)
 (.ask (.cmp .leq (.c 0) br192)
 (.ask (.cmp .leq br192 br194)
 (.ask (.cmp .leq br194 (.c 10000000000000))
 (.ask (.cmp .leq br197 br28)
 (.ask (.cmp .leq br33 br200)
 (.ask (.cmp .leq br197 br35)
 (.ask (.cmp .eql br112 (.c 0))
 .dead
 (.ask (.cmp .leq br33 br211)
 (.ask (.cmp .leq br211 br35)
 (.ask (.cmp .leq br211 br134)
 (.ask (.cmp .eql br177 (.c 0))
 (.ask (.cmp .eql br65 (.c 10000000000000))
 .dead
 (brC1
 (.ask (.cmp .leq br142 br28)
 (.ask (.cmp .leq br33 br145)
 (.ask (.cmp .leq br142 br35)
 .dead
 (.leaf (.c true)))
 .dead)
 (.leaf (.c true)))))
 (.ask (.cmp .leq (.c 0) br214)
 (.ask (.cmp .leq br214 br216)
 (.ask (.cmp .leq br216 (.c 10000000000000))
 (.ask (.cmp .leq br219 br28)
 (.ask (.cmp .leq br33 br222)
 .dead
 (.ask (.cmp .eql br65 (.c 10000000000000))
 .dead
 (brC1
 (.ask (.cmp .leq br142 br28)
 (.ask (.cmp .leq br33 br145)
 (.ask (.cmp .leq br142 br35)
 .dead
 (.leaf (.c true)))
 .dead)
 (.leaf (.c true))))))
 .dead)
 .dead)
 .dead)
 .dead))
 .dead)
 .dead)
 .dead))
 .dead)
 .dead)
 .dead)
 .dead)
 .dead)
 .dead)
 .dead)
 .dead)
 .dead))
 .dead)
 .dead)
 .dead)))
 .dead)
 .dead)
 .dead)
 .dead)
 .dead)
 (.ask (.cmp .leq br33 (.c 100000000))
 (brC2
 (.ask (.cmp .leq br72 br28)
 (.ask (.cmp .leq br33 br75)
 (.ask (.cmp .leq br72 br35)
 .dead
 (brC3
 (.ask (.cmp .leq br157 (.c 10000000000000))
 (.ask (.cmp .leq br160 br28)
 (.ask (.cmp .leq br33 br163)
 (.ask (.cmp .leq br160 br35)
 .dead
 (brC4
 (.ask (.cmp .leq br169 (.c 10000000000000))
 (.ask (.cmp .leq br172 br28)
 (.ask (.cmp .leq br33 br175)
 (.ask (.cmp .leq br172 br35)
 .dead
 (.leaf (.c true)))
 .dead)
 .dead)
 .dead)))
 .dead)
 (brC4
 (.ask (.cmp .leq br169 (.c 10000000000000))
 (.ask (.cmp .leq br172 br28)
 (.ask (.cmp .leq br33 br175)
 (.ask (.cmp .leq br172 br35)
 .dead
 (.leaf (.c true)))
 .dead)
 .dead)
 .dead)))
 .dead)))
 (brC3
 (.ask (.cmp .leq br157 (.c 10000000000000))
 (.ask (.cmp .leq br160 br28)
 (.ask (.cmp .leq br33 br163)
 (.ask (.cmp .leq br160 br35)
 .dead
 (brC4
 (.ask (.cmp .leq br169 (.c 10000000000000))
 (.ask (.cmp .leq br172 br28)
 (.ask (.cmp .leq br33 br175)
 (.ask (.cmp .leq br172 br35)
 .dead
 (.leaf (.c true)))
 (.leaf (.c true)))
 .dead)
 .dead)))
 (brC4
 (.ask (.cmp .leq br169 (.c 10000000000000))
 (.ask (.cmp .leq br172 br28)
 (.ask (.cmp .leq br33 br175)
 (.ask (.cmp .leq br172 br35)
 .dead
 (.leaf (.c true)))
 (.leaf (.c true)))
 (.leaf (.c true)))
 .dead)))
 (brC4
 (.ask (.cmp .leq br169 (.c 10000000000000))
 (.ask (.cmp .leq br172 br28)
 (.ask (.cmp .leq br33 br175)
 (.ask (.cmp .leq br172 br35)
 .dead
 (.leaf (.c true)))
 (.leaf (.c true)))
 (.leaf (.c true)))
 .dead)))
 .dead)))
 (brC3
 (.ask (.cmp .leq br157 (.c 10000000000000))
 (.ask (.cmp .leq br160 br28)
 .dead
 (brC4
 (.ask (.cmp .leq br169 (.c 10000000000000))
 (.ask (.cmp .leq br172 br28)
 .dead
 (.leaf (.c true)))
 .dead)))
 .dead))))
 .dead)))
 .dead)
 .dead)
 .dead)
 .dead)
 .dead)
 .dead)
 .dead)
 .dead)
 .dead)
 .dead)
 .dead)
 .dead)
 .dead)
 .dead)
 .dead)
 .dead)
 .dead)
 .dead)
 .dead)
 .dead)
 .dead)
 .dead)
 .dead)
 .dead)
 .dead)
 .dead)
 .dead))
end Go.Proofs.Ytknphpihipkdpaa.Cx
