/- TopBoltThread: the tests of the law and their arithmetic. Made by tools/cxroot.py. -/
import Derived.Test.YtknphpihipkdpaaCxS
set_option linter.unusedSimpArgs false
set_option linter.unusedVariables false
set_option maxRecDepth 100000
set_option maxHeartbeats 4000000
namespace Go.Proofs.Ytknphpihipkdpaa.Cx
open Go Go.RowKit

def bh0 : IE := .bin .conv .i64 (.v 9) (.c 0)
def bh1 : IE := .bin .rem .i64 bh0 (.c 5000)
def bh2 : IE := .bin .add .i64 (.c 1000) bh1
def bh3 : IE := .bin .mul .i64 (.c 4) bh2
def bh4 : IE := .bin .rem .i64 bh0 (.c 3)
def bh5 : IE := .bin .add .i64 (.c 1) bh4
def bh6 : IE := .bin .mul .i64 bh3 bh5
def bh7 : IE := .bin .mul .i64 bh6 (.c 500)
def bh8 : IE := .bin .rem .i64 bh7 (.c 1000)
def bh9 : IE := .bin .mul .i64 bh6 (.c 250)
def bh10 : IE := .bin .rem .i64 bh9 (.c 1000)
def bh11 : IE := .bin .mul .i64 bh6 (.c 125)
def bh12 : IE := .bin .rem .i64 bh11 (.c 1000)
def bh13 : IE := .bin .mul .i64 bh6 (.c 25)
def bh14 : IE := .bin .rem .i64 bh13 (.c 1000)
def bh15 : IE := .bin .mul .i64 bh6 (.c 5)
def bh16 : IE := .bin .rem .i64 bh15 (.c 1000)
def bh17 : IE := .bin .mul .i64 bh6 (.c 1)
def bh18 : IE := .bin .rem .i64 bh17 (.c 1000)
def bh19 : IE := .bin .conv .i64 (.v 10) (.c 0)
def bh20 : IE := .bin .rem .i64 bh19 (.c 900)
def bh21 : IE := .bin .add .i64 (.c 1) bh20
def bh22 : IE := .bin .conv .i64 (.v 11) (.c 0)
def bh23 : IE := .bin .rem .i64 bh22 (.c 900)
def bh24 : IE := .bin .add .i64 (.c 1) bh23
def bh25 : IE := .bin .add .i64 bh21 bh24
def bh26 : IE := .bin .mul .i64 (.c 900) bh25
def bh27 : IE := .bin .mul .i64 (.c 500) bh3
def bh28 : IE := .bin .conv .i64 (.v 14) (.c 0)
def bh29 : IE := .bin .rem .i64 bh28 (.c 2001)
def bh30 : IE := .bin .mul .i64 (.c 1) bh29
def bh31 : IE := .bin .mul .i64 (.c 1000) bh30
def bh32 : IE := .bin .mul .i64 bh6 bh31
def bh33 : IE := .bin .gcd .i64 bh32 (.c 1000000)
def bh34 : IE := .bin .quo .i64 (.c 1000000) bh33
def bh35 : IE := .bin .quo .i64 bh32 bh33
def bh36 : IE := .bin .mul .i64 bh6 bh30
def bh37 : IE := .bin .quo .i64 bh36 (.c 1000)
def bh38 : IE := .bin .conv .i64 (.v 7) (.c 0)
def bh39 : IE := .bin .add .i64 (.c 1) bh38
def bh40 : IE := .bin .conv .i64 (.v 8) (.c 0)
def bh41 : IE := .bin .rem .i64 bh40 (.c 20)
def bh42 : IE := .bin .add .i64 bh39 bh41
def bh43 : IE := .bin .mul .i64 bh42 bh6
def bh44 : IE := .bin .conv .i64 (.v 1) (.c 0)
def bh45 : IE := .bin .mul .i64 (.c 20) bh44
def bh46 : IE := .bin .conv .i64 (.v 2) (.c 0)
def bh47 : IE := .bin .mul .i64 (.c 30) bh46
def bh48 : IE := .bin .conv .i64 (.v 3) (.c 0)
def bh49 : IE := .bin .conv .i64 (.v 4) (.c 0)
def bh50 : IE := .bin .rem .i64 bh49 (.c 60)
def bh51 : IE := .bin .add .i64 bh48 bh50
def bh52 : IE := .bin .conv .i64 (.v 5) (.c 0)
def bh53 : IE := .bin .conv .i64 (.v 6) (.c 0)
def bh54 : IE := .bin .rem .i64 bh53 (.c 60)
def bh55 : IE := .bin .add .i64 bh52 bh54
def bh56 : IE := .bin .mul .i64 bh39 bh6
def bh57 : IE := .bin .mul .i64 bh45 bh51
def bh58 : IE := .bin .mul .i64 bh47 bh55
def bh59 : IE := .bin .add .i64 bh57 bh58
def bh60 : IE := .bin .add .i64 bh59 (.c 100000)
def bh61 : IE := .bin .mul .i64 bh45 bh48
def bh62 : IE := .bin .mul .i64 bh47 bh52
def bh63 : IE := .bin .add .i64 bh61 bh62
def bh64 : IE := .bin .add .i64 bh63 (.c 100000)
def bh65 : IE := .bin .mul .i64 bh56 bh30
def bh66 : IE := .bin .quo .i64 bh65 (.c 1000)
def bh67 : IE := .bin .quo .i64 (.c 0) bh60
def bh68 : IE := .bin .add .i64 bh66 bh67
def bh69 : IE := .bin .mul .i64 bh39 bh35
def bh70 : IE := .bin .mul .i64 bh43 bh30
def bh71 : IE := .bin .quo .i64 bh70 (.c 1000)
def bh72 : IE := .bin .quo .i64 (.c 0) bh64
def bh73 : IE := .bin .add .i64 bh71 bh72
def bh74 : IE := .bin .mul .i64 bh42 bh35
def bh75 : IE := .bin .rem .i64 bh28 (.c 401)
def bh76 : IE := .bin .mul .i64 (.c 5) bh75
def bh77 : IE := .bin .mul .i64 (.c 1000) bh76
def bh78 : IE := .bin .mul .i64 bh6 bh77
def bh79 : IE := .bin .gcd .i64 bh78 (.c 1000000)
def bh80 : IE := .bin .quo .i64 (.c 1000000) bh79
def bh81 : IE := .bin .quo .i64 bh78 bh79
def bh82 : IE := .bin .mul .i64 bh6 bh76
def bh83 : IE := .bin .quo .i64 bh82 (.c 1000)
def bh84 : IE := .bin .mul .i64 bh56 bh76
def bh85 : IE := .bin .quo .i64 bh84 (.c 1000)
def bh86 : IE := .bin .add .i64 bh85 bh67
def bh87 : IE := .bin .mul .i64 bh39 bh81
def bh88 : IE := .bin .mul .i64 bh43 bh76
def bh89 : IE := .bin .quo .i64 bh88 (.c 1000)
def bh90 : IE := .bin .add .i64 bh89 bh72
def bh91 : IE := .bin .mul .i64 bh42 bh81
def bh92 : IE := .bin .rem .i64 bh28 (.c 81)
def bh93 : IE := .bin .mul .i64 (.c 25) bh92
def bh94 : IE := .bin .mul .i64 (.c 1000) bh93
def bh95 : IE := .bin .mul .i64 bh6 bh94
def bh96 : IE := .bin .gcd .i64 bh95 (.c 1000000)
def bh97 : IE := .bin .quo .i64 (.c 1000000) bh96
def bh98 : IE := .bin .quo .i64 bh95 bh96
def bh99 : IE := .bin .mul .i64 bh6 bh93
def bh100 : IE := .bin .quo .i64 bh99 (.c 1000)
def bh101 : IE := .bin .mul .i64 bh56 bh93
def bh102 : IE := .bin .quo .i64 bh101 (.c 1000)
def bh103 : IE := .bin .add .i64 bh102 bh67
def bh104 : IE := .bin .mul .i64 bh39 bh98
def bh105 : IE := .bin .mul .i64 bh43 bh93
def bh106 : IE := .bin .quo .i64 bh105 (.c 1000)
def bh107 : IE := .bin .add .i64 bh106 bh72
def bh108 : IE := .bin .mul .i64 bh42 bh98
def bh109 : IE := .bin .rem .i64 bh28 (.c 17)
def bh110 : IE := .bin .mul .i64 (.c 125) bh109
def bh111 : IE := .bin .mul .i64 (.c 1000) bh110
def bh112 : IE := .bin .mul .i64 bh6 bh111
def bh113 : IE := .bin .gcd .i64 bh112 (.c 1000000)
def bh114 : IE := .bin .quo .i64 (.c 1000000) bh113
def bh115 : IE := .bin .quo .i64 bh112 bh113
def bh116 : IE := .bin .mul .i64 bh6 bh110
def bh117 : IE := .bin .quo .i64 bh116 (.c 1000)
def bh118 : IE := .bin .mul .i64 bh56 bh110
def bh119 : IE := .bin .quo .i64 bh118 (.c 1000)
def bh120 : IE := .bin .add .i64 bh119 bh67
def bh121 : IE := .bin .mul .i64 bh39 bh115
def bh122 : IE := .bin .mul .i64 bh43 bh110
def bh123 : IE := .bin .quo .i64 bh122 (.c 1000)
def bh124 : IE := .bin .add .i64 bh123 bh72
def bh125 : IE := .bin .mul .i64 bh42 bh115
def bh126 : IE := .bin .mul .i64 bh6 (.c 50)
def bh127 : IE := .bin .rem .i64 bh126 (.c 1000)
def bh128 : IE := .bin .mul .i64 bh6 (.c 10)
def bh129 : IE := .bin .rem .i64 bh128 (.c 1000)
def bh130 : IE := .bin .mul .i64 bh6 (.c 2)
def bh131 : IE := .bin .rem .i64 bh130 (.c 1000)
def bh132 : IE := .bin .rem .i64 bh28 (.c 1001)
def bh133 : IE := .bin .mul .i64 (.c 2) bh132
def bh134 : IE := .bin .mul .i64 (.c 1000) bh133
def bh135 : IE := .bin .mul .i64 bh6 bh134
def bh136 : IE := .bin .gcd .i64 bh135 (.c 1000000)
def bh137 : IE := .bin .quo .i64 (.c 1000000) bh136
def bh138 : IE := .bin .quo .i64 bh135 bh136
def bh139 : IE := .bin .mul .i64 bh6 bh133
def bh140 : IE := .bin .quo .i64 bh139 (.c 1000)
def bh141 : IE := .bin .mul .i64 bh56 bh133
def bh142 : IE := .bin .quo .i64 bh141 (.c 1000)
def bh143 : IE := .bin .add .i64 bh142 bh67
def bh144 : IE := .bin .mul .i64 bh39 bh138
def bh145 : IE := .bin .mul .i64 bh43 bh133
def bh146 : IE := .bin .quo .i64 bh145 (.c 1000)
def bh147 : IE := .bin .add .i64 bh146 bh72
def bh148 : IE := .bin .mul .i64 bh42 bh138
def bh149 : IE := .bin .rem .i64 bh28 (.c 201)
def bh150 : IE := .bin .mul .i64 (.c 10) bh149
def bh151 : IE := .bin .mul .i64 (.c 1000) bh150
def bh152 : IE := .bin .mul .i64 bh6 bh151
def bh153 : IE := .bin .gcd .i64 bh152 (.c 1000000)
def bh154 : IE := .bin .quo .i64 (.c 1000000) bh153
def bh155 : IE := .bin .quo .i64 bh152 bh153
def bh156 : IE := .bin .mul .i64 bh6 bh150
def bh157 : IE := .bin .quo .i64 bh156 (.c 1000)
def bh158 : IE := .bin .mul .i64 bh56 bh150
def bh159 : IE := .bin .quo .i64 bh158 (.c 1000)
def bh160 : IE := .bin .add .i64 bh159 bh67
def bh161 : IE := .bin .mul .i64 bh39 bh155
def bh162 : IE := .bin .mul .i64 bh43 bh150
def bh163 : IE := .bin .quo .i64 bh162 (.c 1000)
def bh164 : IE := .bin .add .i64 bh163 bh72
def bh165 : IE := .bin .mul .i64 bh42 bh155
def bh166 : IE := .bin .rem .i64 bh28 (.c 41)
def bh167 : IE := .bin .mul .i64 (.c 50) bh166
def bh168 : IE := .bin .mul .i64 (.c 1000) bh167
def bh169 : IE := .bin .mul .i64 bh6 bh168
def bh170 : IE := .bin .gcd .i64 bh169 (.c 1000000)
def bh171 : IE := .bin .quo .i64 (.c 1000000) bh170
def bh172 : IE := .bin .quo .i64 bh169 bh170
def bh173 : IE := .bin .mul .i64 bh6 bh167
def bh174 : IE := .bin .quo .i64 bh173 (.c 1000)
def bh175 : IE := .bin .mul .i64 bh56 bh167
def bh176 : IE := .bin .quo .i64 bh175 (.c 1000)
def bh177 : IE := .bin .add .i64 bh176 bh67
def bh178 : IE := .bin .mul .i64 bh39 bh172
def bh179 : IE := .bin .mul .i64 bh43 bh167
def bh180 : IE := .bin .quo .i64 bh179 (.c 1000)
def bh181 : IE := .bin .add .i64 bh180 bh72
def bh182 : IE := .bin .mul .i64 bh42 bh172
def bh183 : IE := .bin .rem .i64 bh28 (.c 9)
def bh184 : IE := .bin .mul .i64 (.c 250) bh183
def bh185 : IE := .bin .mul .i64 (.c 1000) bh184
def bh186 : IE := .bin .mul .i64 bh6 bh185
def bh187 : IE := .bin .gcd .i64 bh186 (.c 1000000)
def bh188 : IE := .bin .quo .i64 (.c 1000000) bh187
def bh189 : IE := .bin .quo .i64 bh186 bh187
def bh190 : IE := .bin .mul .i64 bh6 bh184
def bh191 : IE := .bin .quo .i64 bh190 (.c 1000)
def bh192 : IE := .bin .mul .i64 bh56 bh184
def bh193 : IE := .bin .quo .i64 bh192 (.c 1000)
def bh194 : IE := .bin .add .i64 bh193 bh67
def bh195 : IE := .bin .mul .i64 bh39 bh189
def bh196 : IE := .bin .mul .i64 bh43 bh184
def bh197 : IE := .bin .quo .i64 bh196 (.c 1000)
def bh198 : IE := .bin .add .i64 bh197 bh72
def bh199 : IE := .bin .mul .i64 bh42 bh189
def bhC0 (t : DT) : DT := (.ask (.cmp .leq (.c 100) bh3) (.ask (.cmp .leq bh3 (.c 200000)) t .dead) .dead)
def bhC1 (t : DT) : DT := (.ask (.cmp .leq (.c 0) bh21) (.ask (.cmp .leq bh21 (.c 3000)) (.ask (.cmp .leq (.c 0) bh24) (.ask (.cmp .leq bh24 (.c 3000)) t .dead) .dead) .dead) .dead)
def bhC2 (t : DT) : DT := (.ask (.cmp .leq bh43 (.c 100000000)) (.ask (.cmp .leq (.c 0) bh45) t .dead) .dead)
def bhC3 (t : DT) : DT := (.ask (.cmp .leq bh45 (.c 100000)) (.ask (.cmp .leq (.c 0) bh47) (.ask (.cmp .leq bh47 (.c 100000)) (.ask (.cmp .leq (.c 0) bh48) (.ask (.cmp .leq bh48 bh51) t .dead) .dead) .dead) .dead) .dead)
def bhC4 (t : DT) : DT := (.ask (.cmp .leq bh51 (.c 1000)) (.ask (.cmp .leq (.c 0) bh52) (.ask (.cmp .leq bh52 bh55) (.ask (.cmp .leq bh55 (.c 1000)) t .dead) .dead) .dead) .dead)
def bhTree : DT :=
(.ask (.cmp .eql bh8 (.c 0))
 (.ask (.cmp .eql bh10 (.c 0))
 (.ask (.cmp .eql bh12 (.c 0))
 (.ask (.cmp .eql bh14 (.c 0))
 (.ask (.cmp .eql bh16 (.c 0))
 (.ask (.cmp .eql bh18 (.c 0))
 (bhC0
 (bhC1
 (.ask (.cmp .leq (.c 1) bh5)
 (.ask (.cmp .leq bh5 (.c 8))
 (.ask (.cmp .leq bh26 bh27)
 (.ask (.cmp .leq (.c (-1000000000)) bh31)
 (.ask (.cmp .leq bh31 (.c 1000000000))
 (.ask (.cmp .leq (.c (-9223372036854775807)) bh32)
 (.ask (.cmp .leq bh32 (.c 9223372036854775807))
 (.ask (.cmp .eql bh34 (.c 1))
 (.ask (.cmp .eql bh35 bh37)
 (.ask (.cmp .leq bh35 (.c 100000))
 (bhC2
 (bhC3
 (bhC4
 (.ask (.cmp .leq (.c 1) bh56)
 (.ask (.cmp .leq bh56 bh43)
 (.ask (.cmp .leq (.c 1) bh39)
 (.ask (.cmp .leq bh39 bh42)
 (.ask (.cmp .leq bh42 (.c 100000))
 (.ask (.cmp .leq (.c 0) bh30)
 (.ask (.cmp .leq bh30 (.c 100000))
 (.ask (.cmp .eql bh60 (.c 0))
 .dead
 (.ask (.cmp .eql bh64 (.c 0))
 .dead
 (.ask (.cmp .leq (.c 0) bh35)
 (.ask (.cmp .eql bh68 bh69)
 (.ask (.cmp .eql bh73 bh74)
 (.leaf (.c true))
 .dead)
 .dead)
 .dead)))
 .dead)
 .dead)
 .dead)
 .dead)
 .dead)
 .dead)
 .dead))))
 (.leaf (.c true)))
 .dead)
 .dead)
 .dead)
 .dead)
 .dead)
 .dead)
 .dead)
 .dead)
 .dead)))
 (bhC0
 (bhC1
 (.ask (.cmp .leq (.c 1) bh5)
 (.ask (.cmp .leq bh5 (.c 8))
 (.ask (.cmp .leq bh26 bh27)
 (.ask (.cmp .leq (.c (-1000000000)) bh77)
 (.ask (.cmp .leq bh77 (.c 1000000000))
 (.ask (.cmp .leq (.c (-9223372036854775807)) bh78)
 (.ask (.cmp .leq bh78 (.c 9223372036854775807))
 (.ask (.cmp .eql bh80 (.c 1))
 (.ask (.cmp .eql bh81 bh83)
 (.ask (.cmp .leq bh81 (.c 100000))
 (bhC2
 (bhC3
 (bhC4
 (.ask (.cmp .leq (.c 1) bh56)
 (.ask (.cmp .leq bh56 bh43)
 (.ask (.cmp .leq (.c 1) bh39)
 (.ask (.cmp .leq bh39 bh42)
 (.ask (.cmp .leq bh42 (.c 100000))
 (.ask (.cmp .leq (.c 0) bh76)
 (.ask (.cmp .leq bh76 (.c 100000))
 (.ask (.cmp .eql bh60 (.c 0))
 .dead
 (.ask (.cmp .eql bh64 (.c 0))
 .dead
 (.ask (.cmp .leq (.c 0) bh81)
 (.ask (.cmp .eql bh86 bh87)
 (.ask (.cmp .eql bh90 bh91)
 (.leaf (.c true))
 .dead)
 .dead)
 .dead)))
 .dead)
 .dead)
 .dead)
 .dead)
 .dead)
 .dead)
 .dead))))
 (.leaf (.c true)))
 .dead)
 .dead)
 .dead)
 .dead)
 .dead)
 .dead)
 .dead)
 .dead)
 .dead))))
 (bhC0
 (bhC1
 (.ask (.cmp .leq (.c 1) bh5)
 (.ask (.cmp .leq bh5 (.c 8))
 (.ask (.cmp .leq bh26 bh27)
 (.ask (.cmp .leq (.c (-1000000000)) bh94)
 (.ask (.cmp .leq bh94 (.c 1000000000))
 (.ask (.cmp .leq (.c (-9223372036854775807)) bh95)
 (.ask (.cmp .leq bh95 (.c 9223372036854775807))
 (.ask (.cmp .eql bh97 (.c 1))
 (.ask (.cmp .eql bh98 bh100)
 (.ask (.cmp .leq bh98 (.c 100000))
 (bhC2
 (bhC3
 (bhC4
 (.ask (.cmp .leq (.c 1) bh56)
 (.ask (.cmp .leq bh56 bh43)
 (.ask (.cmp .leq (.c 1) bh39)
 (.ask (.cmp .leq bh39 bh42)
 (.ask (.cmp .leq bh42 (.c 100000))
 (.ask (.cmp .leq (.c 0) bh93)
 (.ask (.cmp .leq bh93 (.c 100000))
 (.ask (.cmp .eql bh60 (.c 0))
 .dead
 (.ask (.cmp .eql bh64 (.c 0))
 .dead
 (.ask (.cmp .leq (.c 0) bh98)
 (.ask (.cmp .eql bh103 bh104)
 (.ask (.cmp .eql bh107 bh108)
 (.leaf (.c true))
 .dead)
 .dead)
 .dead)))
 .dead)
 .dead)
 .dead)
 .dead)
 .dead)
 .dead)
 .dead))))
 (.leaf (.c true)))
 .dead)
 .dead)
 .dead)
 .dead)
 .dead)
 .dead)
 .dead)
 .dead)
 .dead))))
 (bhC0
 (bhC1
 (.ask (.cmp .leq (.c 1) bh5)
 (.ask (.cmp .leq bh5 (.c 8))
 (.ask (.cmp .leq bh26 bh27)
 (.ask (.cmp .leq (.c (-1000000000)) bh111)
 (.ask (.cmp .leq bh111 (.c 1000000000))
 (.ask (.cmp .leq (.c (-9223372036854775807)) bh112)
 (.ask (.cmp .leq bh112 (.c 9223372036854775807))
 (.ask (.cmp .eql bh114 (.c 1))
 (.ask (.cmp .eql bh115 bh117)
 (.ask (.cmp .leq bh115 (.c 100000))
 (bhC2
 (bhC3
 (bhC4
 (.ask (.cmp .leq (.c 1) bh56)
 (.ask (.cmp .leq bh56 bh43)
 (.ask (.cmp .leq (.c 1) bh39)
 (.ask (.cmp .leq bh39 bh42)
 (.ask (.cmp .leq bh42 (.c 100000))
 (.ask (.cmp .leq (.c 0) bh110)
 (.ask (.cmp .leq bh110 (.c 100000))
 (.ask (.cmp .eql bh60 (.c 0))
 .dead
 (.ask (.cmp .eql bh64 (.c 0))
 .dead
 (.ask (.cmp .leq (.c 0) bh115)
 (.ask (.cmp .eql bh120 bh121)
 (.ask (.cmp .eql bh124 bh125)
 (.leaf (.c true))
 .dead)
 .dead)
 .dead)))
 .dead)
 .dead)
 .dead)
 .dead)
 .dead)
 .dead)
 .dead))))
 (.leaf (.c true)))
 .dead)
 .dead)
 .dead)
 .dead)
 .dead)
 .dead)
 .dead)
 .dead)
 .dead))))
 (.ask (.cmp .eql bh127 (.c 0))
 (.ask (.cmp .eql bh129 (.c 0))
 (.ask (.cmp .eql bh131 (.c 0))
 (bhC0
 (bhC1
 (.ask (.cmp .leq (.c 1) bh5)
 (.ask (.cmp .leq bh5 (.c 8))
 (.ask (.cmp .leq bh26 bh27)
 (.ask (.cmp .leq (.c (-1000000000)) bh134)
 (.ask (.cmp .leq bh134 (.c 1000000000))
 (.ask (.cmp .leq (.c (-9223372036854775807)) bh135)
 (.ask (.cmp .leq bh135 (.c 9223372036854775807))
 (.ask (.cmp .eql bh137 (.c 1))
 (.ask (.cmp .eql bh138 bh140)
 (.ask (.cmp .leq bh138 (.c 100000))
 (bhC2
 (bhC3
 (bhC4
 (.ask (.cmp .leq (.c 1) bh56)
 (.ask (.cmp .leq bh56 bh43)
 (.ask (.cmp .leq (.c 1) bh39)
 (.ask (.cmp .leq bh39 bh42)
 (.ask (.cmp .leq bh42 (.c 100000))
 (.ask (.cmp .leq (.c 0) bh133)
 (.ask (.cmp .leq bh133 (.c 100000))
 (.ask (.cmp .eql bh60 (.c 0))
 .dead
 (.ask (.cmp .eql bh64 (.c 0))
 .dead
 (.ask (.cmp .leq (.c 0) bh138)
 (.ask (.cmp .eql bh143 bh144)
 (.ask (.cmp .eql bh147 bh148)
 (.leaf (.c true))
 .dead)
 .dead)
 .dead)))
 .dead)
 .dead)
 .dead)
 .dead)
 .dead)
 .dead)
 .dead))))
 (.leaf (.c true)))
 .dead)
 .dead)
 .dead)
 .dead)
 .dead)
 .dead)
 .dead)
 .dead)
 .dead)))
 (bhC0
 (bhC1
 (.ask (.cmp .leq (.c 1) bh5)
 (.ask (.cmp .leq bh5 (.c 8))
 (.ask (.cmp .leq bh26 bh27)
 (.ask (.cmp .leq (.c (-1000000000)) bh151)
 (.ask (.cmp .leq bh151 (.c 1000000000))
 (.ask (.cmp .leq (.c (-9223372036854775807)) bh152)
 (.ask (.cmp .leq bh152 (.c 9223372036854775807))
 (.ask (.cmp .eql bh154 (.c 1))
 (.ask (.cmp .eql bh155 bh157)
 (.ask (.cmp .leq bh155 (.c 100000))
 (bhC2
 (bhC3
 (bhC4
 (.ask (.cmp .leq (.c 1) bh56)
 (.ask (.cmp .leq bh56 bh43)
 (.ask (.cmp .leq (.c 1) bh39)
 (.ask (.cmp .leq bh39 bh42)
 (.ask (.cmp .leq bh42 (.c 100000))
 (.ask (.cmp .leq (.c 0) bh150)
 (.ask (.cmp .leq bh150 (.c 100000))
 (.ask (.cmp .eql bh60 (.c 0))
 .dead
 (.ask (.cmp .eql bh64 (.c 0))
 .dead
 (.ask (.cmp .leq (.c 0) bh155)
 (.ask (.cmp .eql bh160 bh161)
 (.ask (.cmp .eql bh164 bh165)
 (.leaf (.c true))
 .dead)
 .dead)
 .dead)))
 .dead)
 .dead)
 .dead)
 .dead)
 .dead)
 .dead)
 .dead))))
 (.leaf (.c true)))
 .dead)
 .dead)
 .dead)
 .dead)
 .dead)
 .dead)
 .dead)
 .dead)
 .dead))))
 (bhC0
 (bhC1
 (.ask (.cmp .leq (.c 1) bh5)
 (.ask (.cmp .leq bh5 (.c 8))
 (.ask (.cmp .leq bh26 bh27)
 (.ask (.cmp .leq (.c (-1000000000)) bh168)
 (.ask (.cmp .leq bh168 (.c 1000000000))
 (.ask (.cmp .leq (.c (-9223372036854775807)) bh169)
 (.ask (.cmp .leq bh169 (.c 9223372036854775807))
 (.ask (.cmp .eql bh171 (.c 1))
 (.ask (.cmp .eql bh172 bh174)
 (.ask (.cmp .leq bh172 (.c 100000))
 (bhC2
 (bhC3
 (bhC4
 (.ask (.cmp .leq (.c 1) bh56)
 (.ask (.cmp .leq bh56 bh43)
 (.ask (.cmp .leq (.c 1) bh39)
 (.ask (.cmp .leq bh39 bh42)
 (.ask (.cmp .leq bh42 (.c 100000))
 (.ask (.cmp .leq (.c 0) bh167)
 (.ask (.cmp .leq bh167 (.c 100000))
 (.ask (.cmp .eql bh60 (.c 0))
 .dead
 (.ask (.cmp .eql bh64 (.c 0))
 .dead
 (.ask (.cmp .leq (.c 0) bh172)
 (.ask (.cmp .eql bh177 bh178)
 (.ask (.cmp .eql bh181 bh182)
 (.leaf (.c true))
 .dead)
 .dead)
 .dead)))
 .dead)
 .dead)
 .dead)
 .dead)
 .dead)
 .dead)
 .dead))))
 (.leaf (.c true)))
 .dead)
 .dead)
 .dead)
 .dead)
 .dead)
 .dead)
 .dead)
 .dead)
 .dead))))
 (bhC0
 (bhC1
 (.ask (.cmp .leq (.c 1) bh5)
 (.ask (.cmp .leq bh5 (.c 8))
 (.ask (.cmp .leq bh26 bh27)
 (.ask (.cmp .leq (.c (-1000000000)) bh185)
 (.ask (.cmp .leq bh185 (.c 1000000000))
 (.ask (.cmp .leq (.c (-9223372036854775807)) bh186)
 (.ask (.cmp .leq bh186 (.c 9223372036854775807))
 (.ask (.cmp .eql bh188 (.c 1))
 (.ask (.cmp .eql bh189 bh191)
 (.ask (.cmp .leq bh189 (.c 100000))
 (bhC2
 (bhC3
 (bhC4
 (.ask (.cmp .leq (.c 1) bh56)
 (.ask (.cmp .leq bh56 bh43)
 (.ask (.cmp .leq (.c 1) bh39)
 (.ask (.cmp .leq bh39 bh42)
 (.ask (.cmp .leq bh42 (.c 100000))
 (.ask (.cmp .leq (.c 0) bh184)
 (.ask (.cmp .leq bh184 (.c 100000))
 (.ask (.cmp .eql bh60 (.c 0))
 .dead
 (.ask (.cmp .eql bh64 (.c 0))
 .dead
 (.ask (.cmp .leq (.c 0) bh189)
 (.ask (.cmp .eql bh194 bh195)
 (.ask (.cmp .eql bh198 bh199)
 (.leaf (.c true))
 .dead)
 .dead)
 .dead)))
 .dead)
 .dead)
 .dead)
 .dead)
 .dead)
 .dead)
 .dead))))
 (.leaf (.c true)))
 .dead)
 .dead)
 .dead)
 .dead)
 .dead)
 .dead)
 .dead)
 .dead)
 .dead)))))
 .dead)
 .dead)
end Go.Proofs.Ytknphpihipkdpaa.Cx
