/- TopRingScrews: the tests of the law and their arithmetic. Made by tools/cxroot.py. -/
import Derived.Test.YtdicfkocjakhcaaCxS
set_option linter.unusedSimpArgs false
set_option linter.unusedVariables false
set_option maxRecDepth 100000
set_option maxHeartbeats 4000000
namespace Go.Proofs.Ytdicfkocjakhcaa.Cx
open Go Go.RowKit

def rs0 : IE := .bin .conv .i64 (.v 0) (.c 0)
def rs1 : IE := .bin .mul .i64 (.c 4) rs0
def rs2 : IE := .bin .add .i64 (.c 9000) rs1
def rs3 : IE := .bin .conv .i64 (.v 1) (.c 0)
def rs4 : IE := .bin .add .i64 (.c 400) rs3
def rs5 : IE := .bin .conv .i64 (.v 2) (.c 0)
def rs6 : IE := .bin .add .i64 (.c 400) rs5
def rs7 : IE := .bin .conv .i64 (.v 3) (.c 0)
def rs8 : IE := .bin .mul .i64 (.c 5) rs7
def rs9 : IE := .bin .add .i64 (.c 1) rs8
def rs10 : IE := .bin .add .i64 rs9 rs8
def rs11 : IE := .bin .mx .i64 rs9 rs8
def rs12 : IE := .bin .add .i64 rs4 rs6
def rs13 : IE := .bin .mul .i64 rs11 rs12
def rs14 : IE := .bin .mul .i64 (.c 500) rs2
def rs15 : IE := .bin .mul .i64 (.c 0) rs2
def rs16 : IE := .bin .add .i64 rs15 (.c 0)
def rs17 : IE := .bin .sub .i64 rs16 (.c 16)
def rs18 : IE := .bin .quo .i64 rs2 (.c 4)
def rs19 : IE := .bin .sub .i64 rs17 rs18
def rs20 : IE := .bin .sub .i64 rs19 (.c 0)
def rs21 : IE := .bin .add .i64 rs17 rs18
def rs22 : IE := .bin .add .i64 rs21 (.c 0)
def rs23 : IE := .bin .mul .i64 (.c 1000) rs22
def rs24 : IE := .bin .mul .i64 (.c 1000) rs2
def rs25 : IE := .bin .mul .i64 rs24 (.c 0)
def rs26 : IE := .bin .mul .i64 (.c 250) rs2
def rs27 : IE := .bin .add .i64 rs25 rs26
def rs28 : IE := .bin .mul .i64 (.c 0) rs6
def rs29 : IE := .bin .add .i64 rs27 rs28
def rs30 : IE := .bin .sub .i64 rs23 rs29
def rs31 : IE := .bin .mn .i64 (.c 9223372036854775807) rs30
def rs32 : IE := .bin .sub .i64 rs6 rs6
def rs33 : IE := .bin .mul .i64 (.c (-200)) rs32
def rs34 : IE := .bin .mul .i64 (.c 300) rs32
def rs35 : IE := .bin .mx .i64 rs33 rs34
def rs36 : IE := .bin .sub .i64 rs31 rs35
def rs37 : IE := .bin .mul .i64 (.c 1000) rs20
def rs38 : IE := .bin .sub .i64 rs25 rs26
def rs39 : IE := .bin .mul .i64 (.c 0) rs4
def rs40 : IE := .bin .sub .i64 rs38 rs39
def rs41 : IE := .bin .sub .i64 rs37 rs40
def rs42 : IE := .bin .mx .i64 (.c (-9223372036854775808)) rs41
def rs43 : IE := .bin .sub .i64 rs4 rs4
def rs44 : IE := .bin .mul .i64 (.c (-200)) rs43
def rs45 : IE := .bin .mul .i64 (.c 300) rs43
def rs46 : IE := .bin .mx .i64 rs44 rs45
def rs47 : IE := .bin .add .i64 rs42 rs46
def rs48 : IE := .bin .sub .i64 rs36 rs47
def rs49 : IE := .bin .sub .i64 (.c 0) rs48
def rs50 : IE := .bin .quo .i64 rs49 rs12
def rs51 : IE := .bin .rem .i64 rs49 rs12
def rs52 : IE := .bin .mx .i64 (.c 0) rs51
def rs53 : IE := .bin .mn .i64 (.c 1) rs52
def rs54 : IE := .bin .add .i64 rs50 rs53
def rs55 : IE := .bin .sub .i64 (.c 0) rs54
def rs56 : IE := .bin .add .i64 (.c 5000) rs55
def rs57 : IE := .bin .rem .i64 rs5 (.c 9)
def rs58 : IE := .bin .add .i64 (.c 4990) rs57
def rs59 : IE := .bin .mul .i64 (.c 8) rs7
def rs60 : IE := .bin .add .i64 (.c 1) rs59
def rs61 : IE := .bin .sub .i64 (.c 10000000) rs58
def rs62 : IE := .bin .mx .i64 (.c 9995010) rs61
def rs63 : IE := .bin .mul .i64 (.c 0) rs60
def rs64 : IE := .bin .sub .i64 (.c 0) rs63
def rs65 : IE := .bin .quo .i64 rs64 (.c 1000)
def rs66 : IE := .bin .rem .i64 rs64 (.c 1000)
def rs67 : IE := .bin .mx .i64 (.c 0) rs66
def rs68 : IE := .bin .mn .i64 (.c 1) rs67
def rs69 : IE := .bin .add .i64 rs65 rs68
def rs70 : IE := .bin .sub .i64 (.c 0) rs69
def rs71 : IE := .bin .sub .i64 rs62 rs70
def rs72 : IE := .bin .mn .i64 rs71 rs71
def rs73 : IE := .bin .mn .i64 (.c 9995010) rs61
def rs74 : IE := .bin .mul .i64 (.c 20) rs60
def rs75 : IE := .bin .quo .i64 rs74 (.c 1000)
def rs76 : IE := .bin .rem .i64 rs74 (.c 1000)
def rs77 : IE := .bin .mx .i64 (.c 0) rs76
def rs78 : IE := .bin .mn .i64 (.c 1) rs77
def rs79 : IE := .bin .add .i64 rs75 rs78
def rs80 : IE := .bin .sub .i64 rs73 rs79
def rs81 : IE := .bin .add .i64 rs80 rs70
def rs82 : IE := .bin .mx .i64 rs73 rs81
def rs83 : IE := .bin .sub .i64 (.c 0) rs79
def rs84 : IE := .bin .sub .i64 rs72 rs83
def rs85 : IE := .bin .mn .i64 rs62 rs84
def rs86 : IE := .bin .add .i64 rs82 rs83
def rs87 : IE := .bin .mx .i64 rs80 rs86
def rs88 : IE := .bin .sub .i64 rs23 rs23
def rs89 : IE := .bin .mn .i64 (.c 9223372036854775807) rs88
def rs90 : IE := .bin .sub .i64 rs89 rs35
def rs91 : IE := .bin .sub .i64 rs37 rs37
def rs92 : IE := .bin .mx .i64 (.c (-9223372036854775808)) rs91
def rs93 : IE := .bin .add .i64 rs92 rs46
def rs94 : IE := .bin .sub .i64 rs90 rs93
def rs95 : IE := .bin .sub .i64 rs29 rs23
def rs96 : IE := .bin .mn .i64 (.c 9223372036854775807) rs95
def rs97 : IE := .bin .sub .i64 rs96 rs35
def rs98 : IE := .bin .sub .i64 rs40 rs37
def rs99 : IE := .bin .mx .i64 (.c (-9223372036854775808)) rs98
def rs100 : IE := .bin .add .i64 rs99 rs46
def rs101 : IE := .bin .sub .i64 rs97 rs100
def rs102 : IE := .bin .sub .i64 (.c 0) rs101
def rs103 : IE := .bin .quo .i64 rs102 rs12
def rs104 : IE := .bin .rem .i64 rs102 rs12
def rs105 : IE := .bin .mx .i64 (.c 0) rs104
def rs106 : IE := .bin .mn .i64 (.c 1) rs105
def rs107 : IE := .bin .add .i64 rs103 rs106
def rs108 : IE := .bin .sub .i64 (.c 10000000) rs87
def rs109 : IE := .bin .sub .i64 (.c 10000000) rs72
def rs110 : IE := .bin .mx .i64 rs108 rs109
def rs111 : IE := .bin .sub .i64 rs110 (.c 5000)
def rs112 : IE := .bin .sub .i64 (.c 10000000) rs56
def rs113 : IE := .bin .conv .i64 (.v 18) (.c 0)
def rs114 : IE := .bin .quo .i64 rs113 (.c 8)
def rs115 : IE := .bin .add .i64 rs15 rs114
def rs116 : IE := .bin .sub .i64 rs115 (.c 16)
def rs117 : IE := .bin .sub .i64 rs116 rs18
def rs118 : IE := .bin .conv .i64 (.v 19) (.c 0)
def rs119 : IE := .bin .quo .i64 rs118 (.c 8)
def rs120 : IE := .bin .mul .i64 (.c 1) rs119
def rs121 : IE := .bin .sub .i64 rs117 rs120
def rs122 : IE := .bin .add .i64 rs116 rs18
def rs123 : IE := .bin .add .i64 rs122 rs120
def rs124 : IE := .bin .mul .i64 (.c 1000) rs123
def rs125 : IE := .bin .sub .i64 rs124 rs29
def rs126 : IE := .bin .mn .i64 (.c 9223372036854775807) rs125
def rs127 : IE := .bin .sub .i64 rs126 rs35
def rs128 : IE := .bin .mul .i64 (.c 1000) rs121
def rs129 : IE := .bin .sub .i64 rs128 rs40
def rs130 : IE := .bin .mx .i64 (.c (-9223372036854775808)) rs129
def rs131 : IE := .bin .add .i64 rs130 rs46
def rs132 : IE := .bin .sub .i64 rs127 rs131
def rs133 : IE := .bin .sub .i64 (.c 0) rs132
def rs134 : IE := .bin .quo .i64 rs133 rs12
def rs135 : IE := .bin .rem .i64 rs133 rs12
def rs136 : IE := .bin .mx .i64 (.c 0) rs135
def rs137 : IE := .bin .mn .i64 (.c 1) rs136
def rs138 : IE := .bin .add .i64 rs134 rs137
def rs139 : IE := .bin .sub .i64 (.c 0) rs138
def rs140 : IE := .bin .add .i64 (.c 5000) rs139
def rs141 : IE := .bin .sub .i64 rs124 rs23
def rs142 : IE := .bin .mn .i64 (.c 9223372036854775807) rs141
def rs143 : IE := .bin .sub .i64 rs142 rs35
def rs144 : IE := .bin .sub .i64 rs128 rs37
def rs145 : IE := .bin .mx .i64 (.c (-9223372036854775808)) rs144
def rs146 : IE := .bin .add .i64 rs145 rs46
def rs147 : IE := .bin .sub .i64 rs143 rs146
def rs148 : IE := .bin .sub .i64 (.c 10000000) rs140
def rs149 : IE := .bin .mul .i64 (.c 1) rs2
def rs150 : IE := .bin .conv .i64 (.v 20) (.c 0)
def rs151 : IE := .bin .quo .i64 rs150 (.c 8)
def rs152 : IE := .bin .add .i64 rs149 rs151
def rs153 : IE := .bin .sub .i64 rs152 (.c 16)
def rs154 : IE := .bin .sub .i64 rs153 rs18
def rs155 : IE := .bin .conv .i64 (.v 21) (.c 0)
def rs156 : IE := .bin .quo .i64 rs155 (.c 8)
def rs157 : IE := .bin .mul .i64 (.c 1) rs156
def rs158 : IE := .bin .sub .i64 rs154 rs157
def rs159 : IE := .bin .add .i64 rs153 rs18
def rs160 : IE := .bin .add .i64 rs159 rs157
def rs161 : IE := .bin .mul .i64 (.c 1000) rs160
def rs162 : IE := .bin .mul .i64 rs24 (.c 1)
def rs163 : IE := .bin .add .i64 rs162 rs26
def rs164 : IE := .bin .add .i64 rs163 rs28
def rs165 : IE := .bin .sub .i64 rs161 rs164
def rs166 : IE := .bin .mn .i64 rs126 rs165
def rs167 : IE := .bin .sub .i64 rs166 rs35
def rs168 : IE := .bin .mul .i64 (.c 1000) rs158
def rs169 : IE := .bin .sub .i64 rs162 rs26
def rs170 : IE := .bin .sub .i64 rs169 rs39
def rs171 : IE := .bin .sub .i64 rs168 rs170
def rs172 : IE := .bin .mx .i64 rs130 rs171
def rs173 : IE := .bin .add .i64 rs172 rs46
def rs174 : IE := .bin .sub .i64 rs167 rs173
def rs175 : IE := .bin .sub .i64 (.c 0) rs174
def rs176 : IE := .bin .quo .i64 rs175 rs12
def rs177 : IE := .bin .rem .i64 rs175 rs12
def rs178 : IE := .bin .mx .i64 (.c 0) rs177
def rs179 : IE := .bin .mn .i64 (.c 1) rs178
def rs180 : IE := .bin .add .i64 rs176 rs179
def rs181 : IE := .bin .sub .i64 (.c 0) rs180
def rs182 : IE := .bin .add .i64 (.c 5000) rs181
def rs183 : IE := .bin .sub .i64 (.c 10000000) rs182
def rs184 : IE := .bin .mul .i64 (.c 2) rs2
def rs185 : IE := .bin .conv .i64 (.v 22) (.c 0)
def rs186 : IE := .bin .quo .i64 rs185 (.c 8)
def rs187 : IE := .bin .add .i64 rs184 rs186
def rs188 : IE := .bin .sub .i64 rs187 (.c 16)
def rs189 : IE := .bin .sub .i64 rs188 rs18
def rs190 : IE := .bin .conv .i64 (.v 23) (.c 0)
def rs191 : IE := .bin .quo .i64 rs190 (.c 8)
def rs192 : IE := .bin .mul .i64 (.c 1) rs191
def rs193 : IE := .bin .sub .i64 rs189 rs192
def rs194 : IE := .bin .add .i64 rs188 rs18
def rs195 : IE := .bin .add .i64 rs194 rs192
def rs196 : IE := .bin .mul .i64 (.c 1000) rs195
def rs197 : IE := .bin .mul .i64 rs24 (.c 2)
def rs198 : IE := .bin .add .i64 rs197 rs26
def rs199 : IE := .bin .add .i64 rs198 rs28
def rs200 : IE := .bin .sub .i64 rs196 rs199
def rs201 : IE := .bin .mn .i64 rs166 rs200
def rs202 : IE := .bin .sub .i64 rs201 rs35
def rs203 : IE := .bin .mul .i64 (.c 1000) rs193
def rs204 : IE := .bin .sub .i64 rs197 rs26
def rs205 : IE := .bin .sub .i64 rs204 rs39
def rs206 : IE := .bin .sub .i64 rs203 rs205
def rs207 : IE := .bin .mx .i64 rs172 rs206
def rs208 : IE := .bin .add .i64 rs207 rs46
def rs209 : IE := .bin .sub .i64 rs202 rs208
def rs210 : IE := .bin .sub .i64 (.c 0) rs209
def rs211 : IE := .bin .quo .i64 rs210 rs12
def rs212 : IE := .bin .rem .i64 rs210 rs12
def rs213 : IE := .bin .mx .i64 (.c 0) rs212
def rs214 : IE := .bin .mn .i64 (.c 1) rs213
def rs215 : IE := .bin .add .i64 rs211 rs214
def rs216 : IE := .bin .sub .i64 (.c 0) rs215
def rs217 : IE := .bin .add .i64 (.c 5000) rs216
def rs218 : IE := .bin .sub .i64 (.c 10000000) rs217
def rs219 : IE := .bin .mul .i64 (.c 3) rs2
def rs220 : IE := .bin .conv .i64 (.v 24) (.c 0)
def rs221 : IE := .bin .quo .i64 rs220 (.c 8)
def rs222 : IE := .bin .add .i64 rs219 rs221
def rs223 : IE := .bin .sub .i64 rs222 (.c 16)
def rs224 : IE := .bin .sub .i64 rs223 rs18
def rs225 : IE := .bin .conv .i64 (.v 25) (.c 0)
def rs226 : IE := .bin .quo .i64 rs225 (.c 8)
def rs227 : IE := .bin .mul .i64 (.c 1) rs226
def rs228 : IE := .bin .sub .i64 rs224 rs227
def rs229 : IE := .bin .add .i64 rs223 rs18
def rs230 : IE := .bin .add .i64 rs229 rs227
def rs231 : IE := .bin .mul .i64 (.c 1000) rs230
def rs232 : IE := .bin .mul .i64 rs24 (.c 3)
def rs233 : IE := .bin .add .i64 rs232 rs26
def rs234 : IE := .bin .add .i64 rs233 rs28
def rs235 : IE := .bin .sub .i64 rs231 rs234
def rs236 : IE := .bin .mn .i64 rs201 rs235
def rs237 : IE := .bin .sub .i64 rs236 rs35
def rs238 : IE := .bin .mul .i64 (.c 1000) rs228
def rs239 : IE := .bin .sub .i64 rs232 rs26
def rs240 : IE := .bin .sub .i64 rs239 rs39
def rs241 : IE := .bin .sub .i64 rs238 rs240
def rs242 : IE := .bin .mx .i64 rs207 rs241
def rs243 : IE := .bin .add .i64 rs242 rs46
def rs244 : IE := .bin .sub .i64 rs237 rs243
def rs245 : IE := .bin .sub .i64 (.c 0) rs244
def rs246 : IE := .bin .quo .i64 rs245 rs12
def rs247 : IE := .bin .rem .i64 rs245 rs12
def rs248 : IE := .bin .mx .i64 (.c 0) rs247
def rs249 : IE := .bin .mn .i64 (.c 1) rs248
def rs250 : IE := .bin .add .i64 rs246 rs249
def rs251 : IE := .bin .sub .i64 (.c 0) rs250
def rs252 : IE := .bin .add .i64 (.c 5000) rs251
def rs253 : IE := .bin .sub .i64 (.c 10000000) rs252
def rs254 : IE := .bin .mul .i64 (.c 4) rs2
def rs255 : IE := .bin .conv .i64 (.v 26) (.c 0)
def rs256 : IE := .bin .quo .i64 rs255 (.c 8)
def rs257 : IE := .bin .add .i64 rs254 rs256
def rs258 : IE := .bin .sub .i64 rs257 (.c 16)
def rs259 : IE := .bin .sub .i64 rs258 rs18
def rs260 : IE := .bin .conv .i64 (.v 27) (.c 0)
def rs261 : IE := .bin .quo .i64 rs260 (.c 8)
def rs262 : IE := .bin .mul .i64 (.c 1) rs261
def rs263 : IE := .bin .sub .i64 rs259 rs262
def rs264 : IE := .bin .add .i64 rs258 rs18
def rs265 : IE := .bin .add .i64 rs264 rs262
def rs266 : IE := .bin .mul .i64 (.c 1000) rs265
def rs267 : IE := .bin .mul .i64 rs24 (.c 4)
def rs268 : IE := .bin .add .i64 rs267 rs26
def rs269 : IE := .bin .add .i64 rs268 rs28
def rs270 : IE := .bin .sub .i64 rs266 rs269
def rs271 : IE := .bin .mn .i64 rs236 rs270
def rs272 : IE := .bin .sub .i64 rs271 rs35
def rs273 : IE := .bin .mul .i64 (.c 1000) rs263
def rs274 : IE := .bin .sub .i64 rs267 rs26
def rs275 : IE := .bin .sub .i64 rs274 rs39
def rs276 : IE := .bin .sub .i64 rs273 rs275
def rs277 : IE := .bin .mx .i64 rs242 rs276
def rs278 : IE := .bin .add .i64 rs277 rs46
def rs279 : IE := .bin .sub .i64 rs272 rs278
def rs280 : IE := .bin .sub .i64 (.c 0) rs279
def rs281 : IE := .bin .quo .i64 rs280 rs12
def rs282 : IE := .bin .rem .i64 rs280 rs12
def rs283 : IE := .bin .mx .i64 (.c 0) rs282
def rs284 : IE := .bin .mn .i64 (.c 1) rs283
def rs285 : IE := .bin .add .i64 rs281 rs284
def rs286 : IE := .bin .sub .i64 (.c 0) rs285
def rs287 : IE := .bin .add .i64 (.c 5000) rs286
def rs288 : IE := .bin .sub .i64 (.c 10000000) rs287
def rs289 : IE := .bin .mul .i64 (.c 5) rs2
def rs290 : IE := .bin .conv .i64 (.v 28) (.c 0)
def rs291 : IE := .bin .quo .i64 rs290 (.c 8)
def rs292 : IE := .bin .add .i64 rs289 rs291
def rs293 : IE := .bin .sub .i64 rs292 (.c 16)
def rs294 : IE := .bin .sub .i64 rs293 rs18
def rs295 : IE := .bin .conv .i64 (.v 29) (.c 0)
def rs296 : IE := .bin .quo .i64 rs295 (.c 8)
def rs297 : IE := .bin .mul .i64 (.c 1) rs296
def rs298 : IE := .bin .sub .i64 rs294 rs297
def rs299 : IE := .bin .add .i64 rs293 rs18
def rs300 : IE := .bin .add .i64 rs299 rs297
def rs301 : IE := .bin .mul .i64 (.c 1000) rs300
def rs302 : IE := .bin .mul .i64 rs24 (.c 5)
def rs303 : IE := .bin .add .i64 rs302 rs26
def rs304 : IE := .bin .add .i64 rs303 rs28
def rs305 : IE := .bin .sub .i64 rs301 rs304
def rs306 : IE := .bin .mn .i64 rs271 rs305
def rs307 : IE := .bin .sub .i64 rs306 rs35
def rs308 : IE := .bin .mul .i64 (.c 1000) rs298
def rs309 : IE := .bin .sub .i64 rs302 rs26
def rs310 : IE := .bin .sub .i64 rs309 rs39
def rs311 : IE := .bin .sub .i64 rs308 rs310
def rs312 : IE := .bin .mx .i64 rs277 rs311
def rs313 : IE := .bin .add .i64 rs312 rs46
def rs314 : IE := .bin .sub .i64 rs307 rs313
def rs315 : IE := .bin .sub .i64 (.c 0) rs314
def rs316 : IE := .bin .quo .i64 rs315 rs12
def rs317 : IE := .bin .rem .i64 rs315 rs12
def rs318 : IE := .bin .mx .i64 (.c 0) rs317
def rs319 : IE := .bin .mn .i64 (.c 1) rs318
def rs320 : IE := .bin .add .i64 rs316 rs319
def rs321 : IE := .bin .sub .i64 (.c 0) rs320
def rs322 : IE := .bin .add .i64 (.c 5000) rs321
def rs323 : IE := .bin .sub .i64 (.c 10000000) rs322
def rs324 : IE := .bin .conv .i64 (.v 6) (.c 0)
def rs325 : IE := .bin .quo .i64 rs324 (.c 8)
def rs326 : IE := .bin .add .i64 rs15 rs325
def rs327 : IE := .bin .sub .i64 rs326 (.c 16)
def rs328 : IE := .bin .sub .i64 rs327 rs18
def rs329 : IE := .bin .conv .i64 (.v 7) (.c 0)
def rs330 : IE := .bin .quo .i64 rs329 (.c 8)
def rs331 : IE := .bin .mul .i64 (.c (-1)) rs330
def rs332 : IE := .bin .sub .i64 rs328 rs331
def rs333 : IE := .bin .add .i64 rs327 rs18
def rs334 : IE := .bin .add .i64 rs333 rs331
def rs335 : IE := .bin .mul .i64 (.c 1000) rs334
def rs336 : IE := .bin .sub .i64 rs23 rs335
def rs337 : IE := .bin .mn .i64 (.c 9223372036854775807) rs336
def rs338 : IE := .bin .sub .i64 rs337 rs35
def rs339 : IE := .bin .mul .i64 (.c 1000) rs332
def rs340 : IE := .bin .sub .i64 rs37 rs339
def rs341 : IE := .bin .mx .i64 (.c (-9223372036854775808)) rs340
def rs342 : IE := .bin .add .i64 rs341 rs46
def rs343 : IE := .bin .sub .i64 rs338 rs342
def rs344 : IE := .bin .sub .i64 rs29 rs335
def rs345 : IE := .bin .mn .i64 (.c 9223372036854775807) rs344
def rs346 : IE := .bin .sub .i64 rs345 rs35
def rs347 : IE := .bin .sub .i64 rs40 rs339
def rs348 : IE := .bin .mx .i64 (.c (-9223372036854775808)) rs347
def rs349 : IE := .bin .add .i64 rs348 rs46
def rs350 : IE := .bin .sub .i64 rs346 rs349
def rs351 : IE := .bin .sub .i64 (.c 0) rs350
def rs352 : IE := .bin .quo .i64 rs351 rs12
def rs353 : IE := .bin .rem .i64 rs351 rs12
def rs354 : IE := .bin .mx .i64 (.c 0) rs353
def rs355 : IE := .bin .mn .i64 (.c 1) rs354
def rs356 : IE := .bin .add .i64 rs352 rs355
def rs357 : IE := .bin .sub .i64 rs124 rs335
def rs358 : IE := .bin .mn .i64 (.c 9223372036854775807) rs357
def rs359 : IE := .bin .sub .i64 rs358 rs35
def rs360 : IE := .bin .sub .i64 rs128 rs339
def rs361 : IE := .bin .mx .i64 (.c (-9223372036854775808)) rs360
def rs362 : IE := .bin .add .i64 rs361 rs46
def rs363 : IE := .bin .sub .i64 rs359 rs362
def rs364 : IE := .bin .conv .i64 (.v 8) (.c 0)
def rs365 : IE := .bin .quo .i64 rs364 (.c 8)
def rs366 : IE := .bin .add .i64 rs149 rs365
def rs367 : IE := .bin .sub .i64 rs366 (.c 16)
def rs368 : IE := .bin .sub .i64 rs367 rs18
def rs369 : IE := .bin .conv .i64 (.v 9) (.c 0)
def rs370 : IE := .bin .quo .i64 rs369 (.c 8)
def rs371 : IE := .bin .mul .i64 (.c (-1)) rs370
def rs372 : IE := .bin .sub .i64 rs368 rs371
def rs373 : IE := .bin .add .i64 rs367 rs18
def rs374 : IE := .bin .add .i64 rs373 rs371
def rs375 : IE := .bin .mul .i64 (.c 1000) rs374
def rs376 : IE := .bin .sub .i64 rs164 rs375
def rs377 : IE := .bin .mn .i64 rs345 rs376
def rs378 : IE := .bin .sub .i64 rs377 rs35
def rs379 : IE := .bin .mul .i64 (.c 1000) rs372
def rs380 : IE := .bin .sub .i64 rs170 rs379
def rs381 : IE := .bin .mx .i64 rs348 rs380
def rs382 : IE := .bin .add .i64 rs381 rs46
def rs383 : IE := .bin .sub .i64 rs378 rs382
def rs384 : IE := .bin .sub .i64 (.c 0) rs383
def rs385 : IE := .bin .quo .i64 rs384 rs12
def rs386 : IE := .bin .rem .i64 rs384 rs12
def rs387 : IE := .bin .mx .i64 (.c 0) rs386
def rs388 : IE := .bin .mn .i64 (.c 1) rs387
def rs389 : IE := .bin .add .i64 rs385 rs388
def rs390 : IE := .bin .sub .i64 rs161 rs375
def rs391 : IE := .bin .mn .i64 rs358 rs390
def rs392 : IE := .bin .sub .i64 rs391 rs35
def rs393 : IE := .bin .sub .i64 rs168 rs379
def rs394 : IE := .bin .mx .i64 rs361 rs393
def rs395 : IE := .bin .add .i64 rs394 rs46
def rs396 : IE := .bin .sub .i64 rs392 rs395
def rs397 : IE := .bin .conv .i64 (.v 10) (.c 0)
def rs398 : IE := .bin .quo .i64 rs397 (.c 8)
def rs399 : IE := .bin .add .i64 rs184 rs398
def rs400 : IE := .bin .sub .i64 rs399 (.c 16)
def rs401 : IE := .bin .sub .i64 rs400 rs18
def rs402 : IE := .bin .conv .i64 (.v 11) (.c 0)
def rs403 : IE := .bin .quo .i64 rs402 (.c 8)
def rs404 : IE := .bin .mul .i64 (.c (-1)) rs403
def rs405 : IE := .bin .sub .i64 rs401 rs404
def rs406 : IE := .bin .add .i64 rs400 rs18
def rs407 : IE := .bin .add .i64 rs406 rs404
def rs408 : IE := .bin .mul .i64 (.c 1000) rs407
def rs409 : IE := .bin .sub .i64 rs199 rs408
def rs410 : IE := .bin .mn .i64 rs377 rs409
def rs411 : IE := .bin .sub .i64 rs410 rs35
def rs412 : IE := .bin .mul .i64 (.c 1000) rs405
def rs413 : IE := .bin .sub .i64 rs205 rs412
def rs414 : IE := .bin .mx .i64 rs381 rs413
def rs415 : IE := .bin .add .i64 rs414 rs46
def rs416 : IE := .bin .sub .i64 rs411 rs415
def rs417 : IE := .bin .sub .i64 (.c 0) rs416
def rs418 : IE := .bin .quo .i64 rs417 rs12
def rs419 : IE := .bin .rem .i64 rs417 rs12
def rs420 : IE := .bin .mx .i64 (.c 0) rs419
def rs421 : IE := .bin .mn .i64 (.c 1) rs420
def rs422 : IE := .bin .add .i64 rs418 rs421
def rs423 : IE := .bin .sub .i64 rs196 rs408
def rs424 : IE := .bin .mn .i64 rs391 rs423
def rs425 : IE := .bin .sub .i64 rs424 rs35
def rs426 : IE := .bin .sub .i64 rs203 rs412
def rs427 : IE := .bin .mx .i64 rs394 rs426
def rs428 : IE := .bin .add .i64 rs427 rs46
def rs429 : IE := .bin .sub .i64 rs425 rs428
def rs430 : IE := .bin .conv .i64 (.v 12) (.c 0)
def rs431 : IE := .bin .quo .i64 rs430 (.c 8)
def rs432 : IE := .bin .add .i64 rs219 rs431
def rs433 : IE := .bin .sub .i64 rs432 (.c 16)
def rs434 : IE := .bin .sub .i64 rs433 rs18
def rs435 : IE := .bin .conv .i64 (.v 13) (.c 0)
def rs436 : IE := .bin .quo .i64 rs435 (.c 8)
def rs437 : IE := .bin .mul .i64 (.c (-1)) rs436
def rs438 : IE := .bin .sub .i64 rs434 rs437
def rs439 : IE := .bin .add .i64 rs433 rs18
def rs440 : IE := .bin .add .i64 rs439 rs437
def rs441 : IE := .bin .mul .i64 (.c 1000) rs440
def rs442 : IE := .bin .sub .i64 rs234 rs441
def rs443 : IE := .bin .mn .i64 rs410 rs442
def rs444 : IE := .bin .sub .i64 rs443 rs35
def rs445 : IE := .bin .mul .i64 (.c 1000) rs438
def rs446 : IE := .bin .sub .i64 rs240 rs445
def rs447 : IE := .bin .mx .i64 rs414 rs446
def rs448 : IE := .bin .add .i64 rs447 rs46
def rs449 : IE := .bin .sub .i64 rs444 rs448
def rs450 : IE := .bin .sub .i64 (.c 0) rs449
def rs451 : IE := .bin .quo .i64 rs450 rs12
def rs452 : IE := .bin .rem .i64 rs450 rs12
def rs453 : IE := .bin .mx .i64 (.c 0) rs452
def rs454 : IE := .bin .mn .i64 (.c 1) rs453
def rs455 : IE := .bin .add .i64 rs451 rs454
def rs456 : IE := .bin .sub .i64 rs231 rs441
def rs457 : IE := .bin .mn .i64 rs424 rs456
def rs458 : IE := .bin .sub .i64 rs457 rs35
def rs459 : IE := .bin .sub .i64 rs238 rs445
def rs460 : IE := .bin .mx .i64 rs427 rs459
def rs461 : IE := .bin .add .i64 rs460 rs46
def rs462 : IE := .bin .sub .i64 rs458 rs461
def rs463 : IE := .bin .conv .i64 (.v 14) (.c 0)
def rs464 : IE := .bin .quo .i64 rs463 (.c 8)
def rs465 : IE := .bin .add .i64 rs254 rs464
def rs466 : IE := .bin .sub .i64 rs465 (.c 16)
def rs467 : IE := .bin .sub .i64 rs466 rs18
def rs468 : IE := .bin .conv .i64 (.v 15) (.c 0)
def rs469 : IE := .bin .quo .i64 rs468 (.c 8)
def rs470 : IE := .bin .mul .i64 (.c (-1)) rs469
def rs471 : IE := .bin .sub .i64 rs467 rs470
def rs472 : IE := .bin .add .i64 rs466 rs18
def rs473 : IE := .bin .add .i64 rs472 rs470
def rs474 : IE := .bin .mul .i64 (.c 1000) rs473
def rs475 : IE := .bin .sub .i64 rs269 rs474
def rs476 : IE := .bin .mn .i64 rs443 rs475
def rs477 : IE := .bin .sub .i64 rs476 rs35
def rs478 : IE := .bin .mul .i64 (.c 1000) rs471
def rs479 : IE := .bin .sub .i64 rs275 rs478
def rs480 : IE := .bin .mx .i64 rs447 rs479
def rs481 : IE := .bin .add .i64 rs480 rs46
def rs482 : IE := .bin .sub .i64 rs477 rs481
def rs483 : IE := .bin .sub .i64 (.c 0) rs482
def rs484 : IE := .bin .quo .i64 rs483 rs12
def rs485 : IE := .bin .rem .i64 rs483 rs12
def rs486 : IE := .bin .mx .i64 (.c 0) rs485
def rs487 : IE := .bin .mn .i64 (.c 1) rs486
def rs488 : IE := .bin .add .i64 rs484 rs487
def rs489 : IE := .bin .sub .i64 rs266 rs474
def rs490 : IE := .bin .mn .i64 rs457 rs489
def rs491 : IE := .bin .sub .i64 rs490 rs35
def rs492 : IE := .bin .sub .i64 rs273 rs478
def rs493 : IE := .bin .mx .i64 rs460 rs492
def rs494 : IE := .bin .add .i64 rs493 rs46
def rs495 : IE := .bin .sub .i64 rs491 rs494
def rs496 : IE := .bin .conv .i64 (.v 16) (.c 0)
def rs497 : IE := .bin .quo .i64 rs496 (.c 8)
def rs498 : IE := .bin .add .i64 rs289 rs497
def rs499 : IE := .bin .sub .i64 rs498 (.c 16)
def rs500 : IE := .bin .sub .i64 rs499 rs18
def rs501 : IE := .bin .conv .i64 (.v 17) (.c 0)
def rs502 : IE := .bin .quo .i64 rs501 (.c 8)
def rs503 : IE := .bin .mul .i64 (.c (-1)) rs502
def rs504 : IE := .bin .sub .i64 rs500 rs503
def rs505 : IE := .bin .add .i64 rs499 rs18
def rs506 : IE := .bin .add .i64 rs505 rs503
def rs507 : IE := .bin .mul .i64 (.c 1000) rs506
def rs508 : IE := .bin .sub .i64 rs304 rs507
def rs509 : IE := .bin .mn .i64 rs476 rs508
def rs510 : IE := .bin .sub .i64 rs509 rs35
def rs511 : IE := .bin .mul .i64 (.c 1000) rs504
def rs512 : IE := .bin .sub .i64 rs310 rs511
def rs513 : IE := .bin .mx .i64 rs480 rs512
def rs514 : IE := .bin .add .i64 rs513 rs46
def rs515 : IE := .bin .sub .i64 rs510 rs514
def rs516 : IE := .bin .sub .i64 (.c 0) rs515
def rs517 : IE := .bin .quo .i64 rs516 rs12
def rs518 : IE := .bin .rem .i64 rs516 rs12
def rs519 : IE := .bin .mx .i64 (.c 0) rs518
def rs520 : IE := .bin .mn .i64 (.c 1) rs519
def rs521 : IE := .bin .add .i64 rs517 rs520
def rs522 : IE := .bin .sub .i64 rs301 rs507
def rs523 : IE := .bin .mn .i64 rs490 rs522
def rs524 : IE := .bin .sub .i64 rs523 rs35
def rs525 : IE := .bin .sub .i64 rs308 rs511
def rs526 : IE := .bin .mx .i64 rs493 rs525
def rs527 : IE := .bin .add .i64 rs526 rs46
def rs528 : IE := .bin .sub .i64 rs524 rs527
def rsC0 (t : DT) : DT := (.ask (.cmp .leq (.c 100) rs2) (.ask (.cmp .leq rs2 (.c 200000)) (.ask (.cmp .leq (.c 0) rs4) (.ask (.cmp .leq rs4 (.c 3000)) (.ask (.cmp .leq (.c 0) rs6) t .dead) .dead) .dead) .dead) .dead)
def rsC1 (t : DT) : DT := (.ask (.cmp .leq rs6 (.c 3000)) (.ask (.cmp .leq (.c 0) rs9) (.ask (.cmp .leq rs9 (.c 200000)) (.ask (.cmp .leq (.c 0) rs8) (.ask (.cmp .leq rs8 (.c 200000)) (.ask (.cmp .leq (.c 1) rs10) (.ask (.cmp .leq rs13 rs14) t .dead) .dead) .dead) .dead) .dead) .dead) .dead)
def rsC2 (t : DT) : DT := (.ask (.cmp .leq (.c (-10000000)) rs20) (.ask (.cmp .leq rs20 rs22) (.ask (.cmp .leq rs22 (.c 10000000)) (.ask (.cmp .eql rs12 (.c 0)) .dead (.ask (.cmp .leq (.c (-10000000)) rs121) (.ask (.cmp .leq rs121 rs123) t .dead) .dead)) .dead) .dead) .dead)
def rsC3 (t : DT) : DT := (.ask (.cmp .leq rs123 (.c 10000000)) (.ask (.cmp .leq (.c 0) rs140) (.ask (.cmp .leq rs140 (.c 10000000)) t .dead) .dead) .dead)
def rsC4 (t : DT) : DT := (.ask (.cmp .leq rs158 rs160) (.ask (.cmp .leq rs160 (.c 10000000)) (.ask (.cmp .leq (.c 0) rs182) (.ask (.cmp .leq rs182 (.c 10000000)) (.ask (.cmp .leq (.c 4990) rs58) t .dead) .dead) .dead) .dead) .dead)
def rsC5 (t : DT) : DT := (.ask (.cmp .leq rs58 (.c 10000000)) (.ask (.cmp .leq (.c 1) rs60) (.ask (.cmp .leq rs60 (.c 100000)) (.ask (.cmp .leq rs71 rs72) (.ask (.cmp .leq rs82 rs73) (.ask (.cmp .leq rs62 rs85) (.ask (.cmp .leq rs87 rs80) (.ask (.cmp .leq rs82 rs85) (.ask (.cmp .leq rs87 rs72) t .dead) .dead) .dead) .dead) .dead) .dead) .dead) .dead) .dead)
def rsC6 (t : DT) : DT := (.ask (.cmp .leq rs158 rs160) (.ask (.cmp .leq rs160 rs193) (.ask (.cmp .leq rs193 rs195) (.ask (.cmp .leq rs195 (.c 10000000)) (.ask (.cmp .leq (.c 0) rs217) (.ask (.cmp .leq rs217 (.c 10000000)) (.ask (.cmp .leq (.c 4990) rs58) t .dead) .dead) .dead) .dead) .dead) .dead) .dead)
def rsC7 (t : DT) : DT := (.ask (.cmp .leq rs158 rs160) (.ask (.cmp .leq rs160 rs193) (.ask (.cmp .leq rs193 rs195) (.ask (.cmp .leq rs195 rs228) t .dead) .dead) .dead) .dead)
def rsC8 (t : DT) : DT := (.ask (.cmp .leq rs228 rs230) (.ask (.cmp .leq rs230 (.c 10000000)) t .dead) .dead)
def rsC9 (t : DT) : DT := (.ask (.cmp .leq rs252 (.c 10000000)) (.ask (.cmp .leq (.c 4990) rs58) t .dead) .dead)
def rsC10 (t : DT) : DT := (.ask (.cmp .leq rs228 rs230) (.ask (.cmp .leq rs230 rs263) (.ask (.cmp .leq rs263 rs265) (.ask (.cmp .leq rs265 (.c 10000000)) (.ask (.cmp .leq (.c 0) rs287) (.ask (.cmp .leq rs287 (.c 10000000)) (.ask (.cmp .leq (.c 4990) rs58) t .dead) .dead) .dead) .dead) .dead) .dead) .dead)
def rsC11 (t : DT) : DT := (.ask (.cmp .leq rs228 rs230) (.ask (.cmp .leq rs230 rs263) (.ask (.cmp .leq rs263 rs265) (.ask (.cmp .leq rs265 rs298) t .dead) .dead) .dead) .dead)
def rsC12 (t : DT) : DT := (.ask (.cmp .leq rs300 (.c 10000000)) (.ask (.cmp .leq (.c 0) rs322) t .dead) .dead)
def rsC13 (t : DT) : DT := (.ask (.cmp .leq (.c (-10000000)) rs332) (.ask (.cmp .leq rs332 rs334) (.ask (.cmp .leq rs334 (.c 10000000)) (.ask (.cmp .eql rs12 (.c 0)) .dead (.ask (.cmp .leq (.c (-10000000)) rs121) (.ask (.cmp .leq rs121 rs123) t .dead) .dead)) .dead) .dead) .dead)
def rsC14 (t : DT) : DT := (.ask (.cmp .leq (.c (-10000000)) rs332) (.ask (.cmp .leq rs332 rs334) (.ask (.cmp .leq rs334 rs372) (.ask (.cmp .leq rs372 rs374) (.ask (.cmp .leq rs374 (.c 10000000)) t .dead) .dead) .dead) .dead) .dead)
def rsC15 (t : DT) : DT := (.ask (.cmp .eql rs12 (.c 0)) .dead (.ask (.cmp .leq (.c (-10000000)) rs121) (.ask (.cmp .leq rs121 rs123) t .dead) .dead))
def rsC16 (t : DT) : DT := (.ask (.cmp .leq (.c (-10000000)) rs332) (.ask (.cmp .leq rs332 rs334) (.ask (.cmp .leq rs334 rs372) (.ask (.cmp .leq rs372 rs374) (.ask (.cmp .leq rs374 rs405) (.ask (.cmp .leq rs405 rs407) (.ask (.cmp .leq rs407 (.c 10000000)) (.ask (.cmp .eql rs12 (.c 0)) .dead (.ask (.cmp .leq (.c (-10000000)) rs121) (.ask (.cmp .leq rs121 rs123) t .dead) .dead)) .dead) .dead) .dead) .dead) .dead) .dead) .dead)
def rsC17 (t : DT) : DT := (.ask (.cmp .leq (.c (-10000000)) rs332) (.ask (.cmp .leq rs332 rs334) (.ask (.cmp .leq rs334 rs372) (.ask (.cmp .leq rs372 rs374) (.ask (.cmp .leq rs374 rs405) (.ask (.cmp .leq rs405 rs407) (.ask (.cmp .leq rs407 rs438) (.ask (.cmp .leq rs438 rs440) (.ask (.cmp .leq rs440 (.c 10000000)) (.ask (.cmp .eql rs12 (.c 0)) .dead (.ask (.cmp .leq (.c (-10000000)) rs121) (.ask (.cmp .leq rs121 rs123) t .dead) .dead)) .dead) .dead) .dead) .dead) .dead) .dead) .dead) .dead) .dead)
def rsC18 (t : DT) : DT := (.ask (.cmp .leq (.c (-10000000)) rs332) (.ask (.cmp .leq rs332 rs334) (.ask (.cmp .leq rs334 rs372) (.ask (.cmp .leq rs372 rs374) (.ask (.cmp .leq rs374 rs405) (.ask (.cmp .leq rs405 rs407) (.ask (.cmp .leq rs407 rs438) (.ask (.cmp .leq rs438 rs440) (.ask (.cmp .leq rs440 rs471) (.ask (.cmp .leq rs471 rs473) (.ask (.cmp .leq rs473 (.c 10000000)) (.ask (.cmp .eql rs12 (.c 0)) .dead (.ask (.cmp .leq (.c (-10000000)) rs121) (.ask (.cmp .leq rs121 rs123) t .dead) .dead)) .dead) .dead) .dead) .dead) .dead) .dead) .dead) .dead) .dead) .dead) .dead)
def rsC19 (t : DT) : DT := (.ask (.cmp .leq (.c (-10000000)) rs332) (.ask (.cmp .leq rs332 rs334) (.ask (.cmp .leq rs334 rs372) (.ask (.cmp .leq rs372 rs374) (.ask (.cmp .leq rs374 rs405) (.ask (.cmp .leq rs405 rs407) (.ask (.cmp .leq rs407 rs438) (.ask (.cmp .leq rs438 rs440) (.ask (.cmp .leq rs440 rs471) (.ask (.cmp .leq rs471 rs473) (.ask (.cmp .leq rs473 rs504) (.ask (.cmp .leq rs504 rs506) t .dead) .dead) .dead) .dead) .dead) .dead) .dead) .dead) .dead) .dead) .dead) .dead)
def rsC20 (t : DT) : DT := (.ask (.cmp .leq rs506 (.c 10000000)) (.ask (.cmp .eql rs12 (.c 0)) .dead (.ask (.cmp .leq (.c (-10000000)) rs20) (.ask (.cmp .leq rs20 rs22) (.ask (.cmp .leq rs22 (.c 10000000)) (.ask (.cmp .leq (.c 0) rs56) (.ask (.cmp .leq rs56 (.c 10000000)) t .dead) .dead) .dead) .dead) .dead)) .dead)
def rsC21 (t : DT) : DT := (.ask (.cmp .leq rs506 (.c 10000000)) (.ask (.cmp .eql rs12 (.c 0)) .dead (.ask (.cmp .leq (.c (-10000000)) rs121) (.ask (.cmp .leq rs121 rs123) t .dead) .dead)) .dead)
def rsTree : DT :=
(.ask (.cmp .leq (.v 4) (.c 0))
 (.ask (.cmp .leq (.v 4) (.c 1))
 (.ask (.cmp .leq (.v 5) (.c 0))
 (.ask (.cmp .leq (.v 5) (.c 1))
 (rsC0
 (rsC1
 (.ask (.cmp .leq (.c (-10000000)) rs20)
 (.ask (.cmp .leq rs20 rs22)
 (.ask (.cmp .leq rs22 (.c 10000000))
 (.ask (.cmp .eql rs12 (.c 0))
 .dead
 (.ask (.cmp .leq (.c 0) rs56)
 (.ask (.cmp .leq rs56 (.c 10000000))
 (.ask (.cmp .leq (.c 4990) rs58)
 (.ask (.cmp .leq rs58 (.c 10000000))
 (.ask (.cmp .leq (.c 1) rs60)
 (.ask (.cmp .leq rs60 (.c 100000))
 (.ask (.cmp .leq rs71 rs72)
 (.ask (.cmp .leq rs82 rs73)
 (.ask (.cmp .leq rs62 rs85)
 (.ask (.cmp .leq rs87 rs80)
 (.ask (.cmp .leq rs82 rs85)
 (.ask (.cmp .leq rs87 rs72)
 (.ask (.cmp .leq (.c 0) rs94)
 (.ask (.cmp .leq rs107 rs111)
 (.ask (.cmp .leq rs112 rs87)
 (.leaf (.c true))
 (.leaf (.c true)))
 (.leaf (.c true)))
 .dead)
 .dead)
 .dead)
 .dead)
 .dead)
 .dead)
 .dead)
 .dead)
 .dead)
 .dead)
 .dead)
 .dead)
 .dead))
 .dead)
 .dead)
 .dead)))
 .dead)
 (.ask (.cmp .leq (.v 5) (.c 1))
 (rsC0
 (rsC1
 (rsC2
 (rsC3
 (.ask (.cmp .leq (.c 4990) rs58)
 (.ask (.cmp .leq rs58 (.c 10000000))
 (.ask (.cmp .leq (.c 1) rs60)
 (.ask (.cmp .leq rs60 (.c 100000))
 (.ask (.cmp .leq rs71 rs72)
 (.ask (.cmp .leq rs82 rs73)
 (.ask (.cmp .leq rs62 rs85)
 (.ask (.cmp .leq rs87 rs80)
 (.ask (.cmp .leq rs82 rs85)
 (.ask (.cmp .leq rs87 rs72)
 (.ask (.cmp .leq (.c 0) rs147)
 (.ask (.cmp .leq rs107 rs111)
 (.ask (.cmp .leq rs148 rs87)
 (.leaf (.c true))
 (.leaf (.c true)))
 (.leaf (.c true)))
 .dead)
 .dead)
 .dead)
 .dead)
 .dead)
 .dead)
 .dead)
 .dead)
 .dead)
 .dead)
 .dead)))))
 (.ask (.cmp .leq (.v 5) (.c 2))
 (rsC0
 (rsC1
 (rsC2
 (.ask (.cmp .leq rs123 rs158)
 (rsC4
 (rsC5
 (.ask (.cmp .leq rs107 rs111)
 (.ask (.cmp .leq rs183 rs87)
 (.leaf (.c true))
 (.leaf (.c true)))
 (.leaf (.c true)))))
 .dead))))
 (.ask (.cmp .leq (.v 5) (.c 3))
 (rsC0
 (rsC1
 (rsC2
 (.ask (.cmp .leq rs123 rs158)
 (rsC6
 (rsC5
 (.ask (.cmp .leq rs107 rs111)
 (.ask (.cmp .leq rs218 rs87)
 (.leaf (.c true))
 (.leaf (.c true)))
 (.leaf (.c true)))))
 .dead))))
 (.ask (.cmp .leq (.v 5) (.c 4))
 (rsC0
 (rsC1
 (rsC2
 (.ask (.cmp .leq rs123 rs158)
 (rsC7
 (rsC8
 (.ask (.cmp .leq (.c 0) rs252)
 (rsC9
 (rsC5
 (.ask (.cmp .leq rs107 rs111)
 (.ask (.cmp .leq rs253 rs87)
 (.leaf (.c true))
 (.leaf (.c true)))
 (.leaf (.c true)))))
 .dead)))
 .dead))))
 (.ask (.cmp .leq (.v 5) (.c 5))
 (rsC0
 (rsC1
 (rsC2
 (.ask (.cmp .leq rs123 rs158)
 (rsC7
 (rsC10
 (rsC5
 (.ask (.cmp .leq rs107 rs111)
 (.ask (.cmp .leq rs288 rs87)
 (.leaf (.c true))
 (.leaf (.c true)))
 (.leaf (.c true))))))
 .dead))))
 (.ask (.cmp .leq (.v 5) (.c 6))
 (rsC0
 (rsC1
 (rsC2
 (.ask (.cmp .leq rs123 rs158)
 (rsC7
 (rsC11
 (.ask (.cmp .leq rs298 rs300)
 (rsC12
 (.ask (.cmp .leq rs322 (.c 10000000))
 (.ask (.cmp .leq (.c 4990) rs58)
 (rsC5
 (.ask (.cmp .leq rs107 rs111)
 (.ask (.cmp .leq rs323 rs87)
 (.leaf (.c true))
 (.leaf (.c true)))
 (.leaf (.c true))))
 .dead)
 .dead))
 .dead)))
 .dead))))
 (rsC0
 (rsC1
 (rsC2
 (.ask (.cmp .leq rs123 rs158)
 (rsC7
 (rsC11
 (.ask (.cmp .leq rs298 rs300)
 (rsC12
 (.ask (.cmp .leq rs322 (.c 10000000))
 (.ask (.cmp .leq (.c 4990) rs58)
 (rsC5
 (.ask (.cmp .leq rs107 rs111)
 (.ask (.cmp .leq rs323 rs87)
 (.leaf (.c true))
 (.leaf (.c true)))
 (.leaf (.c true))))
 .dead)
 .dead))
 .dead)))
 .dead)))))))))))
 .dead)
 (.ask (.cmp .leq (.v 4) (.c 1))
 (.ask (.cmp .leq (.v 5) (.c 0))
 (.ask (.cmp .leq (.v 5) (.c 1))
 (rsC0
 (rsC1
 (.ask (.cmp .leq (.c (-10000000)) rs332)
 (.ask (.cmp .leq rs332 rs334)
 (.ask (.cmp .leq rs334 (.c 10000000))
 (.ask (.cmp .eql rs12 (.c 0))
 .dead
 (.ask (.cmp .leq (.c (-10000000)) rs20)
 (.ask (.cmp .leq rs20 rs22)
 (.ask (.cmp .leq rs22 (.c 10000000))
 (.ask (.cmp .leq (.c 0) rs56)
 (.ask (.cmp .leq rs56 (.c 10000000))
 (.ask (.cmp .leq (.c 4990) rs58)
 (.ask (.cmp .leq rs58 (.c 10000000))
 (.ask (.cmp .leq (.c 1) rs60)
 (.ask (.cmp .leq rs60 (.c 100000))
 (.ask (.cmp .leq rs71 rs72)
 (.ask (.cmp .leq rs82 rs73)
 (.ask (.cmp .leq rs62 rs85)
 (.ask (.cmp .leq rs87 rs80)
 (.ask (.cmp .leq rs82 rs85)
 (.ask (.cmp .leq rs87 rs72)
 (.ask (.cmp .leq (.c 0) rs343)
 (.ask (.cmp .leq rs356 rs111)
 (.ask (.cmp .leq rs112 rs87)
 (.leaf (.c true))
 (.leaf (.c true)))
 (.leaf (.c true)))
 .dead)
 .dead)
 .dead)
 .dead)
 .dead)
 .dead)
 .dead)
 .dead)
 .dead)
 .dead)
 .dead)
 .dead)
 .dead)
 .dead)
 .dead)
 .dead))
 .dead)
 .dead)
 .dead)))
 .dead)
 (.ask (.cmp .leq (.v 5) (.c 1))
 (rsC0
 (rsC1
 (rsC13
 (rsC3
 (.ask (.cmp .leq (.c 4990) rs58)
 (.ask (.cmp .leq rs58 (.c 10000000))
 (.ask (.cmp .leq (.c 1) rs60)
 (.ask (.cmp .leq rs60 (.c 100000))
 (.ask (.cmp .leq rs71 rs72)
 (.ask (.cmp .leq rs82 rs73)
 (.ask (.cmp .leq rs62 rs85)
 (.ask (.cmp .leq rs87 rs80)
 (.ask (.cmp .leq rs82 rs85)
 (.ask (.cmp .leq rs87 rs72)
 (.ask (.cmp .leq (.c 0) rs363)
 (.ask (.cmp .leq rs356 rs111)
 (.ask (.cmp .leq rs148 rs87)
 (.leaf (.c true))
 (.leaf (.c true)))
 (.leaf (.c true)))
 .dead)
 .dead)
 .dead)
 .dead)
 .dead)
 .dead)
 .dead)
 .dead)
 .dead)
 .dead)
 .dead)))))
 (.ask (.cmp .leq (.v 5) (.c 2))
 (rsC0
 (rsC1
 (rsC13
 (.ask (.cmp .leq rs123 rs158)
 (rsC4
 (rsC5
 (.ask (.cmp .leq rs356 rs111)
 (.ask (.cmp .leq rs183 rs87)
 (.leaf (.c true))
 (.leaf (.c true)))
 (.leaf (.c true)))))
 .dead))))
 (.ask (.cmp .leq (.v 5) (.c 3))
 (rsC0
 (rsC1
 (rsC13
 (.ask (.cmp .leq rs123 rs158)
 (rsC6
 (rsC5
 (.ask (.cmp .leq rs356 rs111)
 (.ask (.cmp .leq rs218 rs87)
 (.leaf (.c true))
 (.leaf (.c true)))
 (.leaf (.c true)))))
 .dead))))
 (.ask (.cmp .leq (.v 5) (.c 4))
 (rsC0
 (rsC1
 (rsC13
 (.ask (.cmp .leq rs123 rs158)
 (rsC7
 (rsC8
 (.ask (.cmp .leq (.c 0) rs252)
 (rsC9
 (rsC5
 (.ask (.cmp .leq rs356 rs111)
 (.ask (.cmp .leq rs253 rs87)
 (.leaf (.c true))
 (.leaf (.c true)))
 (.leaf (.c true)))))
 .dead)))
 .dead))))
 (.ask (.cmp .leq (.v 5) (.c 5))
 (rsC0
 (rsC1
 (rsC13
 (.ask (.cmp .leq rs123 rs158)
 (rsC7
 (rsC10
 (rsC5
 (.ask (.cmp .leq rs356 rs111)
 (.ask (.cmp .leq rs288 rs87)
 (.leaf (.c true))
 (.leaf (.c true)))
 (.leaf (.c true))))))
 .dead))))
 (.ask (.cmp .leq (.v 5) (.c 6))
 (rsC0
 (rsC1
 (rsC13
 (.ask (.cmp .leq rs123 rs158)
 (rsC7
 (rsC11
 (.ask (.cmp .leq rs298 rs300)
 (rsC12
 (.ask (.cmp .leq rs322 (.c 10000000))
 (.ask (.cmp .leq (.c 4990) rs58)
 (rsC5
 (.ask (.cmp .leq rs356 rs111)
 (.ask (.cmp .leq rs323 rs87)
 (.leaf (.c true))
 (.leaf (.c true)))
 (.leaf (.c true))))
 .dead)
 .dead))
 .dead)))
 .dead))))
 (rsC0
 (rsC1
 (rsC13
 (.ask (.cmp .leq rs123 rs158)
 (rsC7
 (rsC11
 (.ask (.cmp .leq rs298 rs300)
 (rsC12
 (.ask (.cmp .leq rs322 (.c 10000000))
 (.ask (.cmp .leq (.c 4990) rs58)
 (rsC5
 (.ask (.cmp .leq rs356 rs111)
 (.ask (.cmp .leq rs323 rs87)
 (.leaf (.c true))
 (.leaf (.c true)))
 (.leaf (.c true))))
 .dead)
 .dead))
 .dead)))
 .dead)))))))))))
 (.ask (.cmp .leq (.v 4) (.c 2))
 (.ask (.cmp .leq (.v 5) (.c 0))
 (.ask (.cmp .leq (.v 5) (.c 1))
 (rsC0
 (rsC1
 (rsC14
 (.ask (.cmp .eql rs12 (.c 0))
 .dead
 (.ask (.cmp .leq (.c (-10000000)) rs20)
 (.ask (.cmp .leq rs20 rs22)
 (.ask (.cmp .leq rs22 (.c 10000000))
 (.ask (.cmp .leq (.c 0) rs56)
 (.ask (.cmp .leq rs56 (.c 10000000))
 (.ask (.cmp .leq (.c 4990) rs58)
 (rsC5
 (.ask (.cmp .leq rs389 rs111)
 (.ask (.cmp .leq rs112 rs87)
 (.leaf (.c true))
 (.leaf (.c true)))
 (.leaf (.c true))))
 .dead)
 .dead)
 .dead)
 .dead)
 .dead)
 .dead)))))
 .dead)
 (.ask (.cmp .leq (.v 5) (.c 1))
 (rsC0
 (rsC1
 (rsC14
 (rsC15
 (rsC3
 (.ask (.cmp .leq (.c 4990) rs58)
 (rsC5
 (.ask (.cmp .leq rs389 rs111)
 (.ask (.cmp .leq rs148 rs87)
 (.leaf (.c true))
 (.leaf (.c true)))
 (.leaf (.c true))))
 .dead))))))
 (.ask (.cmp .leq (.v 5) (.c 2))
 (rsC0
 (rsC1
 (rsC14
 (rsC15
 (.ask (.cmp .leq rs123 rs158)
 (rsC4
 (rsC5
 (.ask (.cmp .leq (.c 0) rs396)
 (.ask (.cmp .leq rs389 rs111)
 (.ask (.cmp .leq rs183 rs87)
 (.leaf (.c true))
 (.leaf (.c true)))
 (.leaf (.c true)))
 (.ask (.cmp .leq rs389 rs111)
 (.ask (.cmp .leq rs183 rs87)
 .dead
 (.leaf (.c true)))
 (.leaf (.c true))))))
 .dead)))))
 (.ask (.cmp .leq (.v 5) (.c 3))
 (rsC0
 (rsC1
 (rsC14
 (rsC15
 (.ask (.cmp .leq rs123 rs158)
 (rsC6
 (rsC5
 (.ask (.cmp .leq rs389 rs111)
 (.ask (.cmp .leq rs218 rs87)
 (.leaf (.c true))
 (.leaf (.c true)))
 (.leaf (.c true)))))
 .dead)))))
 (.ask (.cmp .leq (.v 5) (.c 4))
 (rsC0
 (rsC1
 (rsC14
 (rsC15
 (.ask (.cmp .leq rs123 rs158)
 (rsC7
 (rsC8
 (.ask (.cmp .leq (.c 0) rs252)
 (rsC9
 (rsC5
 (.ask (.cmp .leq rs389 rs111)
 (.ask (.cmp .leq rs253 rs87)
 (.leaf (.c true))
 (.leaf (.c true)))
 (.leaf (.c true)))))
 .dead)))
 .dead)))))
 (.ask (.cmp .leq (.v 5) (.c 5))
 (rsC0
 (rsC1
 (rsC14
 (rsC15
 (.ask (.cmp .leq rs123 rs158)
 (rsC7
 (rsC10
 (rsC5
 (.ask (.cmp .leq rs389 rs111)
 (.ask (.cmp .leq rs288 rs87)
 (.leaf (.c true))
 (.leaf (.c true)))
 (.leaf (.c true))))))
 .dead)))))
 (.ask (.cmp .leq (.v 5) (.c 6))
 (rsC0
 (rsC1
 (rsC14
 (rsC15
 (.ask (.cmp .leq rs123 rs158)
 (rsC7
 (rsC11
 (.ask (.cmp .leq rs298 rs300)
 (rsC12
 (.ask (.cmp .leq rs322 (.c 10000000))
 (.ask (.cmp .leq (.c 4990) rs58)
 (rsC5
 (.ask (.cmp .leq rs389 rs111)
 (.ask (.cmp .leq rs323 rs87)
 (.leaf (.c true))
 (.leaf (.c true)))
 (.leaf (.c true))))
 .dead)
 .dead))
 .dead)))
 .dead)))))
 (rsC0
 (rsC1
 (rsC14
 (rsC15
 (.ask (.cmp .leq rs123 rs158)
 (rsC7
 (rsC11
 (.ask (.cmp .leq rs298 rs300)
 (rsC12
 (.ask (.cmp .leq rs322 (.c 10000000))
 (.ask (.cmp .leq (.c 4990) rs58)
 (rsC5
 (.ask (.cmp .leq rs389 rs111)
 (.ask (.cmp .leq rs323 rs87)
 (.leaf (.c true))
 (.leaf (.c true)))
 (.leaf (.c true))))
 .dead)
 .dead))
 .dead)))
 .dead))))))))))))
 (.ask (.cmp .leq (.v 4) (.c 3))
 (.ask (.cmp .leq (.v 5) (.c 0))
 (.ask (.cmp .leq (.v 5) (.c 1))
 (rsC0
 (rsC1
 (.ask (.cmp .leq (.c (-10000000)) rs332)
 (.ask (.cmp .leq rs332 rs334)
 (.ask (.cmp .leq rs334 rs372)
 (.ask (.cmp .leq rs372 rs374)
 (.ask (.cmp .leq rs374 rs405)
 (.ask (.cmp .leq rs405 rs407)
 (.ask (.cmp .leq rs407 (.c 10000000))
 (.ask (.cmp .eql rs12 (.c 0))
 .dead
 (.ask (.cmp .leq (.c (-10000000)) rs20)
 (.ask (.cmp .leq rs20 rs22)
 (.ask (.cmp .leq rs22 (.c 10000000))
 (.ask (.cmp .leq (.c 0) rs56)
 (.ask (.cmp .leq rs56 (.c 10000000))
 (.ask (.cmp .leq (.c 4990) rs58)
 (rsC5
 (.ask (.cmp .leq rs422 rs111)
 (.ask (.cmp .leq rs112 rs87)
 (.leaf (.c true))
 (.leaf (.c true)))
 (.leaf (.c true))))
 .dead)
 .dead)
 .dead)
 .dead)
 .dead)
 .dead))
 .dead)
 .dead)
 .dead)
 .dead)
 .dead)
 .dead)
 .dead)))
 .dead)
 (.ask (.cmp .leq (.v 5) (.c 1))
 (rsC0
 (rsC1
 (rsC16
 (rsC3
 (.ask (.cmp .leq (.c 4990) rs58)
 (rsC5
 (.ask (.cmp .leq rs422 rs111)
 (.ask (.cmp .leq rs148 rs87)
 (.leaf (.c true))
 (.leaf (.c true)))
 (.leaf (.c true))))
 .dead)))))
 (.ask (.cmp .leq (.v 5) (.c 2))
 (rsC0
 (rsC1
 (rsC16
 (.ask (.cmp .leq rs123 rs158)
 (rsC4
 (rsC5
 (.ask (.cmp .leq rs422 rs111)
 (.ask (.cmp .leq rs183 rs87)
 (.leaf (.c true))
 (.leaf (.c true)))
 (.leaf (.c true)))))
 .dead))))
 (.ask (.cmp .leq (.v 5) (.c 3))
 (rsC0
 (rsC1
 (rsC16
 (.ask (.cmp .leq rs123 rs158)
 (rsC6
 (rsC5
 (.ask (.cmp .leq (.c 0) rs429)
 (.ask (.cmp .leq rs422 rs111)
 (.ask (.cmp .leq rs218 rs87)
 (.leaf (.c true))
 (.leaf (.c true)))
 (.leaf (.c true)))
 (.ask (.cmp .leq rs422 rs111)
 (.ask (.cmp .leq rs218 rs87)
 .dead
 (.leaf (.c true)))
 (.leaf (.c true))))))
 .dead))))
 (.ask (.cmp .leq (.v 5) (.c 4))
 (rsC0
 (rsC1
 (rsC16
 (.ask (.cmp .leq rs123 rs158)
 (rsC7
 (rsC8
 (.ask (.cmp .leq (.c 0) rs252)
 (rsC9
 (rsC5
 (.ask (.cmp .leq rs422 rs111)
 (.ask (.cmp .leq rs253 rs87)
 (.leaf (.c true))
 (.leaf (.c true)))
 (.leaf (.c true)))))
 .dead)))
 .dead))))
 (.ask (.cmp .leq (.v 5) (.c 5))
 (rsC0
 (rsC1
 (rsC16
 (.ask (.cmp .leq rs123 rs158)
 (rsC7
 (rsC10
 (rsC5
 (.ask (.cmp .leq rs422 rs111)
 (.ask (.cmp .leq rs288 rs87)
 (.leaf (.c true))
 (.leaf (.c true)))
 (.leaf (.c true))))))
 .dead))))
 (.ask (.cmp .leq (.v 5) (.c 6))
 (rsC0
 (rsC1
 (rsC16
 (.ask (.cmp .leq rs123 rs158)
 (rsC7
 (rsC11
 (.ask (.cmp .leq rs298 rs300)
 (rsC12
 (.ask (.cmp .leq rs322 (.c 10000000))
 (.ask (.cmp .leq (.c 4990) rs58)
 (rsC5
 (.ask (.cmp .leq rs422 rs111)
 (.ask (.cmp .leq rs323 rs87)
 (.leaf (.c true))
 (.leaf (.c true)))
 (.leaf (.c true))))
 .dead)
 .dead))
 .dead)))
 .dead))))
 (rsC0
 (rsC1
 (rsC16
 (.ask (.cmp .leq rs123 rs158)
 (rsC7
 (rsC11
 (.ask (.cmp .leq rs298 rs300)
 (rsC12
 (.ask (.cmp .leq rs322 (.c 10000000))
 (.ask (.cmp .leq (.c 4990) rs58)
 (rsC5
 (.ask (.cmp .leq rs422 rs111)
 (.ask (.cmp .leq rs323 rs87)
 (.leaf (.c true))
 (.leaf (.c true)))
 (.leaf (.c true))))
 .dead)
 .dead))
 .dead)))
 .dead)))))))))))
 (.ask (.cmp .leq (.v 4) (.c 4))
 (.ask (.cmp .leq (.v 5) (.c 0))
 (.ask (.cmp .leq (.v 5) (.c 1))
 (rsC0
 (rsC1
 (.ask (.cmp .leq (.c (-10000000)) rs332)
 (.ask (.cmp .leq rs332 rs334)
 (.ask (.cmp .leq rs334 rs372)
 (.ask (.cmp .leq rs372 rs374)
 (.ask (.cmp .leq rs374 rs405)
 (.ask (.cmp .leq rs405 rs407)
 (.ask (.cmp .leq rs407 rs438)
 (.ask (.cmp .leq rs438 rs440)
 (.ask (.cmp .leq rs440 (.c 10000000))
 (.ask (.cmp .eql rs12 (.c 0))
 .dead
 (.ask (.cmp .leq (.c (-10000000)) rs20)
 (.ask (.cmp .leq rs20 rs22)
 (.ask (.cmp .leq rs22 (.c 10000000))
 (.ask (.cmp .leq (.c 0) rs56)
 (.ask (.cmp .leq rs56 (.c 10000000))
 (.ask (.cmp .leq (.c 4990) rs58)
 (rsC5
 (.ask (.cmp .leq rs455 rs111)
 (.ask (.cmp .leq rs112 rs87)
 (.leaf (.c true))
 (.leaf (.c true)))
 (.leaf (.c true))))
 .dead)
 .dead)
 .dead)
 .dead)
 .dead)
 .dead))
 .dead)
 .dead)
 .dead)
 .dead)
 .dead)
 .dead)
 .dead)
 .dead)
 .dead)))
 .dead)
 (.ask (.cmp .leq (.v 5) (.c 1))
 (rsC0
 (rsC1
 (rsC17
 (rsC3
 (.ask (.cmp .leq (.c 4990) rs58)
 (rsC5
 (.ask (.cmp .leq rs455 rs111)
 (.ask (.cmp .leq rs148 rs87)
 (.leaf (.c true))
 (.leaf (.c true)))
 (.leaf (.c true))))
 .dead)))))
 (.ask (.cmp .leq (.v 5) (.c 2))
 (rsC0
 (rsC1
 (rsC17
 (.ask (.cmp .leq rs123 rs158)
 (rsC4
 (rsC5
 (.ask (.cmp .leq rs455 rs111)
 (.ask (.cmp .leq rs183 rs87)
 (.leaf (.c true))
 (.leaf (.c true)))
 (.leaf (.c true)))))
 .dead))))
 (.ask (.cmp .leq (.v 5) (.c 3))
 (rsC0
 (rsC1
 (rsC17
 (.ask (.cmp .leq rs123 rs158)
 (rsC6
 (rsC5
 (.ask (.cmp .leq rs455 rs111)
 (.ask (.cmp .leq rs218 rs87)
 (.leaf (.c true))
 (.leaf (.c true)))
 (.leaf (.c true)))))
 .dead))))
 (.ask (.cmp .leq (.v 5) (.c 4))
 (rsC0
 (rsC1
 (rsC17
 (.ask (.cmp .leq rs123 rs158)
 (rsC7
 (rsC8
 (.ask (.cmp .leq (.c 0) rs252)
 (rsC9
 (rsC5
 (.ask (.cmp .leq (.c 0) rs462)
 (.ask (.cmp .leq rs455 rs111)
 (.ask (.cmp .leq rs253 rs87)
 (.leaf (.c true))
 (.leaf (.c true)))
 (.leaf (.c true)))
 (.ask (.cmp .leq rs455 rs111)
 (.ask (.cmp .leq rs253 rs87)
 .dead
 (.leaf (.c true)))
 (.leaf (.c true))))))
 .dead)))
 .dead))))
 (.ask (.cmp .leq (.v 5) (.c 5))
 (rsC0
 (rsC1
 (rsC17
 (.ask (.cmp .leq rs123 rs158)
 (rsC7
 (rsC10
 (rsC5
 (.ask (.cmp .leq rs455 rs111)
 (.ask (.cmp .leq rs288 rs87)
 (.leaf (.c true))
 (.leaf (.c true)))
 (.leaf (.c true))))))
 .dead))))
 (.ask (.cmp .leq (.v 5) (.c 6))
 (rsC0
 (rsC1
 (rsC17
 (.ask (.cmp .leq rs123 rs158)
 (rsC7
 (rsC11
 (.ask (.cmp .leq rs298 rs300)
 (rsC12
 (.ask (.cmp .leq rs322 (.c 10000000))
 (.ask (.cmp .leq (.c 4990) rs58)
 (rsC5
 (.ask (.cmp .leq rs455 rs111)
 (.ask (.cmp .leq rs323 rs87)
 (.leaf (.c true))
 (.leaf (.c true)))
 (.leaf (.c true))))
 .dead)
 .dead))
 .dead)))
 .dead))))
 (rsC0
 (rsC1
 (rsC17
 (.ask (.cmp .leq rs123 rs158)
 (rsC7
 (rsC11
 (.ask (.cmp .leq rs298 rs300)
 (rsC12
 (.ask (.cmp .leq rs322 (.c 10000000))
 (.ask (.cmp .leq (.c 4990) rs58)
 (rsC5
 (.ask (.cmp .leq rs455 rs111)
 (.ask (.cmp .leq rs323 rs87)
 (.leaf (.c true))
 (.leaf (.c true)))
 (.leaf (.c true))))
 .dead)
 .dead))
 .dead)))
 .dead)))))))))))
 (.ask (.cmp .leq (.v 4) (.c 5))
 (.ask (.cmp .leq (.v 5) (.c 0))
 (.ask (.cmp .leq (.v 5) (.c 1))
 (rsC0
 (rsC1
 (.ask (.cmp .leq (.c (-10000000)) rs332)
 (.ask (.cmp .leq rs332 rs334)
 (.ask (.cmp .leq rs334 rs372)
 (.ask (.cmp .leq rs372 rs374)
 (.ask (.cmp .leq rs374 rs405)
 (.ask (.cmp .leq rs405 rs407)
 (.ask (.cmp .leq rs407 rs438)
 (.ask (.cmp .leq rs438 rs440)
 (.ask (.cmp .leq rs440 rs471)
 (.ask (.cmp .leq rs471 rs473)
 (.ask (.cmp .leq rs473 (.c 10000000))
 (.ask (.cmp .eql rs12 (.c 0))
 .dead
 (.ask (.cmp .leq (.c (-10000000)) rs20)
 (.ask (.cmp .leq rs20 rs22)
 (.ask (.cmp .leq rs22 (.c 10000000))
 (.ask (.cmp .leq (.c 0) rs56)
 (.ask (.cmp .leq rs56 (.c 10000000))
 (.ask (.cmp .leq (.c 4990) rs58)
 (rsC5
 (.ask (.cmp .leq rs488 rs111)
 (.ask (.cmp .leq rs112 rs87)
 (.leaf (.c true))
 (.leaf (.c true)))
 (.leaf (.c true))))
 .dead)
 .dead)
 .dead)
 .dead)
 .dead)
 .dead))
 .dead)
 .dead)
 .dead)
 .dead)
 .dead)
 .dead)
 .dead)
 .dead)
 .dead)
 .dead)
 .dead)))
 .dead)
 (.ask (.cmp .leq (.v 5) (.c 1))
 (rsC0
 (rsC1
 (rsC18
 (rsC3
 (.ask (.cmp .leq (.c 4990) rs58)
 (rsC5
 (.ask (.cmp .leq rs488 rs111)
 (.ask (.cmp .leq rs148 rs87)
 (.leaf (.c true))
 (.leaf (.c true)))
 (.leaf (.c true))))
 .dead)))))
 (.ask (.cmp .leq (.v 5) (.c 2))
 (rsC0
 (rsC1
 (rsC18
 (.ask (.cmp .leq rs123 rs158)
 (rsC4
 (rsC5
 (.ask (.cmp .leq rs488 rs111)
 (.ask (.cmp .leq rs183 rs87)
 (.leaf (.c true))
 (.leaf (.c true)))
 (.leaf (.c true)))))
 .dead))))
 (.ask (.cmp .leq (.v 5) (.c 3))
 (rsC0
 (rsC1
 (rsC18
 (.ask (.cmp .leq rs123 rs158)
 (rsC6
 (rsC5
 (.ask (.cmp .leq rs488 rs111)
 (.ask (.cmp .leq rs218 rs87)
 (.leaf (.c true))
 (.leaf (.c true)))
 (.leaf (.c true)))))
 .dead))))
 (.ask (.cmp .leq (.v 5) (.c 4))
 (rsC0
 (rsC1
 (rsC18
 (.ask (.cmp .leq rs123 rs158)
 (rsC7
 (rsC8
 (.ask (.cmp .leq (.c 0) rs252)
 (rsC9
 (rsC5
 (.ask (.cmp .leq rs488 rs111)
 (.ask (.cmp .leq rs253 rs87)
 (.leaf (.c true))
 (.leaf (.c true)))
 (.leaf (.c true)))))
 .dead)))
 .dead))))
 (.ask (.cmp .leq (.v 5) (.c 5))
 (rsC0
 (rsC1
 (rsC18
 (.ask (.cmp .leq rs123 rs158)
 (rsC7
 (rsC10
 (rsC5
 (.ask (.cmp .leq (.c 0) rs495)
 (.ask (.cmp .leq rs488 rs111)
 (.ask (.cmp .leq rs288 rs87)
 (.leaf (.c true))
 (.leaf (.c true)))
 (.leaf (.c true)))
 (.ask (.cmp .leq rs488 rs111)
 (.ask (.cmp .leq rs288 rs87)
 .dead
 (.leaf (.c true)))
 (.leaf (.c true)))))))
 .dead))))
 (.ask (.cmp .leq (.v 5) (.c 6))
 (rsC0
 (rsC1
 (rsC18
 (.ask (.cmp .leq rs123 rs158)
 (rsC7
 (rsC11
 (.ask (.cmp .leq rs298 rs300)
 (rsC12
 (.ask (.cmp .leq rs322 (.c 10000000))
 (.ask (.cmp .leq (.c 4990) rs58)
 (rsC5
 (.ask (.cmp .leq rs488 rs111)
 (.ask (.cmp .leq rs323 rs87)
 (.leaf (.c true))
 (.leaf (.c true)))
 (.leaf (.c true))))
 .dead)
 .dead))
 .dead)))
 .dead))))
 (rsC0
 (rsC1
 (rsC18
 (.ask (.cmp .leq rs123 rs158)
 (rsC7
 (rsC11
 (.ask (.cmp .leq rs298 rs300)
 (rsC12
 (.ask (.cmp .leq rs322 (.c 10000000))
 (.ask (.cmp .leq (.c 4990) rs58)
 (rsC5
 (.ask (.cmp .leq rs488 rs111)
 (.ask (.cmp .leq rs323 rs87)
 (.leaf (.c true))
 (.leaf (.c true)))
 (.leaf (.c true))))
 .dead)
 .dead))
 .dead)))
 .dead)))))))))))
 (.ask (.cmp .leq (.v 4) (.c 6))
 (.ask (.cmp .leq (.v 5) (.c 0))
 (.ask (.cmp .leq (.v 5) (.c 1))
 (rsC0
 (rsC1
 (rsC19
 (rsC20
 (.ask (.cmp .leq (.c 4990) rs58)
 (rsC5
 (.ask (.cmp .leq rs521 rs111)
 (.ask (.cmp .leq rs112 rs87)
 (.leaf (.c true))
 (.leaf (.c true)))
 (.leaf (.c true))))
 .dead)))))
 .dead)
 (.ask (.cmp .leq (.v 5) (.c 1))
 (rsC0
 (rsC1
 (rsC19
 (rsC21
 (rsC3
 (.ask (.cmp .leq (.c 4990) rs58)
 (rsC5
 (.ask (.cmp .leq rs521 rs111)
 (.ask (.cmp .leq rs148 rs87)
 (.leaf (.c true))
 (.leaf (.c true)))
 (.leaf (.c true))))
 .dead))))))
 (.ask (.cmp .leq (.v 5) (.c 2))
 (rsC0
 (rsC1
 (rsC19
 (rsC21
 (.ask (.cmp .leq rs123 rs158)
 (rsC4
 (rsC5
 (.ask (.cmp .leq rs521 rs111)
 (.ask (.cmp .leq rs183 rs87)
 (.leaf (.c true))
 (.leaf (.c true)))
 (.leaf (.c true)))))
 .dead)))))
 (.ask (.cmp .leq (.v 5) (.c 3))
 (rsC0
 (rsC1
 (rsC19
 (rsC21
 (.ask (.cmp .leq rs123 rs158)
 (rsC6
 (rsC5
 (.ask (.cmp .leq rs521 rs111)
 (.ask (.cmp .leq rs218 rs87)
 (.leaf (.c true))
 (.leaf (.c true)))
 (.leaf (.c true)))))
 .dead)))))
 (.ask (.cmp .leq (.v 5) (.c 4))
 (rsC0
 (rsC1
 (rsC19
 (rsC21
 (.ask (.cmp .leq rs123 rs158)
 (rsC7
 (rsC8
 (.ask (.cmp .leq (.c 0) rs252)
 (rsC9
 (rsC5
 (.ask (.cmp .leq rs521 rs111)
 (.ask (.cmp .leq rs253 rs87)
 (.leaf (.c true))
 (.leaf (.c true)))
 (.leaf (.c true)))))
 .dead)))
 .dead)))))
 (.ask (.cmp .leq (.v 5) (.c 5))
 (rsC0
 (rsC1
 (rsC19
 (rsC21
 (.ask (.cmp .leq rs123 rs158)
 (rsC7
 (rsC10
 (rsC5
 (.ask (.cmp .leq rs521 rs111)
 (.ask (.cmp .leq rs288 rs87)
 (.leaf (.c true))
 (.leaf (.c true)))
 (.leaf (.c true))))))
 .dead)))))
 (.ask (.cmp .leq (.v 5) (.c 6))
 (rsC0
 (rsC1
 (rsC19
 (rsC21
 (.ask (.cmp .leq rs123 rs158)
 (rsC7
 (rsC11
 (.ask (.cmp .leq rs298 rs300)
 (rsC12
 (.ask (.cmp .leq rs322 (.c 10000000))
 (.ask (.cmp .leq (.c 4990) rs58)
 (rsC5
 (.ask (.cmp .leq (.c 0) rs528)
 (.ask (.cmp .leq rs521 rs111)
 (.ask (.cmp .leq rs323 rs87)
 (.leaf (.c true))
 (.leaf (.c true)))
 (.leaf (.c true)))
 (.ask (.cmp .leq rs521 rs111)
 (.ask (.cmp .leq rs323 rs87)
 .dead
 (.leaf (.c true)))
 (.leaf (.c true)))))
 .dead)
 .dead))
 .dead)))
 .dead)))))
 (rsC0
 (rsC1
 (rsC19
 (rsC21
 (.ask (.cmp .leq rs123 rs158)
 (rsC7
 (rsC11
 (.ask (.cmp .leq rs298 rs300)
 (rsC12
 (.ask (.cmp .leq rs322 (.c 10000000))
 (.ask (.cmp .leq (.c 4990) rs58)
 (rsC5
 (.ask (.cmp .leq (.c 0) rs528)
 (.ask (.cmp .leq rs521 rs111)
 (.ask (.cmp .leq rs323 rs87)
 (.leaf (.c true))
 (.leaf (.c true)))
 (.leaf (.c true)))
 (.ask (.cmp .leq rs521 rs111)
 (.ask (.cmp .leq rs323 rs87)
 .dead
 (.leaf (.c true)))
 (.leaf (.c true)))))
 .dead)
 .dead))
 .dead)))
 .dead))))))))))))
 (.ask (.cmp .leq (.v 5) (.c 0))
 (.ask (.cmp .leq (.v 5) (.c 1))
 (rsC0
 (rsC1
 (rsC19
 (rsC20
 (.ask (.cmp .leq (.c 4990) rs58)
 (rsC5
 (.ask (.cmp .leq rs521 rs111)
 (.ask (.cmp .leq rs112 rs87)
 (.leaf (.c true))
 (.leaf (.c true)))
 (.leaf (.c true))))
 .dead)))))
 .dead)
 (.ask (.cmp .leq (.v 5) (.c 1))
 (rsC0
 (rsC1
 (rsC19
 (rsC21
 (rsC3
 (.ask (.cmp .leq (.c 4990) rs58)
 (rsC5
 (.ask (.cmp .leq rs521 rs111)
 (.ask (.cmp .leq rs148 rs87)
 (.leaf (.c true))
 (.leaf (.c true)))
 (.leaf (.c true))))
 .dead))))))
 (.ask (.cmp .leq (.v 5) (.c 2))
 (rsC0
 (rsC1
 (rsC19
 (rsC21
 (.ask (.cmp .leq rs123 rs158)
 (rsC4
 (rsC5
 (.ask (.cmp .leq rs521 rs111)
 (.ask (.cmp .leq rs183 rs87)
 (.leaf (.c true))
 (.leaf (.c true)))
 (.leaf (.c true)))))
 .dead)))))
 (.ask (.cmp .leq (.v 5) (.c 3))
 (rsC0
 (rsC1
 (rsC19
 (rsC21
 (.ask (.cmp .leq rs123 rs158)
 (rsC6
 (rsC5
 (.ask (.cmp .leq rs521 rs111)
 (.ask (.cmp .leq rs218 rs87)
 (.leaf (.c true))
 (.leaf (.c true)))
 (.leaf (.c true)))))
 .dead)))))
 (.ask (.cmp .leq (.v 5) (.c 4))
 (rsC0
 (rsC1
 (rsC19
 (rsC21
 (.ask (.cmp .leq rs123 rs158)
 (rsC7
 (rsC8
 (.ask (.cmp .leq (.c 0) rs252)
 (rsC9
 (rsC5
 (.ask (.cmp .leq rs521 rs111)
 (.ask (.cmp .leq rs253 rs87)
 (.leaf (.c true))
 (.leaf (.c true)))
 (.leaf (.c true)))))
 .dead)))
 .dead)))))
 (.ask (.cmp .leq (.v 5) (.c 5))
 (rsC0
 (rsC1
 (rsC19
 (rsC21
 (.ask (.cmp .leq rs123 rs158)
 (rsC7
 (rsC10
 (rsC5
 (.ask (.cmp .leq rs521 rs111)
 (.ask (.cmp .leq rs288 rs87)
 (.leaf (.c true))
 (.leaf (.c true)))
 (.leaf (.c true))))))
 .dead)))))
 (.ask (.cmp .leq (.v 5) (.c 6))
 (rsC0
 (rsC1
 (rsC19
 (rsC21
 (.ask (.cmp .leq rs123 rs158)
 (rsC7
 (rsC11
 (.ask (.cmp .leq rs298 rs300)
 (rsC12
 (.ask (.cmp .leq rs322 (.c 10000000))
 (.ask (.cmp .leq (.c 4990) rs58)
 (rsC5
 (.ask (.cmp .leq (.c 0) rs528)
 (.ask (.cmp .leq rs521 rs111)
 (.ask (.cmp .leq rs323 rs87)
 (.leaf (.c true))
 (.leaf (.c true)))
 (.leaf (.c true)))
 (.ask (.cmp .leq rs521 rs111)
 (.ask (.cmp .leq rs323 rs87)
 .dead
 (.leaf (.c true)))
 (.leaf (.c true)))))
 .dead)
 .dead))
 .dead)))
 .dead)))))
 (rsC0
 (rsC1
 (rsC19
 (rsC21
 (.ask (.cmp .leq rs123 rs158)
 (rsC7
 (rsC11
 (.ask (.cmp .leq rs298 rs300)
 (rsC12
 (.ask (.cmp .leq rs322 (.c 10000000))
 (.ask (.cmp .leq (.c 4990) rs58)
 (rsC5
 (.ask (.cmp .leq (.c 0) rs528)
 (.ask (.cmp .leq rs521 rs111)
 (.ask (.cmp .leq rs323 rs87)
 (.leaf (.c true))
 (.leaf (.c true)))
 (.leaf (.c true)))
 (.ask (.cmp .leq rs521 rs111)
 (.ask (.cmp .leq rs323 rs87)
 .dead
 (.leaf (.c true)))
 (.leaf (.c true)))))
 .dead)
 .dead))
 .dead)))
 .dead)))))))))))))))))))
end Go.Proofs.Ytdicfkocjakhcaa.Cx
