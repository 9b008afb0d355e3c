/- TopZoneFit: the tests of the law and their arithmetic. Made by tools/cxroot.py. -/
import Derived.Test.YtlijpnjnmapdlaaCxS
set_option linter.unusedSimpArgs false
set_option linter.unusedVariables false
set_option maxRecDepth 100000
set_option maxHeartbeats 4000000
namespace Go.Proofs.Ytlijpnjnmapdlaa.Cx
open Go Go.RowKit

def tz0 : IE := .bin .conv .i64 (.v 6) (.c 0)
def tz1 : IE := .bin .rem .i64 tz0 (.c 40)
def tz2 : IE := .bin .mul .i64 (.c 2) tz1
def tz3 : IE := .bin .conv .i64 (.v 7) (.c 0)
def tz4 : IE := .bin .rem .i64 tz3 (.c 40)
def tz5 : IE := .bin .mul .i64 (.c 2) tz4
def tz6 : IE := .bin .conv .i64 (.v 8) (.c 0)
def tz7 : IE := .bin .rem .i64 tz6 (.c 60)
def tz8 : IE := .bin .sub .i64 tz7 (.c 20)
def tz9 : IE := .bin .mul .i64 (.c 2) tz8
def tz10 : IE := .bin .conv .i64 (.v 5) (.c 0)
def tz11 : IE := .bin .mul .i64 (.c 100) tz10
def tz12 : IE := .bin .add .i64 (.c 20000) tz11
def tz13 : IE := .bin .conv .i64 (.v 0) (.c 0)
def tz14 : IE := .bin .rem .i64 tz13 (.c 5000)
def tz15 : IE := .bin .add .i64 (.c 1000) tz14
def tz16 : IE := .bin .mul .i64 (.c 4) tz15
def tz17 : IE := .bin .conv .i64 (.v 1) (.c 0)
def tz18 : IE := .bin .rem .i64 tz17 (.c 900)
def tz19 : IE := .bin .add .i64 (.c 1) tz18
def tz20 : IE := .bin .conv .i64 (.v 2) (.c 0)
def tz21 : IE := .bin .rem .i64 tz20 (.c 900)
def tz22 : IE := .bin .add .i64 (.c 1) tz21
def tz23 : IE := .bin .rem .i64 tz13 (.c 3)
def tz24 : IE := .bin .add .i64 (.c 1) tz23
def tz25 : IE := .bin .add .i64 tz19 tz22
def tz26 : IE := .bin .mul .i64 (.c 900) tz25
def tz27 : IE := .bin .mul .i64 (.c 500) tz16
def tz28 : IE := .bin .conv .i64 (.v 11) (.c 0)
def tz29 : IE := .bin .rem .i64 tz28 (.c 5)
def tz30 : IE := .bin .add .i64 (.c 1) tz29
def tz31 : IE := .bin .sub .i64 tz12 tz9
def tz32 : IE := .bin .sub .i64 tz31 tz2
def tz33 : IE := .bin .conv .i64 (.v 9) (.c 0)
def tz34 : IE := .bin .sub .i64 tz31 tz32
def tz35 : IE := .bin .mul .i64 tz33 tz34
def tz36 : IE := .bin .quo .i64 tz35 (.c 512)
def tz37 : IE := .bin .mul .i64 (.c 2) tz36
def tz38 : IE := .bin .add .i64 tz32 tz37
def tz39 : IE := .bin .sub .i64 tz38 tz12
def tz40 : IE := .bin .quo .i64 tz39 (.c 2)
def tz41 : IE := .bin .add .i64 tz12 (.c 0)
def tz42 : IE := .bin .conv .i64 (.v 10) (.c 0)
def tz43 : IE := .bin .add .i64 tz41 tz5
def tz44 : IE := .bin .sub .i64 tz43 tz41
def tz45 : IE := .bin .mul .i64 tz42 tz44
def tz46 : IE := .bin .quo .i64 tz45 (.c 512)
def tz47 : IE := .bin .mul .i64 (.c 2) tz46
def tz48 : IE := .bin .add .i64 tz41 tz47
def tz49 : IE := .bin .sub .i64 tz48 tz12
def tz50 : IE := .bin .quo .i64 tz49 (.c 2)
def tz51 : IE := .bin .conv .i64 (.v 3) (.c 0)
def tz52 : IE := .bin .mul .i64 (.c 7) tz51
def tz53 : IE := .bin .conv .i64 (.v 4) (.c 0)
def tz54 : IE := .bin .mul .i64 (.c 7) tz53
def tz55 : IE := .bin .mn .i64 tz52 tz54
def tz56 : IE := .bin .mx .i64 tz52 tz54
def tz57 : IE := .bin .mul .i64 (.c 1000) tz16
def tz58 : IE := .bin .mul .i64 tz57 (.c 0)
def tz59 : IE := .bin .mul .i64 (.c 250) tz16
def tz60 : IE := .bin .sub .i64 tz58 tz59
def tz61 : IE := .bin .mul .i64 tz40 tz19
def tz62 : IE := .bin .sub .i64 tz60 tz61
def tz63 : IE := .bin .quo .i64 tz62 (.c 1000)
def tz64 : IE := .bin .rem .i64 tz62 (.c 1000)
def tz65 : IE := .bin .mx .i64 (.c 0) tz64
def tz66 : IE := .bin .mn .i64 (.c 1) tz65
def tz67 : IE := .bin .add .i64 tz63 tz66
def tz68 : IE := .bin .add .i64 tz58 tz59
def tz69 : IE := .bin .mul .i64 tz40 tz22
def tz70 : IE := .bin .add .i64 tz68 tz69
def tz71 : IE := .bin .sub .i64 (.c 0) tz70
def tz72 : IE := .bin .quo .i64 tz71 (.c 1000)
def tz73 : IE := .bin .rem .i64 tz71 (.c 1000)
def tz74 : IE := .bin .mx .i64 (.c 0) tz73
def tz75 : IE := .bin .mn .i64 (.c 1) tz74
def tz76 : IE := .bin .add .i64 tz72 tz75
def tz77 : IE := .bin .sub .i64 (.c 0) tz76
def tz78 : IE := .bin .mul .i64 tz50 tz19
def tz79 : IE := .bin .sub .i64 tz60 tz78
def tz80 : IE := .bin .sub .i64 (.c 0) tz79
def tz81 : IE := .bin .quo .i64 tz80 (.c 1000)
def tz82 : IE := .bin .rem .i64 tz80 (.c 1000)
def tz83 : IE := .bin .mx .i64 (.c 0) tz82
def tz84 : IE := .bin .mn .i64 (.c 1) tz83
def tz85 : IE := .bin .add .i64 tz81 tz84
def tz86 : IE := .bin .sub .i64 (.c 0) tz85
def tz87 : IE := .bin .mul .i64 tz50 tz22
def tz88 : IE := .bin .add .i64 tz68 tz87
def tz89 : IE := .bin .quo .i64 tz88 (.c 1000)
def tz90 : IE := .bin .rem .i64 tz88 (.c 1000)
def tz91 : IE := .bin .mx .i64 (.c 0) tz90
def tz92 : IE := .bin .mn .i64 (.c 1) tz91
def tz93 : IE := .bin .add .i64 tz89 tz92
def tz94 : IE := .bin .sub .i64 tz48 tz38
def tz95 : IE := .bin .mul .i64 (.c 1000) tz93
def tz96 : IE := .bin .mul .i64 (.c 1000) tz77
def tz97 : IE := .bin .sub .i64 tz95 tz96
def tz98 : IE := .bin .mn .i64 (.c 9223372036854775807) tz97
def tz99 : IE := .bin .sub .i64 tz22 tz22
def tz100 : IE := .bin .mul .i64 tz55 tz99
def tz101 : IE := .bin .mul .i64 tz56 tz99
def tz102 : IE := .bin .mx .i64 tz100 tz101
def tz103 : IE := .bin .sub .i64 tz98 tz102
def tz104 : IE := .bin .mul .i64 (.c 1000) tz86
def tz105 : IE := .bin .mul .i64 (.c 1000) tz67
def tz106 : IE := .bin .sub .i64 tz104 tz105
def tz107 : IE := .bin .mx .i64 (.c (-9223372036854775808)) tz106
def tz108 : IE := .bin .sub .i64 tz19 tz19
def tz109 : IE := .bin .mul .i64 tz55 tz108
def tz110 : IE := .bin .mul .i64 tz56 tz108
def tz111 : IE := .bin .mx .i64 tz109 tz110
def tz112 : IE := .bin .add .i64 tz107 tz111
def tz113 : IE := .bin .sub .i64 tz103 tz112
def tz114 : IE := .bin .sub .i64 tz41 tz31
def tz115 : IE := .bin .sub .i64 tz31 tz12
def tz116 : IE := .bin .quo .i64 tz115 (.c 2)
def tz117 : IE := .bin .sub .i64 tz41 tz12
def tz118 : IE := .bin .quo .i64 tz117 (.c 2)
def tz119 : IE := .bin .mul .i64 tz116 tz19
def tz120 : IE := .bin .sub .i64 tz60 tz119
def tz121 : IE := .bin .quo .i64 tz120 (.c 1000)
def tz122 : IE := .bin .rem .i64 tz120 (.c 1000)
def tz123 : IE := .bin .mx .i64 (.c 0) tz122
def tz124 : IE := .bin .mn .i64 (.c 1) tz123
def tz125 : IE := .bin .add .i64 tz121 tz124
def tz126 : IE := .bin .mul .i64 tz116 tz22
def tz127 : IE := .bin .add .i64 tz68 tz126
def tz128 : IE := .bin .sub .i64 (.c 0) tz127
def tz129 : IE := .bin .quo .i64 tz128 (.c 1000)
def tz130 : IE := .bin .rem .i64 tz128 (.c 1000)
def tz131 : IE := .bin .mx .i64 (.c 0) tz130
def tz132 : IE := .bin .mn .i64 (.c 1) tz131
def tz133 : IE := .bin .add .i64 tz129 tz132
def tz134 : IE := .bin .sub .i64 (.c 0) tz133
def tz135 : IE := .bin .mul .i64 tz118 tz19
def tz136 : IE := .bin .sub .i64 tz60 tz135
def tz137 : IE := .bin .sub .i64 (.c 0) tz136
def tz138 : IE := .bin .quo .i64 tz137 (.c 1000)
def tz139 : IE := .bin .rem .i64 tz137 (.c 1000)
def tz140 : IE := .bin .mx .i64 (.c 0) tz139
def tz141 : IE := .bin .mn .i64 (.c 1) tz140
def tz142 : IE := .bin .add .i64 tz138 tz141
def tz143 : IE := .bin .sub .i64 (.c 0) tz142
def tz144 : IE := .bin .mul .i64 tz118 tz22
def tz145 : IE := .bin .add .i64 tz68 tz144
def tz146 : IE := .bin .quo .i64 tz145 (.c 1000)
def tz147 : IE := .bin .rem .i64 tz145 (.c 1000)
def tz148 : IE := .bin .mx .i64 (.c 0) tz147
def tz149 : IE := .bin .mn .i64 (.c 1) tz148
def tz150 : IE := .bin .add .i64 tz146 tz149
def tz151 : IE := .bin .mul .i64 (.c 1000) tz150
def tz152 : IE := .bin .mul .i64 (.c 1000) tz134
def tz153 : IE := .bin .sub .i64 tz151 tz152
def tz154 : IE := .bin .mn .i64 (.c 9223372036854775807) tz153
def tz155 : IE := .bin .sub .i64 tz154 tz102
def tz156 : IE := .bin .mul .i64 (.c 1000) tz143
def tz157 : IE := .bin .mul .i64 (.c 1000) tz125
def tz158 : IE := .bin .sub .i64 tz156 tz157
def tz159 : IE := .bin .mx .i64 (.c (-9223372036854775808)) tz158
def tz160 : IE := .bin .add .i64 tz159 tz111
def tz161 : IE := .bin .sub .i64 tz155 tz160
def tz162 : IE := .bin .sub .i64 (.c 0) tz114
def tz163 : IE := .bin .mul .i64 tz162 tz25
def tz164 : IE := .bin .mul .i64 tz57 (.c 1)
def tz165 : IE := .bin .sub .i64 tz164 tz59
def tz166 : IE := .bin .sub .i64 tz165 tz61
def tz167 : IE := .bin .quo .i64 tz166 (.c 1000)
def tz168 : IE := .bin .rem .i64 tz166 (.c 1000)
def tz169 : IE := .bin .mx .i64 (.c 0) tz168
def tz170 : IE := .bin .mn .i64 (.c 1) tz169
def tz171 : IE := .bin .add .i64 tz167 tz170
def tz172 : IE := .bin .add .i64 tz164 tz59
def tz173 : IE := .bin .add .i64 tz172 tz69
def tz174 : IE := .bin .sub .i64 (.c 0) tz173
def tz175 : IE := .bin .quo .i64 tz174 (.c 1000)
def tz176 : IE := .bin .rem .i64 tz174 (.c 1000)
def tz177 : IE := .bin .mx .i64 (.c 0) tz176
def tz178 : IE := .bin .mn .i64 (.c 1) tz177
def tz179 : IE := .bin .add .i64 tz175 tz178
def tz180 : IE := .bin .sub .i64 (.c 0) tz179
def tz181 : IE := .bin .sub .i64 tz165 tz78
def tz182 : IE := .bin .sub .i64 (.c 0) tz181
def tz183 : IE := .bin .quo .i64 tz182 (.c 1000)
def tz184 : IE := .bin .rem .i64 tz182 (.c 1000)
def tz185 : IE := .bin .mx .i64 (.c 0) tz184
def tz186 : IE := .bin .mn .i64 (.c 1) tz185
def tz187 : IE := .bin .add .i64 tz183 tz186
def tz188 : IE := .bin .sub .i64 (.c 0) tz187
def tz189 : IE := .bin .add .i64 tz172 tz87
def tz190 : IE := .bin .quo .i64 tz189 (.c 1000)
def tz191 : IE := .bin .rem .i64 tz189 (.c 1000)
def tz192 : IE := .bin .mx .i64 (.c 0) tz191
def tz193 : IE := .bin .mn .i64 (.c 1) tz192
def tz194 : IE := .bin .add .i64 tz190 tz193
def tz195 : IE := .bin .mul .i64 (.c 1000) tz194
def tz196 : IE := .bin .mul .i64 (.c 1000) tz180
def tz197 : IE := .bin .sub .i64 tz195 tz196
def tz198 : IE := .bin .mn .i64 tz98 tz197
def tz199 : IE := .bin .sub .i64 tz198 tz102
def tz200 : IE := .bin .mul .i64 (.c 1000) tz188
def tz201 : IE := .bin .mul .i64 (.c 1000) tz171
def tz202 : IE := .bin .sub .i64 tz200 tz201
def tz203 : IE := .bin .mx .i64 tz107 tz202
def tz204 : IE := .bin .add .i64 tz203 tz111
def tz205 : IE := .bin .sub .i64 tz199 tz204
def tz206 : IE := .bin .sub .i64 tz165 tz119
def tz207 : IE := .bin .quo .i64 tz206 (.c 1000)
def tz208 : IE := .bin .rem .i64 tz206 (.c 1000)
def tz209 : IE := .bin .mx .i64 (.c 0) tz208
def tz210 : IE := .bin .mn .i64 (.c 1) tz209
def tz211 : IE := .bin .add .i64 tz207 tz210
def tz212 : IE := .bin .add .i64 tz172 tz126
def tz213 : IE := .bin .sub .i64 (.c 0) tz212
def tz214 : IE := .bin .quo .i64 tz213 (.c 1000)
def tz215 : IE := .bin .rem .i64 tz213 (.c 1000)
def tz216 : IE := .bin .mx .i64 (.c 0) tz215
def tz217 : IE := .bin .mn .i64 (.c 1) tz216
def tz218 : IE := .bin .add .i64 tz214 tz217
def tz219 : IE := .bin .sub .i64 (.c 0) tz218
def tz220 : IE := .bin .sub .i64 tz165 tz135
def tz221 : IE := .bin .sub .i64 (.c 0) tz220
def tz222 : IE := .bin .quo .i64 tz221 (.c 1000)
def tz223 : IE := .bin .rem .i64 tz221 (.c 1000)
def tz224 : IE := .bin .mx .i64 (.c 0) tz223
def tz225 : IE := .bin .mn .i64 (.c 1) tz224
def tz226 : IE := .bin .add .i64 tz222 tz225
def tz227 : IE := .bin .sub .i64 (.c 0) tz226
def tz228 : IE := .bin .add .i64 tz172 tz144
def tz229 : IE := .bin .quo .i64 tz228 (.c 1000)
def tz230 : IE := .bin .rem .i64 tz228 (.c 1000)
def tz231 : IE := .bin .mx .i64 (.c 0) tz230
def tz232 : IE := .bin .mn .i64 (.c 1) tz231
def tz233 : IE := .bin .add .i64 tz229 tz232
def tz234 : IE := .bin .mul .i64 (.c 1000) tz233
def tz235 : IE := .bin .mul .i64 (.c 1000) tz219
def tz236 : IE := .bin .sub .i64 tz234 tz235
def tz237 : IE := .bin .mn .i64 tz154 tz236
def tz238 : IE := .bin .sub .i64 tz237 tz102
def tz239 : IE := .bin .mul .i64 (.c 1000) tz227
def tz240 : IE := .bin .mul .i64 (.c 1000) tz211
def tz241 : IE := .bin .sub .i64 tz239 tz240
def tz242 : IE := .bin .mx .i64 tz159 tz241
def tz243 : IE := .bin .add .i64 tz242 tz111
def tz244 : IE := .bin .sub .i64 tz238 tz243
def tz245 : IE := .bin .mul .i64 tz57 (.c 2)
def tz246 : IE := .bin .sub .i64 tz245 tz59
def tz247 : IE := .bin .sub .i64 tz246 tz61
def tz248 : IE := .bin .quo .i64 tz247 (.c 1000)
def tz249 : IE := .bin .rem .i64 tz247 (.c 1000)
def tz250 : IE := .bin .mx .i64 (.c 0) tz249
def tz251 : IE := .bin .mn .i64 (.c 1) tz250
def tz252 : IE := .bin .add .i64 tz248 tz251
def tz253 : IE := .bin .add .i64 tz245 tz59
def tz254 : IE := .bin .add .i64 tz253 tz69
def tz255 : IE := .bin .sub .i64 (.c 0) tz254
def tz256 : IE := .bin .quo .i64 tz255 (.c 1000)
def tz257 : IE := .bin .rem .i64 tz255 (.c 1000)
def tz258 : IE := .bin .mx .i64 (.c 0) tz257
def tz259 : IE := .bin .mn .i64 (.c 1) tz258
def tz260 : IE := .bin .add .i64 tz256 tz259
def tz261 : IE := .bin .sub .i64 (.c 0) tz260
def tz262 : IE := .bin .sub .i64 tz246 tz78
def tz263 : IE := .bin .sub .i64 (.c 0) tz262
def tz264 : IE := .bin .quo .i64 tz263 (.c 1000)
def tz265 : IE := .bin .rem .i64 tz263 (.c 1000)
def tz266 : IE := .bin .mx .i64 (.c 0) tz265
def tz267 : IE := .bin .mn .i64 (.c 1) tz266
def tz268 : IE := .bin .add .i64 tz264 tz267
def tz269 : IE := .bin .sub .i64 (.c 0) tz268
def tz270 : IE := .bin .add .i64 tz253 tz87
def tz271 : IE := .bin .quo .i64 tz270 (.c 1000)
def tz272 : IE := .bin .rem .i64 tz270 (.c 1000)
def tz273 : IE := .bin .mx .i64 (.c 0) tz272
def tz274 : IE := .bin .mn .i64 (.c 1) tz273
def tz275 : IE := .bin .add .i64 tz271 tz274
def tz276 : IE := .bin .mul .i64 (.c 1000) tz275
def tz277 : IE := .bin .mul .i64 (.c 1000) tz261
def tz278 : IE := .bin .sub .i64 tz276 tz277
def tz279 : IE := .bin .mn .i64 tz198 tz278
def tz280 : IE := .bin .sub .i64 tz279 tz102
def tz281 : IE := .bin .mul .i64 (.c 1000) tz269
def tz282 : IE := .bin .mul .i64 (.c 1000) tz252
def tz283 : IE := .bin .sub .i64 tz281 tz282
def tz284 : IE := .bin .mx .i64 tz203 tz283
def tz285 : IE := .bin .add .i64 tz284 tz111
def tz286 : IE := .bin .sub .i64 tz280 tz285
def tz287 : IE := .bin .sub .i64 tz246 tz119
def tz288 : IE := .bin .quo .i64 tz287 (.c 1000)
def tz289 : IE := .bin .rem .i64 tz287 (.c 1000)
def tz290 : IE := .bin .mx .i64 (.c 0) tz289
def tz291 : IE := .bin .mn .i64 (.c 1) tz290
def tz292 : IE := .bin .add .i64 tz288 tz291
def tz293 : IE := .bin .add .i64 tz253 tz126
def tz294 : IE := .bin .sub .i64 (.c 0) tz293
def tz295 : IE := .bin .quo .i64 tz294 (.c 1000)
def tz296 : IE := .bin .rem .i64 tz294 (.c 1000)
def tz297 : IE := .bin .mx .i64 (.c 0) tz296
def tz298 : IE := .bin .mn .i64 (.c 1) tz297
def tz299 : IE := .bin .add .i64 tz295 tz298
def tz300 : IE := .bin .sub .i64 (.c 0) tz299
def tz301 : IE := .bin .sub .i64 tz246 tz135
def tz302 : IE := .bin .sub .i64 (.c 0) tz301
def tz303 : IE := .bin .quo .i64 tz302 (.c 1000)
def tz304 : IE := .bin .rem .i64 tz302 (.c 1000)
def tz305 : IE := .bin .mx .i64 (.c 0) tz304
def tz306 : IE := .bin .mn .i64 (.c 1) tz305
def tz307 : IE := .bin .add .i64 tz303 tz306
def tz308 : IE := .bin .sub .i64 (.c 0) tz307
def tz309 : IE := .bin .add .i64 tz253 tz144
def tz310 : IE := .bin .quo .i64 tz309 (.c 1000)
def tz311 : IE := .bin .rem .i64 tz309 (.c 1000)
def tz312 : IE := .bin .mx .i64 (.c 0) tz311
def tz313 : IE := .bin .mn .i64 (.c 1) tz312
def tz314 : IE := .bin .add .i64 tz310 tz313
def tz315 : IE := .bin .mul .i64 (.c 1000) tz314
def tz316 : IE := .bin .mul .i64 (.c 1000) tz300
def tz317 : IE := .bin .sub .i64 tz315 tz316
def tz318 : IE := .bin .mn .i64 tz237 tz317
def tz319 : IE := .bin .sub .i64 tz318 tz102
def tz320 : IE := .bin .mul .i64 (.c 1000) tz308
def tz321 : IE := .bin .mul .i64 (.c 1000) tz292
def tz322 : IE := .bin .sub .i64 tz320 tz321
def tz323 : IE := .bin .mx .i64 tz242 tz322
def tz324 : IE := .bin .add .i64 tz323 tz111
def tz325 : IE := .bin .sub .i64 tz319 tz324
def tz326 : IE := .bin .mul .i64 tz57 (.c 3)
def tz327 : IE := .bin .sub .i64 tz326 tz59
def tz328 : IE := .bin .sub .i64 tz327 tz61
def tz329 : IE := .bin .quo .i64 tz328 (.c 1000)
def tz330 : IE := .bin .rem .i64 tz328 (.c 1000)
def tz331 : IE := .bin .mx .i64 (.c 0) tz330
def tz332 : IE := .bin .mn .i64 (.c 1) tz331
def tz333 : IE := .bin .add .i64 tz329 tz332
def tz334 : IE := .bin .add .i64 tz326 tz59
def tz335 : IE := .bin .add .i64 tz334 tz69
def tz336 : IE := .bin .sub .i64 (.c 0) tz335
def tz337 : IE := .bin .quo .i64 tz336 (.c 1000)
def tz338 : IE := .bin .rem .i64 tz336 (.c 1000)
def tz339 : IE := .bin .mx .i64 (.c 0) tz338
def tz340 : IE := .bin .mn .i64 (.c 1) tz339
def tz341 : IE := .bin .add .i64 tz337 tz340
def tz342 : IE := .bin .sub .i64 (.c 0) tz341
def tz343 : IE := .bin .sub .i64 tz327 tz78
def tz344 : IE := .bin .sub .i64 (.c 0) tz343
def tz345 : IE := .bin .quo .i64 tz344 (.c 1000)
def tz346 : IE := .bin .rem .i64 tz344 (.c 1000)
def tz347 : IE := .bin .mx .i64 (.c 0) tz346
def tz348 : IE := .bin .mn .i64 (.c 1) tz347
def tz349 : IE := .bin .add .i64 tz345 tz348
def tz350 : IE := .bin .sub .i64 (.c 0) tz349
def tz351 : IE := .bin .add .i64 tz334 tz87
def tz352 : IE := .bin .quo .i64 tz351 (.c 1000)
def tz353 : IE := .bin .rem .i64 tz351 (.c 1000)
def tz354 : IE := .bin .mx .i64 (.c 0) tz353
def tz355 : IE := .bin .mn .i64 (.c 1) tz354
def tz356 : IE := .bin .add .i64 tz352 tz355
def tz357 : IE := .bin .mul .i64 (.c 1000) tz356
def tz358 : IE := .bin .mul .i64 (.c 1000) tz342
def tz359 : IE := .bin .sub .i64 tz357 tz358
def tz360 : IE := .bin .mn .i64 tz279 tz359
def tz361 : IE := .bin .sub .i64 tz360 tz102
def tz362 : IE := .bin .mul .i64 (.c 1000) tz350
def tz363 : IE := .bin .mul .i64 (.c 1000) tz333
def tz364 : IE := .bin .sub .i64 tz362 tz363
def tz365 : IE := .bin .mx .i64 tz284 tz364
def tz366 : IE := .bin .add .i64 tz365 tz111
def tz367 : IE := .bin .sub .i64 tz361 tz366
def tz368 : IE := .bin .sub .i64 tz327 tz119
def tz369 : IE := .bin .quo .i64 tz368 (.c 1000)
def tz370 : IE := .bin .rem .i64 tz368 (.c 1000)
def tz371 : IE := .bin .mx .i64 (.c 0) tz370
def tz372 : IE := .bin .mn .i64 (.c 1) tz371
def tz373 : IE := .bin .add .i64 tz369 tz372
def tz374 : IE := .bin .add .i64 tz334 tz126
def tz375 : IE := .bin .sub .i64 (.c 0) tz374
def tz376 : IE := .bin .quo .i64 tz375 (.c 1000)
def tz377 : IE := .bin .rem .i64 tz375 (.c 1000)
def tz378 : IE := .bin .mx .i64 (.c 0) tz377
def tz379 : IE := .bin .mn .i64 (.c 1) tz378
def tz380 : IE := .bin .add .i64 tz376 tz379
def tz381 : IE := .bin .sub .i64 (.c 0) tz380
def tz382 : IE := .bin .sub .i64 tz327 tz135
def tz383 : IE := .bin .sub .i64 (.c 0) tz382
def tz384 : IE := .bin .quo .i64 tz383 (.c 1000)
def tz385 : IE := .bin .rem .i64 tz383 (.c 1000)
def tz386 : IE := .bin .mx .i64 (.c 0) tz385
def tz387 : IE := .bin .mn .i64 (.c 1) tz386
def tz388 : IE := .bin .add .i64 tz384 tz387
def tz389 : IE := .bin .sub .i64 (.c 0) tz388
def tz390 : IE := .bin .add .i64 tz334 tz144
def tz391 : IE := .bin .quo .i64 tz390 (.c 1000)
def tz392 : IE := .bin .rem .i64 tz390 (.c 1000)
def tz393 : IE := .bin .mx .i64 (.c 0) tz392
def tz394 : IE := .bin .mn .i64 (.c 1) tz393
def tz395 : IE := .bin .add .i64 tz391 tz394
def tz396 : IE := .bin .mul .i64 (.c 1000) tz395
def tz397 : IE := .bin .mul .i64 (.c 1000) tz381
def tz398 : IE := .bin .sub .i64 tz396 tz397
def tz399 : IE := .bin .mn .i64 tz318 tz398
def tz400 : IE := .bin .sub .i64 tz399 tz102
def tz401 : IE := .bin .mul .i64 (.c 1000) tz389
def tz402 : IE := .bin .mul .i64 (.c 1000) tz373
def tz403 : IE := .bin .sub .i64 tz401 tz402
def tz404 : IE := .bin .mx .i64 tz323 tz403
def tz405 : IE := .bin .add .i64 tz404 tz111
def tz406 : IE := .bin .sub .i64 tz400 tz405
def tz407 : IE := .bin .mul .i64 tz57 (.c 4)
def tz408 : IE := .bin .sub .i64 tz407 tz59
def tz409 : IE := .bin .sub .i64 tz408 tz61
def tz410 : IE := .bin .quo .i64 tz409 (.c 1000)
def tz411 : IE := .bin .rem .i64 tz409 (.c 1000)
def tz412 : IE := .bin .mx .i64 (.c 0) tz411
def tz413 : IE := .bin .mn .i64 (.c 1) tz412
def tz414 : IE := .bin .add .i64 tz410 tz413
def tz415 : IE := .bin .add .i64 tz407 tz59
def tz416 : IE := .bin .add .i64 tz415 tz69
def tz417 : IE := .bin .sub .i64 (.c 0) tz416
def tz418 : IE := .bin .quo .i64 tz417 (.c 1000)
def tz419 : IE := .bin .rem .i64 tz417 (.c 1000)
def tz420 : IE := .bin .mx .i64 (.c 0) tz419
def tz421 : IE := .bin .mn .i64 (.c 1) tz420
def tz422 : IE := .bin .add .i64 tz418 tz421
def tz423 : IE := .bin .sub .i64 (.c 0) tz422
def tz424 : IE := .bin .sub .i64 tz408 tz78
def tz425 : IE := .bin .sub .i64 (.c 0) tz424
def tz426 : IE := .bin .quo .i64 tz425 (.c 1000)
def tz427 : IE := .bin .rem .i64 tz425 (.c 1000)
def tz428 : IE := .bin .mx .i64 (.c 0) tz427
def tz429 : IE := .bin .mn .i64 (.c 1) tz428
def tz430 : IE := .bin .add .i64 tz426 tz429
def tz431 : IE := .bin .sub .i64 (.c 0) tz430
def tz432 : IE := .bin .add .i64 tz415 tz87
def tz433 : IE := .bin .quo .i64 tz432 (.c 1000)
def tz434 : IE := .bin .rem .i64 tz432 (.c 1000)
def tz435 : IE := .bin .mx .i64 (.c 0) tz434
def tz436 : IE := .bin .mn .i64 (.c 1) tz435
def tz437 : IE := .bin .add .i64 tz433 tz436
def tz438 : IE := .bin .mul .i64 (.c 1000) tz437
def tz439 : IE := .bin .mul .i64 (.c 1000) tz423
def tz440 : IE := .bin .sub .i64 tz438 tz439
def tz441 : IE := .bin .mn .i64 tz360 tz440
def tz442 : IE := .bin .sub .i64 tz441 tz102
def tz443 : IE := .bin .mul .i64 (.c 1000) tz431
def tz444 : IE := .bin .mul .i64 (.c 1000) tz414
def tz445 : IE := .bin .sub .i64 tz443 tz444
def tz446 : IE := .bin .mx .i64 tz365 tz445
def tz447 : IE := .bin .add .i64 tz446 tz111
def tz448 : IE := .bin .sub .i64 tz442 tz447
def tz449 : IE := .bin .sub .i64 tz408 tz119
def tz450 : IE := .bin .quo .i64 tz449 (.c 1000)
def tz451 : IE := .bin .rem .i64 tz449 (.c 1000)
def tz452 : IE := .bin .mx .i64 (.c 0) tz451
def tz453 : IE := .bin .mn .i64 (.c 1) tz452
def tz454 : IE := .bin .add .i64 tz450 tz453
def tz455 : IE := .bin .add .i64 tz415 tz126
def tz456 : IE := .bin .sub .i64 (.c 0) tz455
def tz457 : IE := .bin .quo .i64 tz456 (.c 1000)
def tz458 : IE := .bin .rem .i64 tz456 (.c 1000)
def tz459 : IE := .bin .mx .i64 (.c 0) tz458
def tz460 : IE := .bin .mn .i64 (.c 1) tz459
def tz461 : IE := .bin .add .i64 tz457 tz460
def tz462 : IE := .bin .sub .i64 (.c 0) tz461
def tz463 : IE := .bin .sub .i64 tz408 tz135
def tz464 : IE := .bin .sub .i64 (.c 0) tz463
def tz465 : IE := .bin .quo .i64 tz464 (.c 1000)
def tz466 : IE := .bin .rem .i64 tz464 (.c 1000)
def tz467 : IE := .bin .mx .i64 (.c 0) tz466
def tz468 : IE := .bin .mn .i64 (.c 1) tz467
def tz469 : IE := .bin .add .i64 tz465 tz468
def tz470 : IE := .bin .sub .i64 (.c 0) tz469
def tz471 : IE := .bin .add .i64 tz415 tz144
def tz472 : IE := .bin .quo .i64 tz471 (.c 1000)
def tz473 : IE := .bin .rem .i64 tz471 (.c 1000)
def tz474 : IE := .bin .mx .i64 (.c 0) tz473
def tz475 : IE := .bin .mn .i64 (.c 1) tz474
def tz476 : IE := .bin .add .i64 tz472 tz475
def tz477 : IE := .bin .mul .i64 (.c 1000) tz476
def tz478 : IE := .bin .mul .i64 (.c 1000) tz462
def tz479 : IE := .bin .sub .i64 tz477 tz478
def tz480 : IE := .bin .mn .i64 tz399 tz479
def tz481 : IE := .bin .sub .i64 tz480 tz102
def tz482 : IE := .bin .mul .i64 (.c 1000) tz470
def tz483 : IE := .bin .mul .i64 (.c 1000) tz454
def tz484 : IE := .bin .sub .i64 tz482 tz483
def tz485 : IE := .bin .mx .i64 tz404 tz484
def tz486 : IE := .bin .add .i64 tz485 tz111
def tz487 : IE := .bin .sub .i64 tz481 tz486
def tzTree : DT :=
(.ask (.cmp .leq (.c 0) tz2)
 (.ask (.cmp .leq tz2 (.c 100000))
  (.ask (.cmp .leq (.c 0) tz5)
   (.ask (.cmp .leq tz5 (.c 100000))
    (.ask (.cmp .leq (.c (-100000)) tz9)
     (.ask (.cmp .leq tz9 (.c 100000))
      (.ask (.cmp .leq tz12 (.c 50000))
       (.ask (.cmp .eql (.c 50000) tz12)
        .dead
        (.ask (.cmp .leq (.c 1) tz12)
         (.ask (.cmp .leq (.c 100) tz16)
          (.ask (.cmp .leq tz16 (.c 200000))
           (.ask (.cmp .leq (.c 0) tz19)
            (.ask (.cmp .leq tz19 (.c 3000))
             (.ask (.cmp .leq (.c 0) tz22)
              (.ask (.cmp .leq tz22 (.c 3000))
               (.ask (.cmp .leq (.c 1) tz24)
                (.ask (.cmp .leq tz24 (.c 8))
                 (.ask (.cmp .leq tz26 tz27)
                  (.ask (.cmp .leq (.c 1) tz30)
                   (.ask (.cmp .leq tz30 (.c 60))
                    (.ask (.cmp .leq (.c (-10000)) tz40)
                     (.ask (.cmp .leq tz40 (.c 10000))
                      (.ask (.cmp .leq (.c (-10000)) tz50)
                       (.ask (.cmp .leq tz50 (.c 10000))
                        (.ask (.cmp .leq (.c (-200000)) tz55)
                         (.ask (.cmp .leq tz55 tz56)
                          (.ask (.cmp .leq tz56 (.c 200000))
                           (.ask (.cmp .leq tz30 (.c 0))
                            .dead
                            (.ask (.cmp .leq tz30 (.c 1))
                             (.ask (.cmp .leq (.c (-10000000)) tz67)
                              (.ask (.cmp .leq tz67 tz77)
                               (.ask (.cmp .leq tz77 (.c 10000000))
                                (.ask (.cmp .leq (.c (-10000000)) tz86)
                                 (.ask (.cmp .leq tz86 tz93)
                                  (.ask (.cmp .leq tz93 (.c 10000000))
                                   (.ask (.cmp .leq (.c 0) tz94)
                                    (.ask (.cmp .leq tz40 tz50)
                                     (.ask (.cmp .leq (.c 0) tz113)
                                      (.ask (.cmp .leq (.c 0) tz114)
                                       (.ask (.cmp .leq (.c (-10000)) tz116)
                                        (.ask (.cmp .leq tz116 (.c 10000))
                                         (.ask (.cmp .leq (.c (-10000)) tz118)
                                          (.ask (.cmp .leq tz118 (.c 10000))
                                           (.ask (.cmp .leq (.c (-10000000)) tz125)
                                            (.ask (.cmp .leq tz125 tz134)
                                             (.ask (.cmp .leq tz134 (.c 10000000))
                                              (.ask (.cmp .leq (.c (-10000000)) tz143)
                                               (.ask (.cmp .leq tz143 tz150)
                                                (.ask (.cmp .leq tz150 (.c 10000000))
                                                 (.ask (.cmp .leq (.c 0) tz161)
                                                  (.ask (.cmp .leq tz163 (.c 8000))
                                                   (.leaf (.c true))
                                                   .dead)
                                                  .dead)
                                                 .dead)
                                                .dead)
                                               .dead)
                                              .dead)
                                             .dead)
                                            .dead)
                                           .dead)
                                          .dead)
                                         .dead)
                                        .dead)
                                       (.ask (.cmp .leq (.c (-10000)) tz116)
                                        (.ask (.cmp .leq tz116 (.c 10000))
                                         (.ask (.cmp .leq (.c (-10000)) tz118)
                                          (.ask (.cmp .leq tz118 (.c 10000))
                                           (.ask (.cmp .leq (.c (-10000000)) tz125)
                                            (.ask (.cmp .leq tz125 tz134)
                                             (.ask (.cmp .leq tz134 (.c 10000000))
                                              (.ask (.cmp .leq (.c (-10000000)) tz143)
                                               (.ask (.cmp .leq tz143 tz150)
                                                (.ask (.cmp .leq tz150 (.c 10000000))
                                                 (.ask (.cmp .leq tz163 (.c 8000))
                                                  (.leaf (.c true))
                                                  (.ask (.cmp .leq (.c 0) tz161)
                                                   .dead
                                                   (.leaf (.c true))))
                                                 .dead)
                                                .dead)
                                               .dead)
                                              .dead)
                                             .dead)
                                            .dead)
                                           .dead)
                                          .dead)
                                         .dead)
                                        .dead))
                                      .dead)
                                     .dead)
                                    (.ask (.cmp .leq tz40 tz50)
                                     .dead
                                     (.ask (.cmp .leq (.c 0) tz114)
                                      .dead
                                      (.ask (.cmp .leq (.c (-10000)) tz116)
                                       (.ask (.cmp .leq tz116 (.c 10000))
                                        (.ask (.cmp .leq (.c (-10000)) tz118)
                                         (.ask (.cmp .leq tz118 (.c 10000))
                                          (.ask (.cmp .leq (.c (-10000000)) tz125)
                                           (.ask (.cmp .leq tz125 tz134)
                                            (.ask (.cmp .leq tz134 (.c 10000000))
                                             (.ask (.cmp .leq (.c (-10000000)) tz143)
                                              (.ask (.cmp .leq tz143 tz150)
                                               (.ask (.cmp .leq tz150 (.c 10000000))
                                                (.ask (.cmp .leq tz163 (.c 8000))
                                                 (.leaf (.c true))
                                                 (.ask (.cmp .leq (.c 0) tz161)
                                                  .dead
                                                  (.leaf (.c true))))
                                                .dead)
                                               .dead)
                                              .dead)
                                             .dead)
                                            .dead)
                                           .dead)
                                          .dead)
                                         .dead)
                                        .dead)
                                       .dead))))
                                   .dead)
                                  .dead)
                                 .dead)
                                .dead)
                               .dead)
                              .dead)
                             (.ask (.cmp .leq tz30 (.c 2))
                              (.ask (.cmp .leq (.c (-10000000)) tz67)
                               (.ask (.cmp .leq tz67 tz77)
                                (.ask (.cmp .leq tz77 tz171)
                                 (.ask (.cmp .leq tz171 tz180)
                                  (.ask (.cmp .leq tz180 (.c 10000000))
                                   (.ask (.cmp .leq (.c (-10000000)) tz86)
                                    (.ask (.cmp .leq tz86 tz93)
                                     (.ask (.cmp .leq tz93 tz188)
                                      (.ask (.cmp .leq tz188 tz194)
                                       (.ask (.cmp .leq tz194 (.c 10000000))
                                        (.ask (.cmp .leq (.c 0) tz94)
                                         (.ask (.cmp .leq tz40 tz50)
                                          (.ask (.cmp .leq (.c 0) tz205)
                                           (.ask (.cmp .leq (.c 0) tz114)
                                            (.ask (.cmp .leq (.c (-10000)) tz116)
                                             (.ask (.cmp .leq tz116 (.c 10000))
                                              (.ask (.cmp .leq (.c (-10000)) tz118)
                                               (.ask (.cmp .leq tz118 (.c 10000))
                                                (.ask (.cmp .leq (.c (-10000000)) tz125)
                                                 (.ask (.cmp .leq tz125 tz134)
                                                  (.ask (.cmp .leq tz134 tz211)
                                                   (.ask (.cmp .leq tz211 tz219)
                                                    (.ask (.cmp .leq tz219 (.c 10000000))
                                                     (.ask (.cmp .leq (.c (-10000000)) tz143)
                                                      (.ask (.cmp .leq tz143 tz150)
                                                       (.ask (.cmp .leq tz150 tz227)
                                                        (.ask (.cmp .leq tz227 tz233)
                                                         (.ask (.cmp .leq tz233 (.c 10000000))
                                                          (.ask (.cmp .leq (.c 0) tz244)
                                                           (.ask (.cmp .leq tz163 (.c 8000))
                                                            (.leaf (.c true))
                                                            .dead)
                                                           .dead)
                                                          .dead)
                                                         .dead)
                                                        .dead)
                                                       .dead)
                                                      .dead)
                                                     .dead)
                                                    .dead)
                                                   .dead)
                                                  .dead)
                                                 .dead)
                                                .dead)
                                               .dead)
                                              .dead)
                                             .dead)
                                            (.ask (.cmp .leq (.c (-10000)) tz116)
                                             (.ask (.cmp .leq tz116 (.c 10000))
                                              (.ask (.cmp .leq (.c (-10000)) tz118)
                                               (.ask (.cmp .leq tz118 (.c 10000))
                                                (.ask (.cmp .leq (.c (-10000000)) tz125)
                                                 (.ask (.cmp .leq tz125 tz134)
                                                  (.ask (.cmp .leq tz134 tz211)
                                                   (.ask (.cmp .leq tz211 tz219)
                                                    (.ask (.cmp .leq tz219 (.c 10000000))
                                                     (.ask (.cmp .leq (.c (-10000000)) tz143)
                                                      (.ask (.cmp .leq tz143 tz150)
                                                       (.ask (.cmp .leq tz150 tz227)
                                                        (.ask (.cmp .leq tz227 tz233)
                                                         (.ask (.cmp .leq tz233 (.c 10000000))
                                                          (.ask (.cmp .leq tz163 (.c 8000))
                                                           (.leaf (.c true))
                                                           (.ask (.cmp .leq (.c 0) tz244)
                                                            .dead
                                                            (.leaf (.c true))))
                                                          .dead)
                                                         .dead)
                                                        .dead)
                                                       .dead)
                                                      .dead)
                                                     .dead)
                                                    .dead)
                                                   .dead)
                                                  .dead)
                                                 .dead)
                                                .dead)
                                               .dead)
                                              .dead)
                                             .dead))
                                           .dead)
                                          .dead)
                                         (.ask (.cmp .leq tz40 tz50)
                                          .dead
                                          (.ask (.cmp .leq (.c 0) tz114)
                                           .dead
                                           (.ask (.cmp .leq (.c (-10000)) tz116)
                                            (.ask (.cmp .leq tz116 (.c 10000))
                                             (.ask (.cmp .leq (.c (-10000)) tz118)
                                              (.ask (.cmp .leq tz118 (.c 10000))
                                               (.ask (.cmp .leq (.c (-10000000)) tz125)
                                                (.ask (.cmp .leq tz125 tz134)
                                                 (.ask (.cmp .leq tz134 tz211)
                                                  (.ask (.cmp .leq tz211 tz219)
                                                   (.ask (.cmp .leq tz219 (.c 10000000))
                                                    (.ask (.cmp .leq (.c (-10000000)) tz143)
                                                     (.ask (.cmp .leq tz143 tz150)
                                                      (.ask (.cmp .leq tz150 tz227)
                                                       (.ask (.cmp .leq tz227 tz233)
                                                        (.ask (.cmp .leq tz233 (.c 10000000))
                                                         (.ask (.cmp .leq tz163 (.c 8000))
                                                          (.leaf (.c true))
                                                          (.ask (.cmp .leq (.c 0) tz244)
                                                           .dead
                                                           (.leaf (.c true))))
                                                         .dead)
                                                        .dead)
                                                       .dead)
                                                      .dead)
                                                     .dead)
                                                    .dead)
                                                   .dead)
                                                  .dead)
                                                 .dead)
                                                .dead)
                                               .dead)
                                              .dead)
                                             .dead)
                                            .dead))))
                                        .dead)
                                       .dead)
                                      .dead)
                                     .dead)
                                    .dead)
                                   .dead)
                                  .dead)
                                 .dead)
                                .dead)
                               .dead)
                              (.ask (.cmp .leq tz30 (.c 3))
                               (.ask (.cmp .leq (.c (-10000000)) tz67)
                                (.ask (.cmp .leq tz67 tz77)
                                 (.ask (.cmp .leq tz77 tz171)
                                  (.ask (.cmp .leq tz171 tz180)
                                   (.ask (.cmp .leq tz180 tz252)
                                    (.ask (.cmp .leq tz252 tz261)
                                     (.ask (.cmp .leq tz261 (.c 10000000))
                                      (.ask (.cmp .leq (.c (-10000000)) tz86)
                                       (.ask (.cmp .leq tz86 tz93)
                                        (.ask (.cmp .leq tz93 tz188)
                                         (.ask (.cmp .leq tz188 tz194)
                                          (.ask (.cmp .leq tz194 tz269)
                                           (.ask (.cmp .leq tz269 tz275)
                                            (.ask (.cmp .leq tz275 (.c 10000000))
                                             (.ask (.cmp .leq (.c 0) tz94)
                                              (.ask (.cmp .leq tz40 tz50)
                                               (.ask (.cmp .leq (.c 0) tz286)
                                                (.ask (.cmp .leq (.c 0) tz114)
                                                 (.ask (.cmp .leq (.c (-10000)) tz116)
                                                  (.ask (.cmp .leq tz116 (.c 10000))
                                                   (.ask (.cmp .leq (.c (-10000)) tz118)
                                                    (.ask (.cmp .leq tz118 (.c 10000))
                                                     (.ask (.cmp .leq (.c (-10000000)) tz125)
                                                      (.ask (.cmp .leq tz125 tz134)
                                                       (.ask (.cmp .leq tz134 tz211)
                                                        (.ask (.cmp .leq tz211 tz219)
                                                         (.ask (.cmp .leq tz219 tz292)
                                                          (.ask (.cmp .leq tz292 tz300)
                                                           (.ask (.cmp .leq tz300 (.c 10000000))
                                                            (.ask (.cmp .leq (.c (-10000000)) tz143)
                                                             (.ask (.cmp .leq tz143 tz150)
                                                              (.ask (.cmp .leq tz150 tz227)
                                                               (.ask (.cmp .leq tz227 tz233)
                                                                (.ask (.cmp .leq tz233 tz308)
                                                                 (.ask (.cmp .leq tz308 tz314)
                                                                  (.ask (.cmp .leq tz314 (.c 10000000))
                                                                   (.ask (.cmp .leq (.c 0) tz325)
                                                                    (.ask (.cmp .leq tz163 (.c 8000))
                                                                     (.leaf (.c true))
                                                                     .dead)
                                                                    .dead)
                                                                   .dead)
                                                                  .dead)
                                                                 .dead)
                                                                .dead)
                                                               .dead)
                                                              .dead)
                                                             .dead)
                                                            .dead)
                                                           .dead)
                                                          .dead)
                                                         .dead)
                                                        .dead)
                                                       .dead)
                                                      .dead)
                                                     .dead)
                                                    .dead)
                                                   .dead)
                                                  .dead)
                                                 (.ask (.cmp .leq (.c (-10000)) tz116)
                                                  (.ask (.cmp .leq tz116 (.c 10000))
                                                   (.ask (.cmp .leq (.c (-10000)) tz118)
                                                    (.ask (.cmp .leq tz118 (.c 10000))
                                                     (.ask (.cmp .leq (.c (-10000000)) tz125)
                                                      (.ask (.cmp .leq tz125 tz134)
                                                       (.ask (.cmp .leq tz134 tz211)
                                                        (.ask (.cmp .leq tz211 tz219)
                                                         (.ask (.cmp .leq tz219 tz292)
                                                          (.ask (.cmp .leq tz292 tz300)
                                                           (.ask (.cmp .leq tz300 (.c 10000000))
                                                            (.ask (.cmp .leq (.c (-10000000)) tz143)
                                                             (.ask (.cmp .leq tz143 tz150)
                                                              (.ask (.cmp .leq tz150 tz227)
                                                               (.ask (.cmp .leq tz227 tz233)
                                                                (.ask (.cmp .leq tz233 tz308)
                                                                 (.ask (.cmp .leq tz308 tz314)
                                                                  (.ask (.cmp .leq tz314 (.c 10000000))
                                                                   (.ask (.cmp .leq tz163 (.c 8000))
                                                                    (.leaf (.c true))
                                                                    (.ask (.cmp .leq (.c 0) tz325)
                                                                     .dead
                                                                     (.leaf (.c true))))
                                                                   .dead)
                                                                  .dead)
                                                                 .dead)
                                                                .dead)
                                                               .dead)
                                                              .dead)
                                                             .dead)
                                                            .dead)
                                                           .dead)
                                                          .dead)
                                                         .dead)
                                                        .dead)
                                                       .dead)
                                                      .dead)
                                                     .dead)
                                                    .dead)
                                                   .dead)
                                                  .dead))
                                                .dead)
                                               .dead)
                                              (.ask (.cmp .leq tz40 tz50)
                                               .dead
                                               (.ask (.cmp .leq (.c 0) tz114)
                                                .dead
                                                (.ask (.cmp .leq (.c (-10000)) tz116)
                                                 (.ask (.cmp .leq tz116 (.c 10000))
                                                  (.ask (.cmp .leq (.c (-10000)) tz118)
                                                   (.ask (.cmp .leq tz118 (.c 10000))
                                                    (.ask (.cmp .leq (.c (-10000000)) tz125)
                                                     (.ask (.cmp .leq tz125 tz134)
                                                      (.ask (.cmp .leq tz134 tz211)
                                                       (.ask (.cmp .leq tz211 tz219)
                                                        (.ask (.cmp .leq tz219 tz292)
                                                         (.ask (.cmp .leq tz292 tz300)
                                                          (.ask (.cmp .leq tz300 (.c 10000000))
                                                           (.ask (.cmp .leq (.c (-10000000)) tz143)
                                                            (.ask (.cmp .leq tz143 tz150)
                                                             (.ask (.cmp .leq tz150 tz227)
                                                              (.ask (.cmp .leq tz227 tz233)
                                                               (.ask (.cmp .leq tz233 tz308)
                                                                (.ask (.cmp .leq tz308 tz314)
                                                                 (.ask (.cmp .leq tz314 (.c 10000000))
                                                                  (.ask (.cmp .leq tz163 (.c 8000))
                                                                   (.leaf (.c true))
                                                                   (.ask (.cmp .leq (.c 0) tz325)
                                                                    .dead
                                                                    (.leaf (.c true))))
                                                                  .dead)
                                                                 .dead)
                                                                .dead)
                                                               .dead)
                                                              .dead)
                                                             .dead)
                                                            .dead)
                                                           .dead)
                                                          .dead)
                                                         .dead)
                                                        .dead)
                                                       .dead)
                                                      .dead)
                                                     .dead)
                                                    .dead)
                                                   .dead)
                                                  .dead)
                                                 .dead))))
                                             .dead)
                                            .dead)
                                           .dead)
                                          .dead)
                                         .dead)
                                        .dead)
                                       .dead)
                                      .dead)
                                     .dead)
                                    .dead)
                                   .dead)
                                  .dead)
                                 .dead)
                                .dead)
                               (.ask (.cmp .leq tz30 (.c 4))
                                (.ask (.cmp .leq (.c (-10000000)) tz67)
                                 (.ask (.cmp .leq tz67 tz77)
                                  (.ask (.cmp .leq tz77 tz171)
                                   (.ask (.cmp .leq tz171 tz180)
                                    (.ask (.cmp .leq tz180 tz252)
                                     (.ask (.cmp .leq tz252 tz261)
                                      (.ask (.cmp .leq tz261 tz333)
                                       (.ask (.cmp .leq tz333 tz342)
                                        (.ask (.cmp .leq tz342 (.c 10000000))
                                         (.ask (.cmp .leq (.c (-10000000)) tz86)
                                          (.ask (.cmp .leq tz86 tz93)
                                           (.ask (.cmp .leq tz93 tz188)
                                            (.ask (.cmp .leq tz188 tz194)
                                             (.ask (.cmp .leq tz194 tz269)
                                              (.ask (.cmp .leq tz269 tz275)
                                               (.ask (.cmp .leq tz275 tz350)
                                                (.ask (.cmp .leq tz350 tz356)
                                                 (.ask (.cmp .leq tz356 (.c 10000000))
                                                  (.ask (.cmp .leq (.c 0) tz94)
                                                   (.ask (.cmp .leq tz40 tz50)
                                                    (.ask (.cmp .leq (.c 0) tz367)
                                                     (.ask (.cmp .leq (.c 0) tz114)
                                                      (.ask (.cmp .leq (.c (-10000)) tz116)
                                                       (.ask (.cmp .leq tz116 (.c 10000))
                                                        (.ask (.cmp .leq (.c (-10000)) tz118)
                                                         (.ask (.cmp .leq tz118 (.c 10000))
                                                          (.ask (.cmp .leq (.c (-10000000)) tz125)
                                                           (.ask (.cmp .leq tz125 tz134)
                                                            (.ask (.cmp .leq tz134 tz211)
                                                             (.ask (.cmp .leq tz211 tz219)
                                                              (.ask (.cmp .leq tz219 tz292)
                                                               (.ask (.cmp .leq tz292 tz300)
                                                                (.ask (.cmp .leq tz300 tz373)
                                                                 (.ask (.cmp .leq tz373 tz381)
                                                                  (.ask (.cmp .leq tz381 (.c 10000000))
                                                                   (.ask (.cmp .leq (.c (-10000000)) tz143)
                                                                    (.ask (.cmp .leq tz143 tz150)
                                                                     (.ask (.cmp .leq tz150 tz227)
                                                                      (.ask (.cmp .leq tz227 tz233)
                                                                       (.ask (.cmp .leq tz233 tz308)
                                                                        (.ask (.cmp .leq tz308 tz314)
                                                                         (.ask (.cmp .leq tz314 tz389)
                                                                          (.ask (.cmp .leq tz389 tz395)
                                                                           (.ask (.cmp .leq tz395 (.c 10000000))
                                                                            (.ask (.cmp .leq (.c 0) tz406)
                                                                             (.ask (.cmp .leq tz163 (.c 8000))
                                                                              (.leaf (.c true))
                                                                              .dead)
                                                                             .dead)
                                                                            .dead)
                                                                           .dead)
                                                                          .dead)
                                                                         .dead)
                                                                        .dead)
                                                                       .dead)
                                                                      .dead)
                                                                     .dead)
                                                                    .dead)
                                                                   .dead)
                                                                  .dead)
                                                                 .dead)
                                                                .dead)
                                                               .dead)
                                                              .dead)
                                                             .dead)
                                                            .dead)
                                                           .dead)
                                                          .dead)
                                                         .dead)
                                                        .dead)
                                                       .dead)
                                                      (.ask (.cmp .leq (.c (-10000)) tz116)
                                                       (.ask (.cmp .leq tz116 (.c 10000))
                                                        (.ask (.cmp .leq (.c (-10000)) tz118)
                                                         (.ask (.cmp .leq tz118 (.c 10000))
                                                          (.ask (.cmp .leq (.c (-10000000)) tz125)
                                                           (.ask (.cmp .leq tz125 tz134)
                                                            (.ask (.cmp .leq tz134 tz211)
                                                             (.ask (.cmp .leq tz211 tz219)
                                                              (.ask (.cmp .leq tz219 tz292)
                                                               (.ask (.cmp .leq tz292 tz300)
                                                                (.ask (.cmp .leq tz300 tz373)
                                                                 (.ask (.cmp .leq tz373 tz381)
                                                                  (.ask (.cmp .leq tz381 (.c 10000000))
                                                                   (.ask (.cmp .leq (.c (-10000000)) tz143)
                                                                    (.ask (.cmp .leq tz143 tz150)
                                                                     (.ask (.cmp .leq tz150 tz227)
                                                                      (.ask (.cmp .leq tz227 tz233)
                                                                       (.ask (.cmp .leq tz233 tz308)
                                                                        (.ask (.cmp .leq tz308 tz314)
                                                                         (.ask (.cmp .leq tz314 tz389)
                                                                          (.ask (.cmp .leq tz389 tz395)
                                                                           (.ask (.cmp .leq tz395 (.c 10000000))
                                                                            (.ask (.cmp .leq tz163 (.c 8000))
                                                                             (.leaf (.c true))
                                                                             (.ask (.cmp .leq (.c 0) tz406)
                                                                              .dead
                                                                              (.leaf (.c true))))
                                                                            .dead)
                                                                           .dead)
                                                                          .dead)
                                                                         .dead)
                                                                        .dead)
                                                                       .dead)
                                                                      .dead)
                                                                     .dead)
                                                                    .dead)
                                                                   .dead)
                                                                  .dead)
                                                                 .dead)
                                                                .dead)
                                                               .dead)
                                                              .dead)
                                                             .dead)
                                                            .dead)
                                                           .dead)
                                                          .dead)
                                                         .dead)
                                                        .dead)
                                                       .dead))
                                                     .dead)
                                                    .dead)
                                                   (.ask (.cmp .leq tz40 tz50)
                                                    .dead
                                                    (.ask (.cmp .leq (.c 0) tz114)
                                                     .dead
                                                     (.ask (.cmp .leq (.c (-10000)) tz116)
                                                      (.ask (.cmp .leq tz116 (.c 10000))
                                                       (.ask (.cmp .leq (.c (-10000)) tz118)
                                                        (.ask (.cmp .leq tz118 (.c 10000))
                                                         (.ask (.cmp .leq (.c (-10000000)) tz125)
                                                          (.ask (.cmp .leq tz125 tz134)
                                                           (.ask (.cmp .leq tz134 tz211)
                                                            (.ask (.cmp .leq tz211 tz219)
                                                             (.ask (.cmp .leq tz219 tz292)
                                                              (.ask (.cmp .leq tz292 tz300)
                                                               (.ask (.cmp .leq tz300 tz373)
                                                                (.ask (.cmp .leq tz373 tz381)
                                                                 (.ask (.cmp .leq tz381 (.c 10000000))
                                                                  (.ask (.cmp .leq (.c (-10000000)) tz143)
                                                                   (.ask (.cmp .leq tz143 tz150)
                                                                    (.ask (.cmp .leq tz150 tz227)
                                                                     (.ask (.cmp .leq tz227 tz233)
                                                                      (.ask (.cmp .leq tz233 tz308)
                                                                       (.ask (.cmp .leq tz308 tz314)
                                                                        (.ask (.cmp .leq tz314 tz389)
                                                                         (.ask (.cmp .leq tz389 tz395)
                                                                          (.ask (.cmp .leq tz395 (.c 10000000))
                                                                           (.ask (.cmp .leq tz163 (.c 8000))
                                                                            (.leaf (.c true))
                                                                            (.ask (.cmp .leq (.c 0) tz406)
                                                                             .dead
                                                                             (.leaf (.c true))))
                                                                           .dead)
                                                                          .dead)
                                                                         .dead)
                                                                        .dead)
                                                                       .dead)
                                                                      .dead)
                                                                     .dead)
                                                                    .dead)
                                                                   .dead)
                                                                  .dead)
                                                                 .dead)
                                                                .dead)
                                                               .dead)
                                                              .dead)
                                                             .dead)
                                                            .dead)
                                                           .dead)
                                                          .dead)
                                                         .dead)
                                                        .dead)
                                                       .dead)
                                                      .dead))))
                                                  .dead)
                                                 .dead)
                                                .dead)
                                               .dead)
                                              .dead)
                                             .dead)
                                            .dead)
                                           .dead)
                                          .dead)
                                         .dead)
                                        .dead)
                                       .dead)
                                      .dead)
                                     .dead)
                                    .dead)
                                   .dead)
                                  .dead)
                                 .dead)
                                (.ask (.cmp .leq tz30 (.c 5))
                                 (.ask (.cmp .leq (.c (-10000000)) tz67)
                                  (.ask (.cmp .leq tz67 tz77)
                                   (.ask (.cmp .leq tz77 tz171)
                                    (.ask (.cmp .leq tz171 tz180)
                                     (.ask (.cmp .leq tz180 tz252)
                                      (.ask (.cmp .leq tz252 tz261)
                                       (.ask (.cmp .leq tz261 tz333)
                                        (.ask (.cmp .leq tz333 tz342)
                                         (.ask (.cmp .leq tz342 tz414)
                                          (.ask (.cmp .leq tz414 tz423)
                                           (.ask (.cmp .leq tz423 (.c 10000000))
                                            (.ask (.cmp .leq (.c (-10000000)) tz86)
                                             (.ask (.cmp .leq tz86 tz93)
                                              (.ask (.cmp .leq tz93 tz188)
                                               (.ask (.cmp .leq tz188 tz194)
                                                (.ask (.cmp .leq tz194 tz269)
                                                 (.ask (.cmp .leq tz269 tz275)
                                                  (.ask (.cmp .leq tz275 tz350)
                                                   (.ask (.cmp .leq tz350 tz356)
                                                    (.ask (.cmp .leq tz356 tz431)
                                                     (.ask (.cmp .leq tz431 tz437)
                                                      (.ask (.cmp .leq tz437 (.c 10000000))
                                                       (.ask (.cmp .leq (.c 0) tz94)
                                                        (.ask (.cmp .leq tz40 tz50)
                                                         (.ask (.cmp .leq (.c 0) tz448)
                                                          (.ask (.cmp .leq (.c 0) tz114)
                                                           (.ask (.cmp .leq (.c (-10000)) tz116)
                                                            (.ask (.cmp .leq tz116 (.c 10000))
                                                             (.ask (.cmp .leq (.c (-10000)) tz118)
                                                              (.ask (.cmp .leq tz118 (.c 10000))
                                                               (.ask (.cmp .leq (.c (-10000000)) tz125)
                                                                (.ask (.cmp .leq tz125 tz134)
                                                                 (.ask (.cmp .leq tz134 tz211)
                                                                  (.ask (.cmp .leq tz211 tz219)
                                                                   (.ask (.cmp .leq tz219 tz292)
                                                                    (.ask (.cmp .leq tz292 tz300)
                                                                     (.ask (.cmp .leq tz300 tz373)
                                                                      (.ask (.cmp .leq tz373 tz381)
                                                                       (.ask (.cmp .leq tz381 tz454)
                                                                        (.ask (.cmp .leq tz454 tz462)
                                                                         (.ask (.cmp .leq tz462 (.c 10000000))
                                                                          (.ask (.cmp .leq (.c (-10000000)) tz143)
                                                                           (.ask (.cmp .leq tz143 tz150)
                                                                            (.ask (.cmp .leq tz150 tz227)
                                                                             (.ask (.cmp .leq tz227 tz233)
                                                                              (.ask (.cmp .leq tz233 tz308)
                                                                               (.ask (.cmp .leq tz308 tz314)
                                                                                (.ask (.cmp .leq tz314 tz389)
                                                                                 (.ask (.cmp .leq tz389 tz395)
                                                                                  (.ask (.cmp .leq tz395 tz470)
                                                                                   (.ask (.cmp .leq tz470 tz476)
                                                                                    (.ask (.cmp .leq tz476 (.c 10000000))
                                                                                     (.ask (.cmp .leq (.c 0) tz487)
                                                                                      (.ask (.cmp .leq tz163 (.c 8000))
                                                                                       (.leaf (.c true))
                                                                                       .dead)
                                                                                      .dead)
                                                                                     .dead)
                                                                                    .dead)
                                                                                   .dead)
                                                                                  .dead)
                                                                                 .dead)
                                                                                .dead)
                                                                               .dead)
                                                                              .dead)
                                                                             .dead)
                                                                            .dead)
                                                                           .dead)
                                                                          .dead)
                                                                         .dead)
                                                                        .dead)
                                                                       .dead)
                                                                      .dead)
                                                                     .dead)
                                                                    .dead)
                                                                   .dead)
                                                                  .dead)
                                                                 .dead)
                                                                .dead)
                                                               .dead)
                                                              .dead)
                                                             .dead)
                                                            .dead)
                                                           (.ask (.cmp .leq (.c (-10000)) tz116)
                                                            (.ask (.cmp .leq tz116 (.c 10000))
                                                             (.ask (.cmp .leq (.c (-10000)) tz118)
                                                              (.ask (.cmp .leq tz118 (.c 10000))
                                                               (.ask (.cmp .leq (.c (-10000000)) tz125)
                                                                (.ask (.cmp .leq tz125 tz134)
                                                                 (.ask (.cmp .leq tz134 tz211)
                                                                  (.ask (.cmp .leq tz211 tz219)
                                                                   (.ask (.cmp .leq tz219 tz292)
                                                                    (.ask (.cmp .leq tz292 tz300)
                                                                     (.ask (.cmp .leq tz300 tz373)
                                                                      (.ask (.cmp .leq tz373 tz381)
                                                                       (.ask (.cmp .leq tz381 tz454)
                                                                        (.ask (.cmp .leq tz454 tz462)
                                                                         (.ask (.cmp .leq tz462 (.c 10000000))
                                                                          (.ask (.cmp .leq (.c (-10000000)) tz143)
                                                                           (.ask (.cmp .leq tz143 tz150)
                                                                            (.ask (.cmp .leq tz150 tz227)
                                                                             (.ask (.cmp .leq tz227 tz233)
                                                                              (.ask (.cmp .leq tz233 tz308)
                                                                               (.ask (.cmp .leq tz308 tz314)
                                                                                (.ask (.cmp .leq tz314 tz389)
                                                                                 (.ask (.cmp .leq tz389 tz395)
                                                                                  (.ask (.cmp .leq tz395 tz470)
                                                                                   (.ask (.cmp .leq tz470 tz476)
                                                                                    (.ask (.cmp .leq tz476 (.c 10000000))
                                                                                     (.ask (.cmp .leq tz163 (.c 8000))
                                                                                      (.leaf (.c true))
                                                                                      (.ask (.cmp .leq (.c 0) tz487)
                                                                                       .dead
                                                                                       (.leaf (.c true))))
                                                                                     .dead)
                                                                                    .dead)
                                                                                   .dead)
                                                                                  .dead)
                                                                                 .dead)
                                                                                .dead)
                                                                               .dead)
                                                                              .dead)
                                                                             .dead)
                                                                            .dead)
                                                                           .dead)
                                                                          .dead)
                                                                         .dead)
                                                                        .dead)
                                                                       .dead)
                                                                      .dead)
                                                                     .dead)
                                                                    .dead)
                                                                   .dead)
                                                                  .dead)
                                                                 .dead)
                                                                .dead)
                                                               .dead)
                                                              .dead)
                                                             .dead)
                                                            .dead))
                                                          .dead)
                                                         .dead)
                                                        (.ask (.cmp .leq tz40 tz50)
                                                         .dead
                                                         (.ask (.cmp .leq (.c 0) tz114)
                                                          .dead
                                                          (.ask (.cmp .leq (.c (-10000)) tz116)
                                                           (.ask (.cmp .leq tz116 (.c 10000))
                                                            (.ask (.cmp .leq (.c (-10000)) tz118)
                                                             (.ask (.cmp .leq tz118 (.c 10000))
                                                              (.ask (.cmp .leq (.c (-10000000)) tz125)
                                                               (.ask (.cmp .leq tz125 tz134)
                                                                (.ask (.cmp .leq tz134 tz211)
                                                                 (.ask (.cmp .leq tz211 tz219)
                                                                  (.ask (.cmp .leq tz219 tz292)
                                                                   (.ask (.cmp .leq tz292 tz300)
                                                                    (.ask (.cmp .leq tz300 tz373)
                                                                     (.ask (.cmp .leq tz373 tz381)
                                                                      (.ask (.cmp .leq tz381 tz454)
                                                                       (.ask (.cmp .leq tz454 tz462)
                                                                        (.ask (.cmp .leq tz462 (.c 10000000))
                                                                         (.ask (.cmp .leq (.c (-10000000)) tz143)
                                                                          (.ask (.cmp .leq tz143 tz150)
                                                                           (.ask (.cmp .leq tz150 tz227)
                                                                            (.ask (.cmp .leq tz227 tz233)
                                                                             (.ask (.cmp .leq tz233 tz308)
                                                                              (.ask (.cmp .leq tz308 tz314)
                                                                               (.ask (.cmp .leq tz314 tz389)
                                                                                (.ask (.cmp .leq tz389 tz395)
                                                                                 (.ask (.cmp .leq tz395 tz470)
                                                                                  (.ask (.cmp .leq tz470 tz476)
                                                                                   (.ask (.cmp .leq tz476 (.c 10000000))
                                                                                    (.ask (.cmp .leq tz163 (.c 8000))
                                                                                     (.leaf (.c true))
                                                                                     (.ask (.cmp .leq (.c 0) tz487)
                                                                                      .dead
                                                                                      (.leaf (.c true))))
                                                                                    .dead)
                                                                                   .dead)
                                                                                  .dead)
                                                                                 .dead)
                                                                                .dead)
                                                                               .dead)
                                                                              .dead)
                                                                             .dead)
                                                                            .dead)
                                                                           .dead)
                                                                          .dead)
                                                                         .dead)
                                                                        .dead)
                                                                       .dead)
                                                                      .dead)
                                                                     .dead)
                                                                    .dead)
                                                                   .dead)
                                                                  .dead)
                                                                 .dead)
                                                                .dead)
                                                               .dead)
                                                              .dead)
                                                             .dead)
                                                            .dead)
                                                           .dead))))
                                                       .dead)
                                                      .dead)
                                                     .dead)
                                                    .dead)
                                                   .dead)
                                                  .dead)
                                                 .dead)
                                                .dead)
                                               .dead)
                                              .dead)
                                             .dead)
                                            .dead)
                                           .dead)
                                          .dead)
                                         .dead)
                                        .dead)
                                       .dead)
                                      .dead)
                                     .dead)
                                    .dead)
                                   .dead)
                                  .dead)
                                 .dead))))))
                           .dead)
                          .dead)
                         .dead)
                        .dead)
                       .dead)
                      .dead)
                     .dead)
                    .dead)
                   .dead)
                  .dead)
                 .dead)
                .dead)
               .dead)
              .dead)
             .dead)
            .dead)
           .dead)
          .dead)
         .dead))
       .dead)
      .dead)
     .dead)
    .dead)
   .dead)
  .dead)
 .dead)
end Go.Proofs.Ytlijpnjnmapdlaa.Cx
