/- FitWitness: the tests of the law and their arithmetic. Made by tools/cxroot.py. -/
import Derived.Test.YtbgmkhcjghmncaaCxS
set_option linter.unusedSimpArgs false
set_option linter.unusedVariables false
set_option maxRecDepth 100000
set_option maxHeartbeats 4000000
namespace Go.Proofs.Ytbgmkhcjghmncaa.Cx
open Go Go.RowKit

def fw0 : IE := .bin .conv .i64 (.v 0) (.c 0)
def fw1 : IE := .bin .rem .i64 fw0 (.c 40000)
def fw2 : IE := .bin .add .i64 (.c 2000) fw1
def fw3 : IE := .bin .conv .i64 (.v 1) (.c 0)
def fw4 : IE := .bin .rem .i64 fw3 (.c 900)
def fw5 : IE := .bin .add .i64 (.c 1) fw4
def fw6 : IE := .bin .conv .i64 (.v 2) (.c 0)
def fw7 : IE := .bin .rem .i64 fw6 (.c 900)
def fw8 : IE := .bin .add .i64 fw5 fw7
def fw9 : IE := .bin .mul .i64 (.c 300) fw8
def fw10 : IE := .bin .mul .i64 (.c 500) fw2
def fw11 : IE := .bin .mn .i64 (.c 8) (.v 3)
def fw12 : IE := .bin .mx .i64 (.c 1) fw11
def fw13 : IE := .bin .conv .i64 (.v 6) (.c 0)
def fw14 : IE := .bin .rem .i64 fw13 (.c 300)
def fw15 : IE := .bin .conv .i64 (.v 7) (.c 0)
def fw16 : IE := .bin .rem .i64 fw15 (.c 300)
def fw17 : IE := .bin .conv .i64 (.v 8) (.c 0)
def fw18 : IE := .bin .mul .i64 (.c 20) fw17
def fw19 : IE := .bin .conv .i64 (.v 9) (.c 0)
def fw20 : IE := .bin .mul .i64 (.c 20) fw19
def fw21 : IE := .bin .mn .i64 fw18 fw20
def fw22 : IE := .bin .mx .i64 fw18 fw20
def fw23 : IE := .bin .mul .i64 (.c 1000) fw2
def fw24 : IE := .bin .mul .i64 fw23 (.c 0)
def fw25 : IE := .bin .mul .i64 (.c 250) fw2
def fw26 : IE := .bin .sub .i64 fw24 fw25
def fw27 : IE := .bin .mul .i64 fw14 fw5
def fw28 : IE := .bin .sub .i64 fw26 fw27
def fw29 : IE := .bin .quo .i64 fw28 (.c 1000)
def fw30 : IE := .bin .rem .i64 fw28 (.c 1000)
def fw31 : IE := .bin .mx .i64 (.c 0) fw30
def fw32 : IE := .bin .mn .i64 (.c 1) fw31
def fw33 : IE := .bin .add .i64 fw29 fw32
def fw34 : IE := .bin .add .i64 fw24 fw25
def fw35 : IE := .bin .mul .i64 fw14 fw7
def fw36 : IE := .bin .add .i64 fw34 fw35
def fw37 : IE := .bin .sub .i64 (.c 0) fw36
def fw38 : IE := .bin .quo .i64 fw37 (.c 1000)
def fw39 : IE := .bin .rem .i64 fw37 (.c 1000)
def fw40 : IE := .bin .mx .i64 (.c 0) fw39
def fw41 : IE := .bin .mn .i64 (.c 1) fw40
def fw42 : IE := .bin .add .i64 fw38 fw41
def fw43 : IE := .bin .sub .i64 (.c 0) fw42
def fw44 : IE := .bin .mul .i64 fw16 fw5
def fw45 : IE := .bin .sub .i64 fw26 fw44
def fw46 : IE := .bin .sub .i64 (.c 0) fw45
def fw47 : IE := .bin .quo .i64 fw46 (.c 1000)
def fw48 : IE := .bin .rem .i64 fw46 (.c 1000)
def fw49 : IE := .bin .mx .i64 (.c 0) fw48
def fw50 : IE := .bin .mn .i64 (.c 1) fw49
def fw51 : IE := .bin .add .i64 fw47 fw50
def fw52 : IE := .bin .sub .i64 (.c 0) fw51
def fw53 : IE := .bin .mul .i64 fw16 fw7
def fw54 : IE := .bin .add .i64 fw34 fw53
def fw55 : IE := .bin .quo .i64 fw54 (.c 1000)
def fw56 : IE := .bin .rem .i64 fw54 (.c 1000)
def fw57 : IE := .bin .mx .i64 (.c 0) fw56
def fw58 : IE := .bin .mn .i64 (.c 1) fw57
def fw59 : IE := .bin .add .i64 fw55 fw58
def fw60 : IE := .bin .mul .i64 (.c 1000) fw52
def fw61 : IE := .bin .mul .i64 (.c 1000) fw33
def fw62 : IE := .bin .sub .i64 fw60 fw61
def fw63 : IE := .bin .mx .i64 (.c (-9223372036854775808)) fw62
def fw64 : IE := .bin .sub .i64 fw5 fw5
def fw65 : IE := .bin .mul .i64 fw21 fw64
def fw66 : IE := .bin .mul .i64 fw22 fw64
def fw67 : IE := .bin .mx .i64 fw65 fw66
def fw68 : IE := .bin .add .i64 fw63 fw67
def fw69 : IE := .bin .mul .i64 (.c 1000) fw59
def fw70 : IE := .bin .mul .i64 (.c 1000) fw43
def fw71 : IE := .bin .sub .i64 fw69 fw70
def fw72 : IE := .bin .mn .i64 (.c 9223372036854775807) fw71
def fw73 : IE := .bin .sub .i64 fw7 fw7
def fw74 : IE := .bin .mul .i64 fw21 fw73
def fw75 : IE := .bin .mul .i64 fw22 fw73
def fw76 : IE := .bin .mx .i64 fw74 fw75
def fw77 : IE := .bin .sub .i64 fw72 fw76
def fw78 : IE := .bin .sub .i64 fw77 fw68
def fw79 : IE := .bin .mul .i64 (.c 0) fw7
def fw80 : IE := .bin .add .i64 fw34 fw79
def fw81 : IE := .bin .sub .i64 fw80 fw70
def fw82 : IE := .bin .mn .i64 (.c 9223372036854775807) fw81
def fw83 : IE := .bin .sub .i64 fw82 fw76
def fw84 : IE := .bin .mul .i64 (.c 0) fw5
def fw85 : IE := .bin .sub .i64 fw26 fw84
def fw86 : IE := .bin .sub .i64 fw85 fw61
def fw87 : IE := .bin .mx .i64 (.c (-9223372036854775808)) fw86
def fw88 : IE := .bin .add .i64 fw87 fw67
def fw89 : IE := .bin .sub .i64 fw83 fw88
def fw90 : IE := .bin .sub .i64 (.c 0) fw89
def fw91 : IE := .bin .quo .i64 fw90 fw8
def fw92 : IE := .bin .rem .i64 fw90 fw8
def fw93 : IE := .bin .mx .i64 (.c 0) fw92
def fw94 : IE := .bin .mn .i64 (.c 1) fw93
def fw95 : IE := .bin .add .i64 fw91 fw94
def fw96 : IE := .bin .sub .i64 fw69 fw80
def fw97 : IE := .bin .mn .i64 (.c 9223372036854775807) fw96
def fw98 : IE := .bin .sub .i64 fw97 fw76
def fw99 : IE := .bin .sub .i64 fw60 fw85
def fw100 : IE := .bin .mx .i64 (.c (-9223372036854775808)) fw99
def fw101 : IE := .bin .add .i64 fw100 fw67
def fw102 : IE := .bin .sub .i64 fw98 fw101
def fw103 : IE := .bin .sub .i64 (.c 0) fw102
def fw104 : IE := .bin .quo .i64 fw103 fw8
def fw105 : IE := .bin .rem .i64 fw103 fw8
def fw106 : IE := .bin .mx .i64 (.c 0) fw105
def fw107 : IE := .bin .mn .i64 (.c 1) fw106
def fw108 : IE := .bin .add .i64 fw104 fw107
def fw109 : IE := .bin .sub .i64 (.c 0) fw108
def fw110 : IE := .bin .sub .i64 fw14 fw16
def fw111 : IE := .bin .mul .i64 fw110 fw8
def fw112 : IE := .bin .mul .i64 fw23 (.c 1)
def fw113 : IE := .bin .sub .i64 fw112 fw25
def fw114 : IE := .bin .sub .i64 fw113 fw27
def fw115 : IE := .bin .quo .i64 fw114 (.c 1000)
def fw116 : IE := .bin .rem .i64 fw114 (.c 1000)
def fw117 : IE := .bin .mx .i64 (.c 0) fw116
def fw118 : IE := .bin .mn .i64 (.c 1) fw117
def fw119 : IE := .bin .add .i64 fw115 fw118
def fw120 : IE := .bin .add .i64 fw112 fw25
def fw121 : IE := .bin .add .i64 fw120 fw35
def fw122 : IE := .bin .sub .i64 (.c 0) fw121
def fw123 : IE := .bin .quo .i64 fw122 (.c 1000)
def fw124 : IE := .bin .rem .i64 fw122 (.c 1000)
def fw125 : IE := .bin .mx .i64 (.c 0) fw124
def fw126 : IE := .bin .mn .i64 (.c 1) fw125
def fw127 : IE := .bin .add .i64 fw123 fw126
def fw128 : IE := .bin .sub .i64 (.c 0) fw127
def fw129 : IE := .bin .sub .i64 fw113 fw44
def fw130 : IE := .bin .sub .i64 (.c 0) fw129
def fw131 : IE := .bin .quo .i64 fw130 (.c 1000)
def fw132 : IE := .bin .rem .i64 fw130 (.c 1000)
def fw133 : IE := .bin .mx .i64 (.c 0) fw132
def fw134 : IE := .bin .mn .i64 (.c 1) fw133
def fw135 : IE := .bin .add .i64 fw131 fw134
def fw136 : IE := .bin .sub .i64 (.c 0) fw135
def fw137 : IE := .bin .add .i64 fw120 fw53
def fw138 : IE := .bin .quo .i64 fw137 (.c 1000)
def fw139 : IE := .bin .rem .i64 fw137 (.c 1000)
def fw140 : IE := .bin .mx .i64 (.c 0) fw139
def fw141 : IE := .bin .mn .i64 (.c 1) fw140
def fw142 : IE := .bin .add .i64 fw138 fw141
def fw143 : IE := .bin .mul .i64 (.c 1000) fw136
def fw144 : IE := .bin .mul .i64 (.c 1000) fw119
def fw145 : IE := .bin .sub .i64 fw143 fw144
def fw146 : IE := .bin .mx .i64 fw63 fw145
def fw147 : IE := .bin .add .i64 fw146 fw67
def fw148 : IE := .bin .mul .i64 (.c 1000) fw142
def fw149 : IE := .bin .mul .i64 (.c 1000) fw128
def fw150 : IE := .bin .sub .i64 fw148 fw149
def fw151 : IE := .bin .mn .i64 fw72 fw150
def fw152 : IE := .bin .sub .i64 fw151 fw76
def fw153 : IE := .bin .sub .i64 fw152 fw147
def fw154 : IE := .bin .add .i64 fw120 fw79
def fw155 : IE := .bin .sub .i64 fw154 fw149
def fw156 : IE := .bin .mn .i64 fw82 fw155
def fw157 : IE := .bin .sub .i64 fw156 fw76
def fw158 : IE := .bin .sub .i64 fw113 fw84
def fw159 : IE := .bin .sub .i64 fw158 fw144
def fw160 : IE := .bin .mx .i64 fw87 fw159
def fw161 : IE := .bin .add .i64 fw160 fw67
def fw162 : IE := .bin .sub .i64 fw157 fw161
def fw163 : IE := .bin .sub .i64 (.c 0) fw162
def fw164 : IE := .bin .quo .i64 fw163 fw8
def fw165 : IE := .bin .rem .i64 fw163 fw8
def fw166 : IE := .bin .mx .i64 (.c 0) fw165
def fw167 : IE := .bin .mn .i64 (.c 1) fw166
def fw168 : IE := .bin .add .i64 fw164 fw167
def fw169 : IE := .bin .sub .i64 fw148 fw154
def fw170 : IE := .bin .mn .i64 fw97 fw169
def fw171 : IE := .bin .sub .i64 fw170 fw76
def fw172 : IE := .bin .sub .i64 fw143 fw158
def fw173 : IE := .bin .mx .i64 fw100 fw172
def fw174 : IE := .bin .add .i64 fw173 fw67
def fw175 : IE := .bin .sub .i64 fw171 fw174
def fw176 : IE := .bin .sub .i64 (.c 0) fw175
def fw177 : IE := .bin .quo .i64 fw176 fw8
def fw178 : IE := .bin .rem .i64 fw176 fw8
def fw179 : IE := .bin .mx .i64 (.c 0) fw178
def fw180 : IE := .bin .mn .i64 (.c 1) fw179
def fw181 : IE := .bin .add .i64 fw177 fw180
def fw182 : IE := .bin .sub .i64 (.c 0) fw181
def fw183 : IE := .bin .mul .i64 fw23 (.c 2)
def fw184 : IE := .bin .sub .i64 fw183 fw25
def fw185 : IE := .bin .sub .i64 fw184 fw27
def fw186 : IE := .bin .quo .i64 fw185 (.c 1000)
def fw187 : IE := .bin .rem .i64 fw185 (.c 1000)
def fw188 : IE := .bin .mx .i64 (.c 0) fw187
def fw189 : IE := .bin .mn .i64 (.c 1) fw188
def fw190 : IE := .bin .add .i64 fw186 fw189
def fw191 : IE := .bin .add .i64 fw183 fw25
def fw192 : IE := .bin .add .i64 fw191 fw35
def fw193 : IE := .bin .sub .i64 (.c 0) fw192
def fw194 : IE := .bin .quo .i64 fw193 (.c 1000)
def fw195 : IE := .bin .rem .i64 fw193 (.c 1000)
def fw196 : IE := .bin .mx .i64 (.c 0) fw195
def fw197 : IE := .bin .mn .i64 (.c 1) fw196
def fw198 : IE := .bin .add .i64 fw194 fw197
def fw199 : IE := .bin .sub .i64 (.c 0) fw198
def fw200 : IE := .bin .sub .i64 fw184 fw44
def fw201 : IE := .bin .sub .i64 (.c 0) fw200
def fw202 : IE := .bin .quo .i64 fw201 (.c 1000)
def fw203 : IE := .bin .rem .i64 fw201 (.c 1000)
def fw204 : IE := .bin .mx .i64 (.c 0) fw203
def fw205 : IE := .bin .mn .i64 (.c 1) fw204
def fw206 : IE := .bin .add .i64 fw202 fw205
def fw207 : IE := .bin .sub .i64 (.c 0) fw206
def fw208 : IE := .bin .add .i64 fw191 fw53
def fw209 : IE := .bin .quo .i64 fw208 (.c 1000)
def fw210 : IE := .bin .rem .i64 fw208 (.c 1000)
def fw211 : IE := .bin .mx .i64 (.c 0) fw210
def fw212 : IE := .bin .mn .i64 (.c 1) fw211
def fw213 : IE := .bin .add .i64 fw209 fw212
def fw214 : IE := .bin .mul .i64 (.c 1000) fw207
def fw215 : IE := .bin .mul .i64 (.c 1000) fw190
def fw216 : IE := .bin .sub .i64 fw214 fw215
def fw217 : IE := .bin .mx .i64 fw146 fw216
def fw218 : IE := .bin .add .i64 fw217 fw67
def fw219 : IE := .bin .mul .i64 (.c 1000) fw213
def fw220 : IE := .bin .mul .i64 (.c 1000) fw199
def fw221 : IE := .bin .sub .i64 fw219 fw220
def fw222 : IE := .bin .mn .i64 fw151 fw221
def fw223 : IE := .bin .sub .i64 fw222 fw76
def fw224 : IE := .bin .sub .i64 fw223 fw218
def fw225 : IE := .bin .add .i64 fw191 fw79
def fw226 : IE := .bin .sub .i64 fw225 fw220
def fw227 : IE := .bin .mn .i64 fw156 fw226
def fw228 : IE := .bin .sub .i64 fw227 fw76
def fw229 : IE := .bin .sub .i64 fw184 fw84
def fw230 : IE := .bin .sub .i64 fw229 fw215
def fw231 : IE := .bin .mx .i64 fw160 fw230
def fw232 : IE := .bin .add .i64 fw231 fw67
def fw233 : IE := .bin .sub .i64 fw228 fw232
def fw234 : IE := .bin .sub .i64 (.c 0) fw233
def fw235 : IE := .bin .quo .i64 fw234 fw8
def fw236 : IE := .bin .rem .i64 fw234 fw8
def fw237 : IE := .bin .mx .i64 (.c 0) fw236
def fw238 : IE := .bin .mn .i64 (.c 1) fw237
def fw239 : IE := .bin .add .i64 fw235 fw238
def fw240 : IE := .bin .sub .i64 fw219 fw225
def fw241 : IE := .bin .mn .i64 fw170 fw240
def fw242 : IE := .bin .sub .i64 fw241 fw76
def fw243 : IE := .bin .sub .i64 fw214 fw229
def fw244 : IE := .bin .mx .i64 fw173 fw243
def fw245 : IE := .bin .add .i64 fw244 fw67
def fw246 : IE := .bin .sub .i64 fw242 fw245
def fw247 : IE := .bin .sub .i64 (.c 0) fw246
def fw248 : IE := .bin .quo .i64 fw247 fw8
def fw249 : IE := .bin .rem .i64 fw247 fw8
def fw250 : IE := .bin .mx .i64 (.c 0) fw249
def fw251 : IE := .bin .mn .i64 (.c 1) fw250
def fw252 : IE := .bin .add .i64 fw248 fw251
def fw253 : IE := .bin .sub .i64 (.c 0) fw252
def fw254 : IE := .bin .mul .i64 fw23 (.c 3)
def fw255 : IE := .bin .sub .i64 fw254 fw25
def fw256 : IE := .bin .sub .i64 fw255 fw27
def fw257 : IE := .bin .quo .i64 fw256 (.c 1000)
def fw258 : IE := .bin .rem .i64 fw256 (.c 1000)
def fw259 : IE := .bin .mx .i64 (.c 0) fw258
def fw260 : IE := .bin .mn .i64 (.c 1) fw259
def fw261 : IE := .bin .add .i64 fw257 fw260
def fw262 : IE := .bin .add .i64 fw254 fw25
def fw263 : IE := .bin .add .i64 fw262 fw35
def fw264 : IE := .bin .sub .i64 (.c 0) fw263
def fw265 : IE := .bin .quo .i64 fw264 (.c 1000)
def fw266 : IE := .bin .rem .i64 fw264 (.c 1000)
def fw267 : IE := .bin .mx .i64 (.c 0) fw266
def fw268 : IE := .bin .mn .i64 (.c 1) fw267
def fw269 : IE := .bin .add .i64 fw265 fw268
def fw270 : IE := .bin .sub .i64 (.c 0) fw269
def fw271 : IE := .bin .sub .i64 fw255 fw44
def fw272 : IE := .bin .sub .i64 (.c 0) fw271
def fw273 : IE := .bin .quo .i64 fw272 (.c 1000)
def fw274 : IE := .bin .rem .i64 fw272 (.c 1000)
def fw275 : IE := .bin .mx .i64 (.c 0) fw274
def fw276 : IE := .bin .mn .i64 (.c 1) fw275
def fw277 : IE := .bin .add .i64 fw273 fw276
def fw278 : IE := .bin .sub .i64 (.c 0) fw277
def fw279 : IE := .bin .add .i64 fw262 fw53
def fw280 : IE := .bin .quo .i64 fw279 (.c 1000)
def fw281 : IE := .bin .rem .i64 fw279 (.c 1000)
def fw282 : IE := .bin .mx .i64 (.c 0) fw281
def fw283 : IE := .bin .mn .i64 (.c 1) fw282
def fw284 : IE := .bin .add .i64 fw280 fw283
def fw285 : IE := .bin .mul .i64 (.c 1000) fw278
def fw286 : IE := .bin .mul .i64 (.c 1000) fw261
def fw287 : IE := .bin .sub .i64 fw285 fw286
def fw288 : IE := .bin .mx .i64 fw217 fw287
def fw289 : IE := .bin .add .i64 fw288 fw67
def fw290 : IE := .bin .mul .i64 (.c 1000) fw284
def fw291 : IE := .bin .mul .i64 (.c 1000) fw270
def fw292 : IE := .bin .sub .i64 fw290 fw291
def fw293 : IE := .bin .mn .i64 fw222 fw292
def fw294 : IE := .bin .sub .i64 fw293 fw76
def fw295 : IE := .bin .sub .i64 fw294 fw289
def fw296 : IE := .bin .add .i64 fw262 fw79
def fw297 : IE := .bin .sub .i64 fw296 fw291
def fw298 : IE := .bin .mn .i64 fw227 fw297
def fw299 : IE := .bin .sub .i64 fw298 fw76
def fw300 : IE := .bin .sub .i64 fw255 fw84
def fw301 : IE := .bin .sub .i64 fw300 fw286
def fw302 : IE := .bin .mx .i64 fw231 fw301
def fw303 : IE := .bin .add .i64 fw302 fw67
def fw304 : IE := .bin .sub .i64 fw299 fw303
def fw305 : IE := .bin .sub .i64 (.c 0) fw304
def fw306 : IE := .bin .quo .i64 fw305 fw8
def fw307 : IE := .bin .rem .i64 fw305 fw8
def fw308 : IE := .bin .mx .i64 (.c 0) fw307
def fw309 : IE := .bin .mn .i64 (.c 1) fw308
def fw310 : IE := .bin .add .i64 fw306 fw309
def fw311 : IE := .bin .sub .i64 fw290 fw296
def fw312 : IE := .bin .mn .i64 fw241 fw311
def fw313 : IE := .bin .sub .i64 fw312 fw76
def fw314 : IE := .bin .sub .i64 fw285 fw300
def fw315 : IE := .bin .mx .i64 fw244 fw314
def fw316 : IE := .bin .add .i64 fw315 fw67
def fw317 : IE := .bin .sub .i64 fw313 fw316
def fw318 : IE := .bin .sub .i64 (.c 0) fw317
def fw319 : IE := .bin .quo .i64 fw318 fw8
def fw320 : IE := .bin .rem .i64 fw318 fw8
def fw321 : IE := .bin .mx .i64 (.c 0) fw320
def fw322 : IE := .bin .mn .i64 (.c 1) fw321
def fw323 : IE := .bin .add .i64 fw319 fw322
def fw324 : IE := .bin .sub .i64 (.c 0) fw323
def fw325 : IE := .bin .mul .i64 fw23 (.c 4)
def fw326 : IE := .bin .sub .i64 fw325 fw25
def fw327 : IE := .bin .sub .i64 fw326 fw27
def fw328 : IE := .bin .quo .i64 fw327 (.c 1000)
def fw329 : IE := .bin .rem .i64 fw327 (.c 1000)
def fw330 : IE := .bin .mx .i64 (.c 0) fw329
def fw331 : IE := .bin .mn .i64 (.c 1) fw330
def fw332 : IE := .bin .add .i64 fw328 fw331
def fw333 : IE := .bin .add .i64 fw325 fw25
def fw334 : IE := .bin .add .i64 fw333 fw35
def fw335 : IE := .bin .sub .i64 (.c 0) fw334
def fw336 : IE := .bin .quo .i64 fw335 (.c 1000)
def fw337 : IE := .bin .rem .i64 fw335 (.c 1000)
def fw338 : IE := .bin .mx .i64 (.c 0) fw337
def fw339 : IE := .bin .mn .i64 (.c 1) fw338
def fw340 : IE := .bin .add .i64 fw336 fw339
def fw341 : IE := .bin .sub .i64 (.c 0) fw340
def fw342 : IE := .bin .sub .i64 fw326 fw44
def fw343 : IE := .bin .sub .i64 (.c 0) fw342
def fw344 : IE := .bin .quo .i64 fw343 (.c 1000)
def fw345 : IE := .bin .rem .i64 fw343 (.c 1000)
def fw346 : IE := .bin .mx .i64 (.c 0) fw345
def fw347 : IE := .bin .mn .i64 (.c 1) fw346
def fw348 : IE := .bin .add .i64 fw344 fw347
def fw349 : IE := .bin .sub .i64 (.c 0) fw348
def fw350 : IE := .bin .add .i64 fw333 fw53
def fw351 : IE := .bin .quo .i64 fw350 (.c 1000)
def fw352 : IE := .bin .rem .i64 fw350 (.c 1000)
def fw353 : IE := .bin .mx .i64 (.c 0) fw352
def fw354 : IE := .bin .mn .i64 (.c 1) fw353
def fw355 : IE := .bin .add .i64 fw351 fw354
def fw356 : IE := .bin .mul .i64 (.c 1000) fw349
def fw357 : IE := .bin .mul .i64 (.c 1000) fw332
def fw358 : IE := .bin .sub .i64 fw356 fw357
def fw359 : IE := .bin .mx .i64 fw288 fw358
def fw360 : IE := .bin .add .i64 fw359 fw67
def fw361 : IE := .bin .mul .i64 (.c 1000) fw355
def fw362 : IE := .bin .mul .i64 (.c 1000) fw341
def fw363 : IE := .bin .sub .i64 fw361 fw362
def fw364 : IE := .bin .mn .i64 fw293 fw363
def fw365 : IE := .bin .sub .i64 fw364 fw76
def fw366 : IE := .bin .sub .i64 fw365 fw360
def fw367 : IE := .bin .add .i64 fw333 fw79
def fw368 : IE := .bin .sub .i64 fw367 fw362
def fw369 : IE := .bin .mn .i64 fw298 fw368
def fw370 : IE := .bin .sub .i64 fw369 fw76
def fw371 : IE := .bin .sub .i64 fw326 fw84
def fw372 : IE := .bin .sub .i64 fw371 fw357
def fw373 : IE := .bin .mx .i64 fw302 fw372
def fw374 : IE := .bin .add .i64 fw373 fw67
def fw375 : IE := .bin .sub .i64 fw370 fw374
def fw376 : IE := .bin .sub .i64 (.c 0) fw375
def fw377 : IE := .bin .quo .i64 fw376 fw8
def fw378 : IE := .bin .rem .i64 fw376 fw8
def fw379 : IE := .bin .mx .i64 (.c 0) fw378
def fw380 : IE := .bin .mn .i64 (.c 1) fw379
def fw381 : IE := .bin .add .i64 fw377 fw380
def fw382 : IE := .bin .sub .i64 fw361 fw367
def fw383 : IE := .bin .mn .i64 fw312 fw382
def fw384 : IE := .bin .sub .i64 fw383 fw76
def fw385 : IE := .bin .sub .i64 fw356 fw371
def fw386 : IE := .bin .mx .i64 fw315 fw385
def fw387 : IE := .bin .add .i64 fw386 fw67
def fw388 : IE := .bin .sub .i64 fw384 fw387
def fw389 : IE := .bin .sub .i64 (.c 0) fw388
def fw390 : IE := .bin .quo .i64 fw389 fw8
def fw391 : IE := .bin .rem .i64 fw389 fw8
def fw392 : IE := .bin .mx .i64 (.c 0) fw391
def fw393 : IE := .bin .mn .i64 (.c 1) fw392
def fw394 : IE := .bin .add .i64 fw390 fw393
def fw395 : IE := .bin .sub .i64 (.c 0) fw394
def fw396 : IE := .bin .mul .i64 fw23 (.c 5)
def fw397 : IE := .bin .sub .i64 fw396 fw25
def fw398 : IE := .bin .sub .i64 fw397 fw27
def fw399 : IE := .bin .quo .i64 fw398 (.c 1000)
def fw400 : IE := .bin .rem .i64 fw398 (.c 1000)
def fw401 : IE := .bin .mx .i64 (.c 0) fw400
def fw402 : IE := .bin .mn .i64 (.c 1) fw401
def fw403 : IE := .bin .add .i64 fw399 fw402
def fw404 : IE := .bin .add .i64 fw396 fw25
def fw405 : IE := .bin .add .i64 fw404 fw35
def fw406 : IE := .bin .sub .i64 (.c 0) fw405
def fw407 : IE := .bin .quo .i64 fw406 (.c 1000)
def fw408 : IE := .bin .rem .i64 fw406 (.c 1000)
def fw409 : IE := .bin .mx .i64 (.c 0) fw408
def fw410 : IE := .bin .mn .i64 (.c 1) fw409
def fw411 : IE := .bin .add .i64 fw407 fw410
def fw412 : IE := .bin .sub .i64 (.c 0) fw411
def fw413 : IE := .bin .sub .i64 fw397 fw44
def fw414 : IE := .bin .sub .i64 (.c 0) fw413
def fw415 : IE := .bin .quo .i64 fw414 (.c 1000)
def fw416 : IE := .bin .rem .i64 fw414 (.c 1000)
def fw417 : IE := .bin .mx .i64 (.c 0) fw416
def fw418 : IE := .bin .mn .i64 (.c 1) fw417
def fw419 : IE := .bin .add .i64 fw415 fw418
def fw420 : IE := .bin .sub .i64 (.c 0) fw419
def fw421 : IE := .bin .add .i64 fw404 fw53
def fw422 : IE := .bin .quo .i64 fw421 (.c 1000)
def fw423 : IE := .bin .rem .i64 fw421 (.c 1000)
def fw424 : IE := .bin .mx .i64 (.c 0) fw423
def fw425 : IE := .bin .mn .i64 (.c 1) fw424
def fw426 : IE := .bin .add .i64 fw422 fw425
def fw427 : IE := .bin .mul .i64 (.c 1000) fw420
def fw428 : IE := .bin .mul .i64 (.c 1000) fw403
def fw429 : IE := .bin .sub .i64 fw427 fw428
def fw430 : IE := .bin .mx .i64 fw359 fw429
def fw431 : IE := .bin .add .i64 fw430 fw67
def fw432 : IE := .bin .mul .i64 (.c 1000) fw426
def fw433 : IE := .bin .mul .i64 (.c 1000) fw412
def fw434 : IE := .bin .sub .i64 fw432 fw433
def fw435 : IE := .bin .mn .i64 fw364 fw434
def fw436 : IE := .bin .sub .i64 fw435 fw76
def fw437 : IE := .bin .sub .i64 fw436 fw431
def fw438 : IE := .bin .add .i64 fw404 fw79
def fw439 : IE := .bin .sub .i64 fw438 fw433
def fw440 : IE := .bin .mn .i64 fw369 fw439
def fw441 : IE := .bin .sub .i64 fw440 fw76
def fw442 : IE := .bin .sub .i64 fw397 fw84
def fw443 : IE := .bin .sub .i64 fw442 fw428
def fw444 : IE := .bin .mx .i64 fw373 fw443
def fw445 : IE := .bin .add .i64 fw444 fw67
def fw446 : IE := .bin .sub .i64 fw441 fw445
def fw447 : IE := .bin .sub .i64 (.c 0) fw446
def fw448 : IE := .bin .quo .i64 fw447 fw8
def fw449 : IE := .bin .rem .i64 fw447 fw8
def fw450 : IE := .bin .mx .i64 (.c 0) fw449
def fw451 : IE := .bin .mn .i64 (.c 1) fw450
def fw452 : IE := .bin .add .i64 fw448 fw451
def fw453 : IE := .bin .sub .i64 fw432 fw438
def fw454 : IE := .bin .mn .i64 fw383 fw453
def fw455 : IE := .bin .sub .i64 fw454 fw76
def fw456 : IE := .bin .sub .i64 fw427 fw442
def fw457 : IE := .bin .mx .i64 fw386 fw456
def fw458 : IE := .bin .add .i64 fw457 fw67
def fw459 : IE := .bin .sub .i64 fw455 fw458
def fw460 : IE := .bin .sub .i64 (.c 0) fw459
def fw461 : IE := .bin .quo .i64 fw460 fw8
def fw462 : IE := .bin .rem .i64 fw460 fw8
def fw463 : IE := .bin .mx .i64 (.c 0) fw462
def fw464 : IE := .bin .mn .i64 (.c 1) fw463
def fw465 : IE := .bin .add .i64 fw461 fw464
def fw466 : IE := .bin .sub .i64 (.c 0) fw465
def fw467 : IE := .bin .mul .i64 fw23 (.c 6)
def fw468 : IE := .bin .sub .i64 fw467 fw25
def fw469 : IE := .bin .sub .i64 fw468 fw27
def fw470 : IE := .bin .quo .i64 fw469 (.c 1000)
def fw471 : IE := .bin .rem .i64 fw469 (.c 1000)
def fw472 : IE := .bin .mx .i64 (.c 0) fw471
def fw473 : IE := .bin .mn .i64 (.c 1) fw472
def fw474 : IE := .bin .add .i64 fw470 fw473
def fw475 : IE := .bin .add .i64 fw467 fw25
def fw476 : IE := .bin .add .i64 fw475 fw35
def fw477 : IE := .bin .sub .i64 (.c 0) fw476
def fw478 : IE := .bin .quo .i64 fw477 (.c 1000)
def fw479 : IE := .bin .rem .i64 fw477 (.c 1000)
def fw480 : IE := .bin .mx .i64 (.c 0) fw479
def fw481 : IE := .bin .mn .i64 (.c 1) fw480
def fw482 : IE := .bin .add .i64 fw478 fw481
def fw483 : IE := .bin .sub .i64 (.c 0) fw482
def fw484 : IE := .bin .sub .i64 fw468 fw44
def fw485 : IE := .bin .sub .i64 (.c 0) fw484
def fw486 : IE := .bin .quo .i64 fw485 (.c 1000)
def fw487 : IE := .bin .rem .i64 fw485 (.c 1000)
def fw488 : IE := .bin .mx .i64 (.c 0) fw487
def fw489 : IE := .bin .mn .i64 (.c 1) fw488
def fw490 : IE := .bin .add .i64 fw486 fw489
def fw491 : IE := .bin .sub .i64 (.c 0) fw490
def fw492 : IE := .bin .add .i64 fw475 fw53
def fw493 : IE := .bin .quo .i64 fw492 (.c 1000)
def fw494 : IE := .bin .rem .i64 fw492 (.c 1000)
def fw495 : IE := .bin .mx .i64 (.c 0) fw494
def fw496 : IE := .bin .mn .i64 (.c 1) fw495
def fw497 : IE := .bin .add .i64 fw493 fw496
def fw498 : IE := .bin .mul .i64 (.c 1000) fw491
def fw499 : IE := .bin .mul .i64 (.c 1000) fw474
def fw500 : IE := .bin .sub .i64 fw498 fw499
def fw501 : IE := .bin .mx .i64 fw430 fw500
def fw502 : IE := .bin .add .i64 fw501 fw67
def fw503 : IE := .bin .mul .i64 (.c 1000) fw497
def fw504 : IE := .bin .mul .i64 (.c 1000) fw483
def fw505 : IE := .bin .sub .i64 fw503 fw504
def fw506 : IE := .bin .mn .i64 fw435 fw505
def fw507 : IE := .bin .sub .i64 fw506 fw76
def fw508 : IE := .bin .sub .i64 fw507 fw502
def fw509 : IE := .bin .add .i64 fw475 fw79
def fw510 : IE := .bin .sub .i64 fw509 fw504
def fw511 : IE := .bin .mn .i64 fw440 fw510
def fw512 : IE := .bin .sub .i64 fw511 fw76
def fw513 : IE := .bin .sub .i64 fw468 fw84
def fw514 : IE := .bin .sub .i64 fw513 fw499
def fw515 : IE := .bin .mx .i64 fw444 fw514
def fw516 : IE := .bin .add .i64 fw515 fw67
def fw517 : IE := .bin .sub .i64 fw512 fw516
def fw518 : IE := .bin .sub .i64 (.c 0) fw517
def fw519 : IE := .bin .quo .i64 fw518 fw8
def fw520 : IE := .bin .rem .i64 fw518 fw8
def fw521 : IE := .bin .mx .i64 (.c 0) fw520
def fw522 : IE := .bin .mn .i64 (.c 1) fw521
def fw523 : IE := .bin .add .i64 fw519 fw522
def fw524 : IE := .bin .sub .i64 fw503 fw509
def fw525 : IE := .bin .mn .i64 fw454 fw524
def fw526 : IE := .bin .sub .i64 fw525 fw76
def fw527 : IE := .bin .sub .i64 fw498 fw513
def fw528 : IE := .bin .mx .i64 fw457 fw527
def fw529 : IE := .bin .add .i64 fw528 fw67
def fw530 : IE := .bin .sub .i64 fw526 fw529
def fw531 : IE := .bin .sub .i64 (.c 0) fw530
def fw532 : IE := .bin .quo .i64 fw531 fw8
def fw533 : IE := .bin .rem .i64 fw531 fw8
def fw534 : IE := .bin .mx .i64 (.c 0) fw533
def fw535 : IE := .bin .mn .i64 (.c 1) fw534
def fw536 : IE := .bin .add .i64 fw532 fw535
def fw537 : IE := .bin .sub .i64 (.c 0) fw536
def fw538 : IE := .bin .mul .i64 fw23 (.c 7)
def fw539 : IE := .bin .sub .i64 fw538 fw25
def fw540 : IE := .bin .sub .i64 fw539 fw27
def fw541 : IE := .bin .quo .i64 fw540 (.c 1000)
def fw542 : IE := .bin .rem .i64 fw540 (.c 1000)
def fw543 : IE := .bin .mx .i64 (.c 0) fw542
def fw544 : IE := .bin .mn .i64 (.c 1) fw543
def fw545 : IE := .bin .add .i64 fw541 fw544
def fw546 : IE := .bin .add .i64 fw538 fw25
def fw547 : IE := .bin .add .i64 fw546 fw35
def fw548 : IE := .bin .sub .i64 (.c 0) fw547
def fw549 : IE := .bin .quo .i64 fw548 (.c 1000)
def fw550 : IE := .bin .rem .i64 fw548 (.c 1000)
def fw551 : IE := .bin .mx .i64 (.c 0) fw550
def fw552 : IE := .bin .mn .i64 (.c 1) fw551
def fw553 : IE := .bin .add .i64 fw549 fw552
def fw554 : IE := .bin .sub .i64 (.c 0) fw553
def fw555 : IE := .bin .sub .i64 fw539 fw44
def fw556 : IE := .bin .sub .i64 (.c 0) fw555
def fw557 : IE := .bin .quo .i64 fw556 (.c 1000)
def fw558 : IE := .bin .rem .i64 fw556 (.c 1000)
def fw559 : IE := .bin .mx .i64 (.c 0) fw558
def fw560 : IE := .bin .mn .i64 (.c 1) fw559
def fw561 : IE := .bin .add .i64 fw557 fw560
def fw562 : IE := .bin .sub .i64 (.c 0) fw561
def fw563 : IE := .bin .add .i64 fw546 fw53
def fw564 : IE := .bin .quo .i64 fw563 (.c 1000)
def fw565 : IE := .bin .rem .i64 fw563 (.c 1000)
def fw566 : IE := .bin .mx .i64 (.c 0) fw565
def fw567 : IE := .bin .mn .i64 (.c 1) fw566
def fw568 : IE := .bin .add .i64 fw564 fw567
def fw569 : IE := .bin .mul .i64 (.c 1000) fw562
def fw570 : IE := .bin .mul .i64 (.c 1000) fw545
def fw571 : IE := .bin .sub .i64 fw569 fw570
def fw572 : IE := .bin .mx .i64 fw501 fw571
def fw573 : IE := .bin .add .i64 fw572 fw67
def fw574 : IE := .bin .mul .i64 (.c 1000) fw568
def fw575 : IE := .bin .mul .i64 (.c 1000) fw554
def fw576 : IE := .bin .sub .i64 fw574 fw575
def fw577 : IE := .bin .mn .i64 fw506 fw576
def fw578 : IE := .bin .sub .i64 fw577 fw76
def fw579 : IE := .bin .sub .i64 fw578 fw573
def fw580 : IE := .bin .add .i64 fw546 fw79
def fw581 : IE := .bin .sub .i64 fw580 fw575
def fw582 : IE := .bin .mn .i64 fw511 fw581
def fw583 : IE := .bin .sub .i64 fw582 fw76
def fw584 : IE := .bin .sub .i64 fw539 fw84
def fw585 : IE := .bin .sub .i64 fw584 fw570
def fw586 : IE := .bin .mx .i64 fw515 fw585
def fw587 : IE := .bin .add .i64 fw586 fw67
def fw588 : IE := .bin .sub .i64 fw583 fw587
def fw589 : IE := .bin .sub .i64 (.c 0) fw588
def fw590 : IE := .bin .quo .i64 fw589 fw8
def fw591 : IE := .bin .rem .i64 fw589 fw8
def fw592 : IE := .bin .mx .i64 (.c 0) fw591
def fw593 : IE := .bin .mn .i64 (.c 1) fw592
def fw594 : IE := .bin .add .i64 fw590 fw593
def fw595 : IE := .bin .sub .i64 fw574 fw580
def fw596 : IE := .bin .mn .i64 fw525 fw595
def fw597 : IE := .bin .sub .i64 fw596 fw76
def fw598 : IE := .bin .sub .i64 fw569 fw584
def fw599 : IE := .bin .mx .i64 fw528 fw598
def fw600 : IE := .bin .add .i64 fw599 fw67
def fw601 : IE := .bin .sub .i64 fw597 fw600
def fw602 : IE := .bin .sub .i64 (.c 0) fw601
def fw603 : IE := .bin .quo .i64 fw602 fw8
def fw604 : IE := .bin .rem .i64 fw602 fw8
def fw605 : IE := .bin .mx .i64 (.c 0) fw604
def fw606 : IE := .bin .mn .i64 (.c 1) fw605
def fw607 : IE := .bin .add .i64 fw603 fw606
def fw608 : IE := .bin .sub .i64 (.c 0) fw607
def fwTree : DT :=
(.ask (.cmp .leq (.c 100) fw2)
 (.ask (.cmp .leq fw2 (.c 200000))
  (.ask (.cmp .leq (.c 0) fw5)
   (.ask (.cmp .leq fw5 (.c 3000))
    (.ask (.cmp .leq (.c 0) fw7)
     (.ask (.cmp .leq fw7 (.c 3000))
      (.ask (.cmp .leq fw9 fw10)
       (.ask (.cmp .leq (.c 1) fw12)
        (.ask (.cmp .leq fw12 (.c 60))
         (.ask (.cmp .leq (.c (-10000)) fw14)
          (.ask (.cmp .leq fw14 (.c 10000))
           (.ask (.cmp .leq (.c (-10000)) fw16)
            (.ask (.cmp .leq fw16 (.c 10000))
             (.ask (.cmp .leq (.c (-200000)) fw21)
              (.ask (.cmp .leq fw21 fw22)
               (.ask (.cmp .leq fw22 (.c 200000))
                (.ask (.cmp .leq fw12 (.c 0))
                 .dead
                 (.ask (.cmp .leq fw12 (.c 1))
                  (.ask (.cmp .leq (.c (-10000000)) fw33)
                   (.ask (.cmp .leq fw33 fw43)
                    (.ask (.cmp .leq fw43 (.c 10000000))
                     (.ask (.cmp .leq (.c (-10000000)) fw52)
                      (.ask (.cmp .leq fw52 fw59)
                       (.ask (.cmp .leq fw59 (.c 10000000))
                        (.ask (.cmp .eql (.c 1) fw12)
                         (.ask (.cmp .eql fw8 (.c 0))
                          .dead
                          (.ask (.cmp .leq fw68 fw77)
                           (.ask (.cmp .leq (.c 0) fw78)
                            (.ask (.cmp .leq fw95 fw14)
                             (.ask (.cmp .leq fw16 fw109)
                              (.ask (.cmp .leq fw14 fw16)
                               (.ask (.cmp .leq fw111 (.c 4000))
                                (.leaf (.c true))
                                .dead)
                               (.ask (.cmp .leq fw111 (.c 4000))
                                (.leaf (.c true))
                                .dead))
                              .dead)
                             .dead)
                            .dead)
                           (.ask (.cmp .leq (.c 0) fw78)
                            .dead
                            (.ask (.cmp .leq fw95 fw14)
                             (.ask (.cmp .leq fw16 fw109)
                              (.ask (.cmp .leq fw14 fw16)
                               .dead
                               (.ask (.cmp .leq fw111 (.c 4000))
                                (.leaf (.c true))
                                (.leaf (.c true))))
                              .dead)
                             .dead))))
                         .dead)
                        .dead)
                       .dead)
                      .dead)
                     .dead)
                    .dead)
                   .dead)
                  (.ask (.cmp .leq fw12 (.c 2))
                   (.ask (.cmp .leq (.c (-10000000)) fw33)
                    (.ask (.cmp .leq fw33 fw43)
                     (.ask (.cmp .leq fw43 fw119)
                      (.ask (.cmp .leq fw119 fw128)
                       (.ask (.cmp .leq fw128 (.c 10000000))
                        (.ask (.cmp .leq (.c (-10000000)) fw52)
                         (.ask (.cmp .leq fw52 fw59)
                          (.ask (.cmp .leq fw59 fw136)
                           (.ask (.cmp .leq fw136 fw142)
                            (.ask (.cmp .leq fw142 (.c 10000000))
                             (.ask (.cmp .eql (.c 2) fw12)
                              (.ask (.cmp .eql fw8 (.c 0))
                               .dead
                               (.ask (.cmp .leq fw147 fw152)
                                (.ask (.cmp .leq (.c 0) fw153)
                                 (.ask (.cmp .leq fw168 fw14)
                                  (.ask (.cmp .leq fw16 fw182)
                                   (.ask (.cmp .leq fw14 fw16)
                                    (.ask (.cmp .leq fw111 (.c 4000))
                                     (.leaf (.c true))
                                     .dead)
                                    (.ask (.cmp .leq fw111 (.c 4000))
                                     (.leaf (.c true))
                                     .dead))
                                   .dead)
                                  .dead)
                                 .dead)
                                (.ask (.cmp .leq (.c 0) fw153)
                                 .dead
                                 (.ask (.cmp .leq fw168 fw14)
                                  (.ask (.cmp .leq fw16 fw182)
                                   (.ask (.cmp .leq fw14 fw16)
                                    .dead
                                    (.ask (.cmp .leq fw111 (.c 4000))
                                     (.leaf (.c true))
                                     (.leaf (.c true))))
                                   .dead)
                                  .dead))))
                              .dead)
                             .dead)
                            .dead)
                           .dead)
                          .dead)
                         .dead)
                        .dead)
                       .dead)
                      .dead)
                     .dead)
                    .dead)
                   (.ask (.cmp .leq fw12 (.c 3))
                    (.ask (.cmp .leq (.c (-10000000)) fw33)
                     (.ask (.cmp .leq fw33 fw43)
                      (.ask (.cmp .leq fw43 fw119)
                       (.ask (.cmp .leq fw119 fw128)
                        (.ask (.cmp .leq fw128 fw190)
                         (.ask (.cmp .leq fw190 fw199)
                          (.ask (.cmp .leq fw199 (.c 10000000))
                           (.ask (.cmp .leq (.c (-10000000)) fw52)
                            (.ask (.cmp .leq fw52 fw59)
                             (.ask (.cmp .leq fw59 fw136)
                              (.ask (.cmp .leq fw136 fw142)
                               (.ask (.cmp .leq fw142 fw207)
                                (.ask (.cmp .leq fw207 fw213)
                                 (.ask (.cmp .leq fw213 (.c 10000000))
                                  (.ask (.cmp .eql (.c 3) fw12)
                                   (.ask (.cmp .eql fw8 (.c 0))
                                    .dead
                                    (.ask (.cmp .leq fw218 fw223)
                                     (.ask (.cmp .leq (.c 0) fw224)
                                      (.ask (.cmp .leq fw239 fw14)
                                       (.ask (.cmp .leq fw16 fw253)
                                        (.ask (.cmp .leq fw14 fw16)
                                         (.ask (.cmp .leq fw111 (.c 4000))
                                          (.leaf (.c true))
                                          .dead)
                                         (.ask (.cmp .leq fw111 (.c 4000))
                                          (.leaf (.c true))
                                          .dead))
                                        .dead)
                                       .dead)
                                      .dead)
                                     (.ask (.cmp .leq (.c 0) fw224)
                                      .dead
                                      (.ask (.cmp .leq fw239 fw14)
                                       (.ask (.cmp .leq fw16 fw253)
                                        (.ask (.cmp .leq fw14 fw16)
                                         .dead
                                         (.ask (.cmp .leq fw111 (.c 4000))
                                          (.leaf (.c true))
                                          (.leaf (.c true))))
                                        .dead)
                                       .dead))))
                                   .dead)
                                  .dead)
                                 .dead)
                                .dead)
                               .dead)
                              .dead)
                             .dead)
                            .dead)
                           .dead)
                          .dead)
                         .dead)
                        .dead)
                       .dead)
                      .dead)
                     .dead)
                    (.ask (.cmp .leq fw12 (.c 4))
                     (.ask (.cmp .leq (.c (-10000000)) fw33)
                      (.ask (.cmp .leq fw33 fw43)
                       (.ask (.cmp .leq fw43 fw119)
                        (.ask (.cmp .leq fw119 fw128)
                         (.ask (.cmp .leq fw128 fw190)
                          (.ask (.cmp .leq fw190 fw199)
                           (.ask (.cmp .leq fw199 fw261)
                            (.ask (.cmp .leq fw261 fw270)
                             (.ask (.cmp .leq fw270 (.c 10000000))
                              (.ask (.cmp .leq (.c (-10000000)) fw52)
                               (.ask (.cmp .leq fw52 fw59)
                                (.ask (.cmp .leq fw59 fw136)
                                 (.ask (.cmp .leq fw136 fw142)
                                  (.ask (.cmp .leq fw142 fw207)
                                   (.ask (.cmp .leq fw207 fw213)
                                    (.ask (.cmp .leq fw213 fw278)
                                     (.ask (.cmp .leq fw278 fw284)
                                      (.ask (.cmp .leq fw284 (.c 10000000))
                                       (.ask (.cmp .eql (.c 4) fw12)
                                        (.ask (.cmp .eql fw8 (.c 0))
                                         .dead
                                         (.ask (.cmp .leq fw289 fw294)
                                          (.ask (.cmp .leq (.c 0) fw295)
                                           (.ask (.cmp .leq fw310 fw14)
                                            (.ask (.cmp .leq fw16 fw324)
                                             (.ask (.cmp .leq fw14 fw16)
                                              (.ask (.cmp .leq fw111 (.c 4000))
                                               (.leaf (.c true))
                                               .dead)
                                              (.ask (.cmp .leq fw111 (.c 4000))
                                               (.leaf (.c true))
                                               .dead))
                                             .dead)
                                            .dead)
                                           .dead)
                                          (.ask (.cmp .leq (.c 0) fw295)
                                           .dead
                                           (.ask (.cmp .leq fw310 fw14)
                                            (.ask (.cmp .leq fw16 fw324)
                                             (.ask (.cmp .leq fw14 fw16)
                                              .dead
                                              (.ask (.cmp .leq fw111 (.c 4000))
                                               (.leaf (.c true))
                                               (.leaf (.c true))))
                                             .dead)
                                            .dead))))
                                        .dead)
                                       .dead)
                                      .dead)
                                     .dead)
                                    .dead)
                                   .dead)
                                  .dead)
                                 .dead)
                                .dead)
                               .dead)
                              .dead)
                             .dead)
                            .dead)
                           .dead)
                          .dead)
                         .dead)
                        .dead)
                       .dead)
                      .dead)
                     (.ask (.cmp .leq fw12 (.c 5))
                      (.ask (.cmp .leq (.c (-10000000)) fw33)
                       (.ask (.cmp .leq fw33 fw43)
                        (.ask (.cmp .leq fw43 fw119)
                         (.ask (.cmp .leq fw119 fw128)
                          (.ask (.cmp .leq fw128 fw190)
                           (.ask (.cmp .leq fw190 fw199)
                            (.ask (.cmp .leq fw199 fw261)
                             (.ask (.cmp .leq fw261 fw270)
                              (.ask (.cmp .leq fw270 fw332)
                               (.ask (.cmp .leq fw332 fw341)
                                (.ask (.cmp .leq fw341 (.c 10000000))
                                 (.ask (.cmp .leq (.c (-10000000)) fw52)
                                  (.ask (.cmp .leq fw52 fw59)
                                   (.ask (.cmp .leq fw59 fw136)
                                    (.ask (.cmp .leq fw136 fw142)
                                     (.ask (.cmp .leq fw142 fw207)
                                      (.ask (.cmp .leq fw207 fw213)
                                       (.ask (.cmp .leq fw213 fw278)
                                        (.ask (.cmp .leq fw278 fw284)
                                         (.ask (.cmp .leq fw284 fw349)
                                          (.ask (.cmp .leq fw349 fw355)
                                           (.ask (.cmp .leq fw355 (.c 10000000))
                                            (.ask (.cmp .eql (.c 5) fw12)
                                             (.ask (.cmp .eql fw8 (.c 0))
                                              .dead
                                              (.ask (.cmp .leq fw360 fw365)
                                               (.ask (.cmp .leq (.c 0) fw366)
                                                (.ask (.cmp .leq fw381 fw14)
                                                 (.ask (.cmp .leq fw16 fw395)
                                                  (.ask (.cmp .leq fw14 fw16)
                                                   (.ask (.cmp .leq fw111 (.c 4000))
                                                    (.leaf (.c true))
                                                    .dead)
                                                   (.ask (.cmp .leq fw111 (.c 4000))
                                                    (.leaf (.c true))
                                                    .dead))
                                                  .dead)
                                                 .dead)
                                                .dead)
                                               (.ask (.cmp .leq (.c 0) fw366)
                                                .dead
                                                (.ask (.cmp .leq fw381 fw14)
                                                 (.ask (.cmp .leq fw16 fw395)
                                                  (.ask (.cmp .leq fw14 fw16)
                                                   .dead
                                                   (.ask (.cmp .leq fw111 (.c 4000))
                                                    (.leaf (.c true))
                                                    (.leaf (.c true))))
                                                  .dead)
                                                 .dead))))
                                             .dead)
                                            .dead)
                                           .dead)
                                          .dead)
                                         .dead)
                                        .dead)
                                       .dead)
                                      .dead)
                                     .dead)
                                    .dead)
                                   .dead)
                                  .dead)
                                 .dead)
                                .dead)
                               .dead)
                              .dead)
                             .dead)
                            .dead)
                           .dead)
                          .dead)
                         .dead)
                        .dead)
                       .dead)
                      (.ask (.cmp .leq fw12 (.c 6))
                       (.ask (.cmp .leq (.c (-10000000)) fw33)
                        (.ask (.cmp .leq fw33 fw43)
                         (.ask (.cmp .leq fw43 fw119)
                          (.ask (.cmp .leq fw119 fw128)
                           (.ask (.cmp .leq fw128 fw190)
                            (.ask (.cmp .leq fw190 fw199)
                             (.ask (.cmp .leq fw199 fw261)
                              (.ask (.cmp .leq fw261 fw270)
                               (.ask (.cmp .leq fw270 fw332)
                                (.ask (.cmp .leq fw332 fw341)
                                 (.ask (.cmp .leq fw341 fw403)
                                  (.ask (.cmp .leq fw403 fw412)
                                   (.ask (.cmp .leq fw412 (.c 10000000))
                                    (.ask (.cmp .leq (.c (-10000000)) fw52)
                                     (.ask (.cmp .leq fw52 fw59)
                                      (.ask (.cmp .leq fw59 fw136)
                                       (.ask (.cmp .leq fw136 fw142)
                                        (.ask (.cmp .leq fw142 fw207)
                                         (.ask (.cmp .leq fw207 fw213)
                                          (.ask (.cmp .leq fw213 fw278)
                                           (.ask (.cmp .leq fw278 fw284)
                                            (.ask (.cmp .leq fw284 fw349)
                                             (.ask (.cmp .leq fw349 fw355)
                                              (.ask (.cmp .leq fw355 fw420)
                                               (.ask (.cmp .leq fw420 fw426)
                                                (.ask (.cmp .leq fw426 (.c 10000000))
                                                 (.ask (.cmp .eql (.c 6) fw12)
                                                  (.ask (.cmp .eql fw8 (.c 0))
                                                   .dead
                                                   (.ask (.cmp .leq fw431 fw436)
                                                    (.ask (.cmp .leq (.c 0) fw437)
                                                     (.ask (.cmp .leq fw452 fw14)
                                                      (.ask (.cmp .leq fw16 fw466)
                                                       (.ask (.cmp .leq fw14 fw16)
                                                        (.ask (.cmp .leq fw111 (.c 4000))
                                                         (.leaf (.c true))
                                                         .dead)
                                                        (.ask (.cmp .leq fw111 (.c 4000))
                                                         (.leaf (.c true))
                                                         .dead))
                                                       .dead)
                                                      .dead)
                                                     .dead)
                                                    (.ask (.cmp .leq (.c 0) fw437)
                                                     .dead
                                                     (.ask (.cmp .leq fw452 fw14)
                                                      (.ask (.cmp .leq fw16 fw466)
                                                       (.ask (.cmp .leq fw14 fw16)
                                                        .dead
                                                        (.ask (.cmp .leq fw111 (.c 4000))
                                                         (.leaf (.c true))
                                                         (.leaf (.c true))))
                                                       .dead)
                                                      .dead))))
                                                  .dead)
                                                 .dead)
                                                .dead)
                                               .dead)
                                              .dead)
                                             .dead)
                                            .dead)
                                           .dead)
                                          .dead)
                                         .dead)
                                        .dead)
                                       .dead)
                                      .dead)
                                     .dead)
                                    .dead)
                                   .dead)
                                  .dead)
                                 .dead)
                                .dead)
                               .dead)
                              .dead)
                             .dead)
                            .dead)
                           .dead)
                          .dead)
                         .dead)
                        .dead)
                       (.ask (.cmp .leq fw12 (.c 7))
                        (.ask (.cmp .leq (.c (-10000000)) fw33)
                         (.ask (.cmp .leq fw33 fw43)
                          (.ask (.cmp .leq fw43 fw119)
                           (.ask (.cmp .leq fw119 fw128)
                            (.ask (.cmp .leq fw128 fw190)
                             (.ask (.cmp .leq fw190 fw199)
                              (.ask (.cmp .leq fw199 fw261)
                               (.ask (.cmp .leq fw261 fw270)
                                (.ask (.cmp .leq fw270 fw332)
                                 (.ask (.cmp .leq fw332 fw341)
                                  (.ask (.cmp .leq fw341 fw403)
                                   (.ask (.cmp .leq fw403 fw412)
                                    (.ask (.cmp .leq fw412 fw474)
                                     (.ask (.cmp .leq fw474 fw483)
                                      (.ask (.cmp .leq fw483 (.c 10000000))
                                       (.ask (.cmp .leq (.c (-10000000)) fw52)
                                        (.ask (.cmp .leq fw52 fw59)
                                         (.ask (.cmp .leq fw59 fw136)
                                          (.ask (.cmp .leq fw136 fw142)
                                           (.ask (.cmp .leq fw142 fw207)
                                            (.ask (.cmp .leq fw207 fw213)
                                             (.ask (.cmp .leq fw213 fw278)
                                              (.ask (.cmp .leq fw278 fw284)
                                               (.ask (.cmp .leq fw284 fw349)
                                                (.ask (.cmp .leq fw349 fw355)
                                                 (.ask (.cmp .leq fw355 fw420)
                                                  (.ask (.cmp .leq fw420 fw426)
                                                   (.ask (.cmp .leq fw426 fw491)
                                                    (.ask (.cmp .leq fw491 fw497)
                                                     (.ask (.cmp .leq fw497 (.c 10000000))
                                                      (.ask (.cmp .eql (.c 7) fw12)
                                                       (.ask (.cmp .eql fw8 (.c 0))
                                                        .dead
                                                        (.ask (.cmp .leq fw502 fw507)
                                                         (.ask (.cmp .leq (.c 0) fw508)
                                                          (.ask (.cmp .leq fw523 fw14)
                                                           (.ask (.cmp .leq fw16 fw537)
                                                            (.ask (.cmp .leq fw14 fw16)
                                                             (.ask (.cmp .leq fw111 (.c 4000))
                                                              (.leaf (.c true))
                                                              .dead)
                                                             (.ask (.cmp .leq fw111 (.c 4000))
                                                              (.leaf (.c true))
                                                              .dead))
                                                            .dead)
                                                           .dead)
                                                          .dead)
                                                         (.ask (.cmp .leq (.c 0) fw508)
                                                          .dead
                                                          (.ask (.cmp .leq fw523 fw14)
                                                           (.ask (.cmp .leq fw16 fw537)
                                                            (.ask (.cmp .leq fw14 fw16)
                                                             .dead
                                                             (.ask (.cmp .leq fw111 (.c 4000))
                                                              (.leaf (.c true))
                                                              (.leaf (.c true))))
                                                            .dead)
                                                           .dead))))
                                                       .dead)
                                                      .dead)
                                                     .dead)
                                                    .dead)
                                                   .dead)
                                                  .dead)
                                                 .dead)
                                                .dead)
                                               .dead)
                                              .dead)
                                             .dead)
                                            .dead)
                                           .dead)
                                          .dead)
                                         .dead)
                                        .dead)
                                       .dead)
                                      .dead)
                                     .dead)
                                    .dead)
                                   .dead)
                                  .dead)
                                 .dead)
                                .dead)
                               .dead)
                              .dead)
                             .dead)
                            .dead)
                           .dead)
                          .dead)
                         .dead)
                        (.ask (.cmp .leq fw12 (.c 8))
                         (.ask (.cmp .leq (.c (-10000000)) fw33)
                          (.ask (.cmp .leq fw33 fw43)
                           (.ask (.cmp .leq fw43 fw119)
                            (.ask (.cmp .leq fw119 fw128)
                             (.ask (.cmp .leq fw128 fw190)
                              (.ask (.cmp .leq fw190 fw199)
                               (.ask (.cmp .leq fw199 fw261)
                                (.ask (.cmp .leq fw261 fw270)
                                 (.ask (.cmp .leq fw270 fw332)
                                  (.ask (.cmp .leq fw332 fw341)
                                   (.ask (.cmp .leq fw341 fw403)
                                    (.ask (.cmp .leq fw403 fw412)
                                     (.ask (.cmp .leq fw412 fw474)
                                      (.ask (.cmp .leq fw474 fw483)
                                       (.ask (.cmp .leq fw483 fw545)
                                        (.ask (.cmp .leq fw545 fw554)
                                         (.ask (.cmp .leq fw554 (.c 10000000))
                                          (.ask (.cmp .leq (.c (-10000000)) fw52)
                                           (.ask (.cmp .leq fw52 fw59)
                                            (.ask (.cmp .leq fw59 fw136)
                                             (.ask (.cmp .leq fw136 fw142)
                                              (.ask (.cmp .leq fw142 fw207)
                                               (.ask (.cmp .leq fw207 fw213)
                                                (.ask (.cmp .leq fw213 fw278)
                                                 (.ask (.cmp .leq fw278 fw284)
                                                  (.ask (.cmp .leq fw284 fw349)
                                                   (.ask (.cmp .leq fw349 fw355)
                                                    (.ask (.cmp .leq fw355 fw420)
                                                     (.ask (.cmp .leq fw420 fw426)
                                                      (.ask (.cmp .leq fw426 fw491)
                                                       (.ask (.cmp .leq fw491 fw497)
                                                        (.ask (.cmp .leq fw497 fw562)
                                                         (.ask (.cmp .leq fw562 fw568)
                                                          (.ask (.cmp .leq fw568 (.c 10000000))
                                                           (.ask (.cmp .eql (.c 8) fw12)
                                                            (.ask (.cmp .eql fw8 (.c 0))
                                                             .dead
                                                             (.ask (.cmp .leq fw573 fw578)
                                                              (.ask (.cmp .leq (.c 0) fw579)
                                                               (.ask (.cmp .leq fw594 fw14)
                                                                (.ask (.cmp .leq fw16 fw608)
                                                                 (.ask (.cmp .leq fw14 fw16)
                                                                  (.ask (.cmp .leq fw111 (.c 4000))
                                                                   (.leaf (.c true))
                                                                   .dead)
                                                                  (.ask (.cmp .leq fw111 (.c 4000))
                                                                   (.leaf (.c true))
                                                                   .dead))
                                                                 .dead)
                                                                .dead)
                                                               .dead)
                                                              (.ask (.cmp .leq (.c 0) fw579)
                                                               .dead
                                                               (.ask (.cmp .leq fw594 fw14)
                                                                (.ask (.cmp .leq fw16 fw608)
                                                                 (.ask (.cmp .leq fw14 fw16)
                                                                  .dead
                                                                  (.ask (.cmp .leq fw111 (.c 4000))
                                                                   (.leaf (.c true))
                                                                   (.leaf (.c true))))
                                                                 .dead)
                                                                .dead))))
                                                            .dead)
                                                           .dead)
                                                          .dead)
                                                         .dead)
                                                        .dead)
                                                       .dead)
                                                      .dead)
                                                     .dead)
                                                    .dead)
                                                   .dead)
                                                  .dead)
                                                 .dead)
                                                .dead)
                                               .dead)
                                              .dead)
                                             .dead)
                                            .dead)
                                           .dead)
                                          .dead)
                                         .dead)
                                        .dead)
                                       .dead)
                                      .dead)
                                     .dead)
                                    .dead)
                                   .dead)
                                  .dead)
                                 .dead)
                                .dead)
                               .dead)
                              .dead)
                             .dead)
                            .dead)
                           .dead)
                          .dead)
                         .dead)))))))))
                .dead)
               .dead)
              .dead)
             .dead)
            .dead)
           .dead)
          .dead)
         .dead)
        .dead)
       .dead)
      .dead)
     .dead)
    .dead)
   .dead)
  .dead)
 .dead)
end Go.Proofs.Ytbgmkhcjghmncaa.Cx
