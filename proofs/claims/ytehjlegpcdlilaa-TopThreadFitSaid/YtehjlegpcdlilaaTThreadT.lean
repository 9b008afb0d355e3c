/- TopThreadFit: the tests of the law and their arithmetic. Made by tools/gen_tttg.py. -/
import Derived.Test.YtehjlegpcdlilaaCxS
set_option linter.unusedSimpArgs false
set_option linter.unusedVariables false
set_option maxRecDepth 100000
set_option maxHeartbeats 4000000
namespace Go.Proofs.Ytehjlegpcdlilaa.Cx
open Go Go.RowKit

def tt0 : IE := .bin .conv .i64 (.v 0) (.c 0)
def tt1 : IE := .bin .rem .i64 tt0 (.c 5000)
def tt2 : IE := .bin .add .i64 (.c 1000) tt1
def tt3 : IE := .bin .mul .i64 (.c 4) tt2
def tt4 : IE := .bin .conv .i64 (.v 1) (.c 0)
def tt5 : IE := .bin .rem .i64 tt4 (.c 900)
def tt6 : IE := .bin .add .i64 (.c 1) tt5
def tt7 : IE := .bin .conv .i64 (.v 2) (.c 0)
def tt8 : IE := .bin .rem .i64 tt7 (.c 900)
def tt9 : IE := .bin .add .i64 (.c 1) tt8
def tt10 : IE := .bin .rem .i64 tt0 (.c 3)
def tt11 : IE := .bin .add .i64 (.c 1) tt10
def tt12 : IE := .bin .add .i64 tt6 tt9
def tt13 : IE := .bin .mul .i64 (.c 900) tt12
def tt14 : IE := .bin .mul .i64 (.c 500) tt3
def tt15 : IE := .bin .conv .i64 (.v 5) (.c 0)
def tt16 : IE := .bin .rem .i64 tt15 (.c 900)
def tt17 : IE := .bin .add .i64 (.c 1) tt16
def tt18 : IE := .bin .conv .i64 (.v 6) (.c 0)
def tt19 : IE := .bin .rem .i64 tt18 (.c 900)
def tt20 : IE := .bin .add .i64 (.c 1) tt19
def tt21 : IE := .bin .add .i64 tt17 tt20
def tt22 : IE := .bin .mul .i64 (.c 900) tt21
def tt23 : IE := .bin .conv .i64 (.v 3) (.c 0)
def tt24 : IE := .bin .mul .i64 (.c 7) tt23
def tt25 : IE := .bin .conv .i64 (.v 4) (.c 0)
def tt26 : IE := .bin .mul .i64 (.c 7) tt25
def tt27 : IE := .bin .mn .i64 tt24 tt26
def tt28 : IE := .bin .mx .i64 tt24 tt26
def tt29 : IE := .bin .sub .i64 tt17 tt6
def tt30 : IE := .bin .mul .i64 tt27 tt29
def tt31 : IE := .bin .mul .i64 tt28 tt29
def tt32 : IE := .bin .mx .i64 tt30 tt31
def tt33 : IE := .bin .sub .i64 tt20 tt9
def tt34 : IE := .bin .mul .i64 tt27 tt33
def tt35 : IE := .bin .mul .i64 tt28 tt33
def tt36 : IE := .bin .mx .i64 tt34 tt35
def tt37 : IE := .bin .add .i64 tt32 tt36
def tt38 : IE := .bin .conv .i64 (.v 7) (.c 0)
def tt39 : IE := .bin .rem .i64 tt38 (.c 4)
def tt40 : IE := .bin .add .i64 (.c 1) tt39
def tt41 : IE := .bin .mul .i64 (.c 0) tt3
def tt42 : IE := .bin .quo .i64 tt3 (.c 4)
def tt43 : IE := .bin .sub .i64 tt41 tt42
def tt44 : IE := .bin .sub .i64 tt43 (.c 0)
def tt45 : IE := .bin .add .i64 tt41 tt42
def tt46 : IE := .bin .add .i64 tt45 (.c 0)
def tt47 : IE := .bin .mul .i64 (.c 1000) tt3
def tt48 : IE := .bin .mul .i64 tt47 (.c 0)
def tt49 : IE := .bin .mul .i64 (.c 250) tt3
def tt50 : IE := .bin .add .i64 tt48 tt49
def tt51 : IE := .bin .mul .i64 (.c 0) tt20
def tt52 : IE := .bin .add .i64 tt50 tt51
def tt53 : IE := .bin .mul .i64 (.c 1000) tt46
def tt54 : IE := .bin .sub .i64 tt52 tt53
def tt55 : IE := .bin .mn .i64 (.c 9223372036854775807) tt54
def tt56 : IE := .bin .sub .i64 tt55 tt36
def tt57 : IE := .bin .sub .i64 tt48 tt49
def tt58 : IE := .bin .mul .i64 (.c 0) tt17
def tt59 : IE := .bin .sub .i64 tt57 tt58
def tt60 : IE := .bin .mul .i64 (.c 1000) tt44
def tt61 : IE := .bin .sub .i64 tt59 tt60
def tt62 : IE := .bin .mx .i64 (.c (-9223372036854775808)) tt61
def tt63 : IE := .bin .add .i64 tt62 tt32
def tt64 : IE := .bin .sub .i64 tt56 tt63
def tt65 : IE := .bin .sub .i64 (.c 0) tt64
def tt66 : IE := .bin .rem .i64 tt65 tt21
def tt67 : IE := .bin .quo .i64 tt65 tt21
def tt68 : IE := .bin .mul .i64 (.c 0) tt6
def tt69 : IE := .bin .add .i64 tt68 (.c 999)
def tt70 : IE := .bin .quo .i64 tt69 (.c 1000)
def tt71 : IE := .bin .add .i64 tt44 tt70
def tt72 : IE := .bin .mul .i64 (.c 0) tt9
def tt73 : IE := .bin .add .i64 tt72 (.c 999)
def tt74 : IE := .bin .quo .i64 tt73 (.c 1000)
def tt75 : IE := .bin .sub .i64 tt46 tt74
def tt76 : IE := .bin .sub .i64 (.c 1) tt40
def tt77 : IE := .bin .mul .i64 (.c 1000) tt71
def tt78 : IE := .bin .sub .i64 tt60 tt77
def tt79 : IE := .bin .mx .i64 (.c (-9223372036854775808)) tt78
def tt80 : IE := .bin .add .i64 tt79 tt32
def tt81 : IE := .bin .mul .i64 (.c 1000) tt75
def tt82 : IE := .bin .sub .i64 tt53 tt81
def tt83 : IE := .bin .mn .i64 (.c 9223372036854775807) tt82
def tt84 : IE := .bin .sub .i64 tt83 tt36
def tt85 : IE := .bin .mul .i64 (.c 1) tt3
def tt86 : IE := .bin .sub .i64 tt85 tt42
def tt87 : IE := .bin .sub .i64 tt86 (.c 0)
def tt88 : IE := .bin .add .i64 tt85 tt42
def tt89 : IE := .bin .add .i64 tt88 (.c 0)
def tt90 : IE := .bin .mul .i64 tt47 (.c 1)
def tt91 : IE := .bin .add .i64 tt90 tt49
def tt92 : IE := .bin .add .i64 tt91 tt51
def tt93 : IE := .bin .mul .i64 (.c 1000) tt89
def tt94 : IE := .bin .sub .i64 tt92 tt93
def tt95 : IE := .bin .mn .i64 tt55 tt94
def tt96 : IE := .bin .sub .i64 tt95 tt36
def tt97 : IE := .bin .sub .i64 tt90 tt49
def tt98 : IE := .bin .sub .i64 tt97 tt58
def tt99 : IE := .bin .mul .i64 (.c 1000) tt87
def tt100 : IE := .bin .sub .i64 tt98 tt99
def tt101 : IE := .bin .mx .i64 tt62 tt100
def tt102 : IE := .bin .add .i64 tt101 tt32
def tt103 : IE := .bin .sub .i64 tt96 tt102
def tt104 : IE := .bin .sub .i64 (.c 0) tt103
def tt105 : IE := .bin .rem .i64 tt104 tt21
def tt106 : IE := .bin .quo .i64 tt104 tt21
def tt107 : IE := .bin .add .i64 tt87 tt70
def tt108 : IE := .bin .sub .i64 tt89 tt74
def tt109 : IE := .bin .sub .i64 (.c 2) tt40
def tt110 : IE := .bin .mul .i64 (.c 1000) tt107
def tt111 : IE := .bin .sub .i64 tt99 tt110
def tt112 : IE := .bin .mx .i64 tt79 tt111
def tt113 : IE := .bin .add .i64 tt112 tt32
def tt114 : IE := .bin .mul .i64 (.c 1000) tt108
def tt115 : IE := .bin .sub .i64 tt93 tt114
def tt116 : IE := .bin .mn .i64 tt83 tt115
def tt117 : IE := .bin .sub .i64 tt116 tt36
def tt118 : IE := .bin .mul .i64 (.c 2) tt3
def tt119 : IE := .bin .sub .i64 tt118 tt42
def tt120 : IE := .bin .sub .i64 tt119 (.c 0)
def tt121 : IE := .bin .add .i64 tt118 tt42
def tt122 : IE := .bin .add .i64 tt121 (.c 0)
def tt123 : IE := .bin .mul .i64 tt47 (.c 2)
def tt124 : IE := .bin .add .i64 tt123 tt49
def tt125 : IE := .bin .add .i64 tt124 tt51
def tt126 : IE := .bin .mul .i64 (.c 1000) tt122
def tt127 : IE := .bin .sub .i64 tt125 tt126
def tt128 : IE := .bin .mn .i64 tt95 tt127
def tt129 : IE := .bin .sub .i64 tt128 tt36
def tt130 : IE := .bin .sub .i64 tt123 tt49
def tt131 : IE := .bin .sub .i64 tt130 tt58
def tt132 : IE := .bin .mul .i64 (.c 1000) tt120
def tt133 : IE := .bin .sub .i64 tt131 tt132
def tt134 : IE := .bin .mx .i64 tt101 tt133
def tt135 : IE := .bin .add .i64 tt134 tt32
def tt136 : IE := .bin .sub .i64 tt129 tt135
def tt137 : IE := .bin .sub .i64 (.c 0) tt136
def tt138 : IE := .bin .rem .i64 tt137 tt21
def tt139 : IE := .bin .quo .i64 tt137 tt21
def tt140 : IE := .bin .add .i64 tt120 tt70
def tt141 : IE := .bin .sub .i64 tt122 tt74
def tt142 : IE := .bin .sub .i64 (.c 3) tt40
def tt143 : IE := .bin .mul .i64 (.c 1000) tt140
def tt144 : IE := .bin .sub .i64 tt132 tt143
def tt145 : IE := .bin .mx .i64 tt112 tt144
def tt146 : IE := .bin .add .i64 tt145 tt32
def tt147 : IE := .bin .mul .i64 (.c 1000) tt141
def tt148 : IE := .bin .sub .i64 tt126 tt147
def tt149 : IE := .bin .mn .i64 tt116 tt148
def tt150 : IE := .bin .sub .i64 tt149 tt36
def tt151 : IE := .bin .mul .i64 (.c 3) tt3
def tt152 : IE := .bin .sub .i64 tt151 tt42
def tt153 : IE := .bin .sub .i64 tt152 (.c 0)
def tt154 : IE := .bin .add .i64 tt151 tt42
def tt155 : IE := .bin .add .i64 tt154 (.c 0)
def tt156 : IE := .bin .mul .i64 tt47 (.c 3)
def tt157 : IE := .bin .add .i64 tt156 tt49
def tt158 : IE := .bin .add .i64 tt157 tt51
def tt159 : IE := .bin .mul .i64 (.c 1000) tt155
def tt160 : IE := .bin .sub .i64 tt158 tt159
def tt161 : IE := .bin .mn .i64 tt128 tt160
def tt162 : IE := .bin .sub .i64 tt161 tt36
def tt163 : IE := .bin .sub .i64 tt156 tt49
def tt164 : IE := .bin .sub .i64 tt163 tt58
def tt165 : IE := .bin .mul .i64 (.c 1000) tt153
def tt166 : IE := .bin .sub .i64 tt164 tt165
def tt167 : IE := .bin .mx .i64 tt134 tt166
def tt168 : IE := .bin .add .i64 tt167 tt32
def tt169 : IE := .bin .sub .i64 tt162 tt168
def tt170 : IE := .bin .sub .i64 (.c 0) tt169
def tt171 : IE := .bin .rem .i64 tt170 tt21
def tt172 : IE := .bin .quo .i64 tt170 tt21
def tt173 : IE := .bin .add .i64 tt153 tt70
def tt174 : IE := .bin .sub .i64 tt155 tt74
def tt175 : IE := .bin .sub .i64 (.c 4) tt40
def tt176 : IE := .bin .mul .i64 (.c 1000) tt173
def tt177 : IE := .bin .sub .i64 tt165 tt176
def tt178 : IE := .bin .mx .i64 tt145 tt177
def tt179 : IE := .bin .add .i64 tt178 tt32
def tt180 : IE := .bin .mul .i64 (.c 1000) tt174
def tt181 : IE := .bin .sub .i64 tt159 tt180
def tt182 : IE := .bin .mn .i64 tt149 tt181
def tt183 : IE := .bin .sub .i64 tt182 tt36
def tt184 : IE := .bin .rem .i64 tt37 tt12
def tt185 : IE := .bin .quo .i64 tt37 tt12
def tt186 : IE := .bin .mul .i64 tt185 tt6
def tt187 : IE := .bin .add .i64 tt186 (.c 999)
def tt188 : IE := .bin .quo .i64 tt187 (.c 1000)
def tt189 : IE := .bin .add .i64 tt44 tt188
def tt190 : IE := .bin .mul .i64 tt185 tt9
def tt191 : IE := .bin .add .i64 tt190 (.c 999)
def tt192 : IE := .bin .quo .i64 tt191 (.c 1000)
def tt193 : IE := .bin .sub .i64 tt46 tt192
def tt194 : IE := .bin .mul .i64 (.c 1000) tt189
def tt195 : IE := .bin .sub .i64 tt60 tt194
def tt196 : IE := .bin .mx .i64 (.c (-9223372036854775808)) tt195
def tt197 : IE := .bin .add .i64 tt196 tt32
def tt198 : IE := .bin .mul .i64 (.c 1000) tt193
def tt199 : IE := .bin .sub .i64 tt53 tt198
def tt200 : IE := .bin .mn .i64 (.c 9223372036854775807) tt199
def tt201 : IE := .bin .sub .i64 tt200 tt36
def tt202 : IE := .bin .add .i64 tt67 (.c 1)
def tt203 : IE := .bin .add .i64 tt87 tt188
def tt204 : IE := .bin .sub .i64 tt89 tt192
def tt205 : IE := .bin .mul .i64 (.c 1000) tt203
def tt206 : IE := .bin .sub .i64 tt99 tt205
def tt207 : IE := .bin .mx .i64 tt196 tt206
def tt208 : IE := .bin .add .i64 tt207 tt32
def tt209 : IE := .bin .mul .i64 (.c 1000) tt204
def tt210 : IE := .bin .sub .i64 tt93 tt209
def tt211 : IE := .bin .mn .i64 tt200 tt210
def tt212 : IE := .bin .sub .i64 tt211 tt36
def tt213 : IE := .bin .add .i64 tt106 (.c 1)
def tt214 : IE := .bin .add .i64 tt120 tt188
def tt215 : IE := .bin .sub .i64 tt122 tt192
def tt216 : IE := .bin .mul .i64 (.c 1000) tt214
def tt217 : IE := .bin .sub .i64 tt132 tt216
def tt218 : IE := .bin .mx .i64 tt207 tt217
def tt219 : IE := .bin .add .i64 tt218 tt32
def tt220 : IE := .bin .mul .i64 (.c 1000) tt215
def tt221 : IE := .bin .sub .i64 tt126 tt220
def tt222 : IE := .bin .mn .i64 tt211 tt221
def tt223 : IE := .bin .sub .i64 tt222 tt36
def tt224 : IE := .bin .add .i64 tt139 (.c 1)
def tt225 : IE := .bin .add .i64 tt153 tt188
def tt226 : IE := .bin .sub .i64 tt155 tt192
def tt227 : IE := .bin .mul .i64 (.c 1000) tt225
def tt228 : IE := .bin .sub .i64 tt165 tt227
def tt229 : IE := .bin .mx .i64 tt218 tt228
def tt230 : IE := .bin .add .i64 tt229 tt32
def tt231 : IE := .bin .mul .i64 (.c 1000) tt226
def tt232 : IE := .bin .sub .i64 tt159 tt231
def tt233 : IE := .bin .mn .i64 tt222 tt232
def tt234 : IE := .bin .sub .i64 tt233 tt36
def tt235 : IE := .bin .add .i64 tt172 (.c 1)
def tt236 : IE := .bin .add .i64 tt185 (.c 1)
def tt237 : IE := .bin .mul .i64 tt236 tt6
def tt238 : IE := .bin .add .i64 tt237 (.c 999)
def tt239 : IE := .bin .quo .i64 tt238 (.c 1000)
def tt240 : IE := .bin .add .i64 tt44 tt239
def tt241 : IE := .bin .mul .i64 tt236 tt9
def tt242 : IE := .bin .add .i64 tt241 (.c 999)
def tt243 : IE := .bin .quo .i64 tt242 (.c 1000)
def tt244 : IE := .bin .sub .i64 tt46 tt243
def tt245 : IE := .bin .mul .i64 (.c 1000) tt240
def tt246 : IE := .bin .sub .i64 tt60 tt245
def tt247 : IE := .bin .mx .i64 (.c (-9223372036854775808)) tt246
def tt248 : IE := .bin .add .i64 tt247 tt32
def tt249 : IE := .bin .mul .i64 (.c 1000) tt244
def tt250 : IE := .bin .sub .i64 tt53 tt249
def tt251 : IE := .bin .mn .i64 (.c 9223372036854775807) tt250
def tt252 : IE := .bin .sub .i64 tt251 tt36
def tt253 : IE := .bin .add .i64 tt87 tt239
def tt254 : IE := .bin .sub .i64 tt89 tt243
def tt255 : IE := .bin .mul .i64 (.c 1000) tt253
def tt256 : IE := .bin .sub .i64 tt99 tt255
def tt257 : IE := .bin .mx .i64 tt247 tt256
def tt258 : IE := .bin .add .i64 tt257 tt32
def tt259 : IE := .bin .mul .i64 (.c 1000) tt254
def tt260 : IE := .bin .sub .i64 tt93 tt259
def tt261 : IE := .bin .mn .i64 tt251 tt260
def tt262 : IE := .bin .sub .i64 tt261 tt36
def tt263 : IE := .bin .add .i64 tt120 tt239
def tt264 : IE := .bin .sub .i64 tt122 tt243
def tt265 : IE := .bin .mul .i64 (.c 1000) tt263
def tt266 : IE := .bin .sub .i64 tt132 tt265
def tt267 : IE := .bin .mx .i64 tt257 tt266
def tt268 : IE := .bin .add .i64 tt267 tt32
def tt269 : IE := .bin .mul .i64 (.c 1000) tt264
def tt270 : IE := .bin .sub .i64 tt126 tt269
def tt271 : IE := .bin .mn .i64 tt261 tt270
def tt272 : IE := .bin .sub .i64 tt271 tt36
def tt273 : IE := .bin .add .i64 tt153 tt239
def tt274 : IE := .bin .sub .i64 tt155 tt243
def tt275 : IE := .bin .mul .i64 (.c 1000) tt273
def tt276 : IE := .bin .sub .i64 tt165 tt275
def tt277 : IE := .bin .mx .i64 tt267 tt276
def tt278 : IE := .bin .add .i64 tt277 tt32
def tt279 : IE := .bin .mul .i64 (.c 1000) tt274
def tt280 : IE := .bin .sub .i64 tt159 tt279
def tt281 : IE := .bin .mn .i64 tt271 tt280
def tt282 : IE := .bin .sub .i64 tt281 tt36
def ttTree : DT :=
(.ask (.cmp .leq (.c 100) tt3)
 (.ask (.cmp .leq tt3 (.c 200000))
  (.ask (.cmp .leq (.c 0) tt6)
   (.ask (.cmp .leq tt6 (.c 3000))
    (.ask (.cmp .leq (.c 0) tt9)
     (.ask (.cmp .leq tt9 (.c 3000))
      (.ask (.cmp .leq (.c 1) tt11)
       (.ask (.cmp .leq tt11 (.c 8))
        (.ask (.cmp .leq tt13 tt14)
         (.ask (.cmp .leq (.c 0) tt17)
          (.ask (.cmp .leq tt17 (.c 3000))
           (.ask (.cmp .leq (.c 0) tt20)
            (.ask (.cmp .leq tt20 (.c 3000))
             (.ask (.cmp .leq tt22 tt14)
              (.ask (.cmp .leq (.c (-200000)) tt27)
               (.ask (.cmp .leq tt27 tt28)
                (.ask (.cmp .leq tt28 (.c 200000))
                 (.ask (.cmp .leq tt37 (.c 0))
                  (.ask (.cmp .leq tt40 (.c 0))
                   .dead
                   (.ask (.cmp .leq tt40 (.c 1))
                    (.ask (.cmp .leq (.c (-10000000)) tt44)
                     (.ask (.cmp .leq tt44 tt46)
                      (.ask (.cmp .leq tt46 (.c 10000000))
                       (.ask (.cmp .eql tt21 (.c 0))
                        .dead
                        (.ask (.cmp .leq tt66 (.c 0))
                         (.ask (.cmp .leq tt67 (.c 0))
                          (.ask (.cmp .leq tt71 tt75)
                           (.ask (.cmp .leq (.c (-10000000)) tt71)
                            (.ask (.cmp .leq tt75 (.c 10000000))
                             (.ask (.cmp .leq (.c 1) tt40)
                              (.ask (.cmp .leq (.c 0) tt76)
                               (.ask (.cmp .leq tt80 tt84)
                                (.leaf (.c true))
                                .dead)
                               .dead)
                              .dead)
                             .dead)
                            .dead)
                           .dead)
                          .dead)
                         .dead))
                       .dead)
                      .dead)
                     .dead)
                    (.ask (.cmp .leq tt40 (.c 2))
                     (.ask (.cmp .leq (.c (-10000000)) tt44)
                      (.ask (.cmp .leq tt44 tt46)
                       (.ask (.cmp .leq tt46 tt87)
                        (.ask (.cmp .leq tt87 tt89)
                         (.ask (.cmp .leq tt89 (.c 10000000))
                          (.ask (.cmp .eql tt21 (.c 0))
                           .dead
                           (.ask (.cmp .leq tt105 (.c 0))
                            (.ask (.cmp .leq tt106 (.c 0))
                             (.ask (.cmp .leq tt71 tt75)
                              (.ask (.cmp .leq tt107 tt108)
                               (.ask (.cmp .leq (.c (-10000000)) tt71)
                                (.ask (.cmp .leq tt75 tt107)
                                 (.ask (.cmp .leq tt108 (.c 10000000))
                                  (.ask (.cmp .leq (.c 1) tt40)
                                   (.ask (.cmp .leq (.c 0) tt109)
                                    (.ask (.cmp .leq tt113 tt117)
                                     (.leaf (.c true))
                                     .dead)
                                    .dead)
                                   .dead)
                                  .dead)
                                 .dead)
                                .dead)
                               .dead)
                              .dead)
                             .dead)
                            .dead))
                          .dead)
                         .dead)
                        .dead)
                       .dead)
                      .dead)
                     (.ask (.cmp .leq tt40 (.c 3))
                      (.ask (.cmp .leq (.c (-10000000)) tt44)
                       (.ask (.cmp .leq tt44 tt46)
                        (.ask (.cmp .leq tt46 tt87)
                         (.ask (.cmp .leq tt87 tt89)
                          (.ask (.cmp .leq tt89 tt120)
                           (.ask (.cmp .leq tt120 tt122)
                            (.ask (.cmp .leq tt122 (.c 10000000))
                             (.ask (.cmp .eql tt21 (.c 0))
                              .dead
                              (.ask (.cmp .leq tt138 (.c 0))
                               (.ask (.cmp .leq tt139 (.c 0))
                                (.ask (.cmp .leq tt71 tt75)
                                 (.ask (.cmp .leq tt107 tt108)
                                  (.ask (.cmp .leq tt140 tt141)
                                   (.ask (.cmp .leq (.c (-10000000)) tt71)
                                    (.ask (.cmp .leq tt75 tt107)
                                     (.ask (.cmp .leq tt108 tt140)
                                      (.ask (.cmp .leq tt141 (.c 10000000))
                                       (.ask (.cmp .leq (.c 1) tt40)
                                        (.ask (.cmp .leq (.c 0) tt142)
                                         (.ask (.cmp .leq tt146 tt150)
                                          (.leaf (.c true))
                                          .dead)
                                         .dead)
                                        .dead)
                                       .dead)
                                      .dead)
                                     .dead)
                                    .dead)
                                   .dead)
                                  .dead)
                                 .dead)
                                .dead)
                               .dead))
                             .dead)
                            .dead)
                           .dead)
                          .dead)
                         .dead)
                        .dead)
                       .dead)
                      (.ask (.cmp .leq tt40 (.c 4))
                       (.ask (.cmp .leq (.c (-10000000)) tt44)
                        (.ask (.cmp .leq tt44 tt46)
                         (.ask (.cmp .leq tt46 tt87)
                          (.ask (.cmp .leq tt87 tt89)
                           (.ask (.cmp .leq tt89 tt120)
                            (.ask (.cmp .leq tt120 tt122)
                             (.ask (.cmp .leq tt122 tt153)
                              (.ask (.cmp .leq tt153 tt155)
                               (.ask (.cmp .leq tt155 (.c 10000000))
                                (.ask (.cmp .eql tt21 (.c 0))
                                 .dead
                                 (.ask (.cmp .leq tt171 (.c 0))
                                  (.ask (.cmp .leq tt172 (.c 0))
                                   (.ask (.cmp .leq tt71 tt75)
                                    (.ask (.cmp .leq tt107 tt108)
                                     (.ask (.cmp .leq tt140 tt141)
                                      (.ask (.cmp .leq tt173 tt174)
                                       (.ask (.cmp .leq (.c (-10000000)) tt71)
                                        (.ask (.cmp .leq tt75 tt107)
                                         (.ask (.cmp .leq tt108 tt140)
                                          (.ask (.cmp .leq tt141 tt173)
                                           (.ask (.cmp .leq tt174 (.c 10000000))
                                            (.ask (.cmp .leq (.c 1) tt40)
                                             (.ask (.cmp .leq (.c 0) tt175)
                                              (.ask (.cmp .leq tt179 tt183)
                                               (.leaf (.c true))
                                               .dead)
                                              .dead)
                                             .dead)
                                            .dead)
                                           .dead)
                                          .dead)
                                         .dead)
                                        .dead)
                                       .dead)
                                      .dead)
                                     .dead)
                                    .dead)
                                   .dead)
                                  .dead))
                                .dead)
                               .dead)
                              .dead)
                             .dead)
                            .dead)
                           .dead)
                          .dead)
                         .dead)
                        .dead)
                       .dead)))))
                  (.ask (.cmp .eql tt12 (.c 0))
                   .dead
                   (.ask (.cmp .leq tt184 (.c 0))
                    (.ask (.cmp .leq tt40 (.c 0))
                     .dead
                     (.ask (.cmp .leq tt40 (.c 1))
                      (.ask (.cmp .leq (.c (-10000000)) tt44)
                       (.ask (.cmp .leq tt44 tt46)
                        (.ask (.cmp .leq tt46 (.c 10000000))
                         (.ask (.cmp .eql tt21 (.c 0))
                          .dead
                          (.ask (.cmp .leq tt66 (.c 0))
                           (.ask (.cmp .leq (.c 0) tt185)
                            (.ask (.cmp .eql tt185 (.c 0))
                             .dead
                             (.ask (.cmp .leq tt67 (.c 0))
                              .dead
                              (.ask (.cmp .leq tt189 tt193)
                               (.ask (.cmp .leq (.c (-10000000)) tt189)
                                (.ask (.cmp .leq tt193 (.c 10000000))
                                 (.ask (.cmp .leq (.c 1) tt40)
                                  (.ask (.cmp .leq (.c 0) tt76)
                                   (.ask (.cmp .leq tt197 tt201)
                                    (.leaf (.c true))
                                    .dead)
                                   .dead)
                                  .dead)
                                 .dead)
                                .dead)
                               .dead)))
                            .dead)
                           (.ask (.cmp .leq (.c 0) tt185)
                            (.ask (.cmp .eql tt185 (.c 0))
                             .dead
                             (.ask (.cmp .leq tt202 (.c 0))
                              .dead
                              (.ask (.cmp .leq tt189 tt193)
                               (.ask (.cmp .leq (.c (-10000000)) tt189)
                                (.ask (.cmp .leq tt193 (.c 10000000))
                                 (.ask (.cmp .leq (.c 1) tt40)
                                  (.ask (.cmp .leq (.c 0) tt76)
                                   (.ask (.cmp .leq tt197 tt201)
                                    (.leaf (.c true))
                                    .dead)
                                   .dead)
                                  .dead)
                                 .dead)
                                .dead)
                               .dead)))
                            .dead)))
                         .dead)
                        .dead)
                       .dead)
                      (.ask (.cmp .leq tt40 (.c 2))
                       (.ask (.cmp .leq (.c (-10000000)) tt44)
                        (.ask (.cmp .leq tt44 tt46)
                         (.ask (.cmp .leq tt46 tt87)
                          (.ask (.cmp .leq tt87 tt89)
                           (.ask (.cmp .leq tt89 (.c 10000000))
                            (.ask (.cmp .eql tt21 (.c 0))
                             .dead
                             (.ask (.cmp .leq tt105 (.c 0))
                              (.ask (.cmp .leq (.c 0) tt185)
                               (.ask (.cmp .eql tt185 (.c 0))
                                .dead
                                (.ask (.cmp .leq tt106 (.c 0))
                                 .dead
                                 (.ask (.cmp .leq tt189 tt193)
                                  (.ask (.cmp .leq tt203 tt204)
                                   (.ask (.cmp .leq (.c (-10000000)) tt189)
                                    (.ask (.cmp .leq tt193 tt203)
                                     (.ask (.cmp .leq tt204 (.c 10000000))
                                      (.ask (.cmp .leq (.c 1) tt40)
                                       (.ask (.cmp .leq (.c 0) tt109)
                                        (.ask (.cmp .leq tt208 tt212)
                                         (.leaf (.c true))
                                         .dead)
                                        .dead)
                                       .dead)
                                      .dead)
                                     .dead)
                                    .dead)
                                   .dead)
                                  .dead)))
                               .dead)
                              (.ask (.cmp .leq (.c 0) tt185)
                               (.ask (.cmp .eql tt185 (.c 0))
                                .dead
                                (.ask (.cmp .leq tt213 (.c 0))
                                 .dead
                                 (.ask (.cmp .leq tt189 tt193)
                                  (.ask (.cmp .leq tt203 tt204)
                                   (.ask (.cmp .leq (.c (-10000000)) tt189)
                                    (.ask (.cmp .leq tt193 tt203)
                                     (.ask (.cmp .leq tt204 (.c 10000000))
                                      (.ask (.cmp .leq (.c 1) tt40)
                                       (.ask (.cmp .leq (.c 0) tt109)
                                        (.ask (.cmp .leq tt208 tt212)
                                         (.leaf (.c true))
                                         .dead)
                                        .dead)
                                       .dead)
                                      .dead)
                                     .dead)
                                    .dead)
                                   .dead)
                                  .dead)))
                               .dead)))
                            .dead)
                           .dead)
                          .dead)
                         .dead)
                        .dead)
                       (.ask (.cmp .leq tt40 (.c 3))
                        (.ask (.cmp .leq (.c (-10000000)) tt44)
                         (.ask (.cmp .leq tt44 tt46)
                          (.ask (.cmp .leq tt46 tt87)
                           (.ask (.cmp .leq tt87 tt89)
                            (.ask (.cmp .leq tt89 tt120)
                             (.ask (.cmp .leq tt120 tt122)
                              (.ask (.cmp .leq tt122 (.c 10000000))
                               (.ask (.cmp .eql tt21 (.c 0))
                                .dead
                                (.ask (.cmp .leq tt138 (.c 0))
                                 (.ask (.cmp .leq (.c 0) tt185)
                                  (.ask (.cmp .eql tt185 (.c 0))
                                   .dead
                                   (.ask (.cmp .leq tt139 (.c 0))
                                    .dead
                                    (.ask (.cmp .leq tt189 tt193)
                                     (.ask (.cmp .leq tt203 tt204)
                                      (.ask (.cmp .leq tt214 tt215)
                                       (.ask (.cmp .leq (.c (-10000000)) tt189)
                                        (.ask (.cmp .leq tt193 tt203)
                                         (.ask (.cmp .leq tt204 tt214)
                                          (.ask (.cmp .leq tt215 (.c 10000000))
                                           (.ask (.cmp .leq (.c 1) tt40)
                                            (.ask (.cmp .leq (.c 0) tt142)
                                             (.ask (.cmp .leq tt219 tt223)
                                              (.leaf (.c true))
                                              .dead)
                                             .dead)
                                            .dead)
                                           .dead)
                                          .dead)
                                         .dead)
                                        .dead)
                                       .dead)
                                      .dead)
                                     .dead)))
                                  .dead)
                                 (.ask (.cmp .leq (.c 0) tt185)
                                  (.ask (.cmp .eql tt185 (.c 0))
                                   .dead
                                   (.ask (.cmp .leq tt224 (.c 0))
                                    .dead
                                    (.ask (.cmp .leq tt189 tt193)
                                     (.ask (.cmp .leq tt203 tt204)
                                      (.ask (.cmp .leq tt214 tt215)
                                       (.ask (.cmp .leq (.c (-10000000)) tt189)
                                        (.ask (.cmp .leq tt193 tt203)
                                         (.ask (.cmp .leq tt204 tt214)
                                          (.ask (.cmp .leq tt215 (.c 10000000))
                                           (.ask (.cmp .leq (.c 1) tt40)
                                            (.ask (.cmp .leq (.c 0) tt142)
                                             (.ask (.cmp .leq tt219 tt223)
                                              (.leaf (.c true))
                                              .dead)
                                             .dead)
                                            .dead)
                                           .dead)
                                          .dead)
                                         .dead)
                                        .dead)
                                       .dead)
                                      .dead)
                                     .dead)))
                                  .dead)))
                               .dead)
                              .dead)
                             .dead)
                            .dead)
                           .dead)
                          .dead)
                         .dead)
                        (.ask (.cmp .leq tt40 (.c 4))
                         (.ask (.cmp .leq (.c (-10000000)) tt44)
                          (.ask (.cmp .leq tt44 tt46)
                           (.ask (.cmp .leq tt46 tt87)
                            (.ask (.cmp .leq tt87 tt89)
                             (.ask (.cmp .leq tt89 tt120)
                              (.ask (.cmp .leq tt120 tt122)
                               (.ask (.cmp .leq tt122 tt153)
                                (.ask (.cmp .leq tt153 tt155)
                                 (.ask (.cmp .leq tt155 (.c 10000000))
                                  (.ask (.cmp .eql tt21 (.c 0))
                                   .dead
                                   (.ask (.cmp .leq tt171 (.c 0))
                                    (.ask (.cmp .leq (.c 0) tt185)
                                     (.ask (.cmp .eql tt185 (.c 0))
                                      .dead
                                      (.ask (.cmp .leq tt172 (.c 0))
                                       .dead
                                       (.ask (.cmp .leq tt189 tt193)
                                        (.ask (.cmp .leq tt203 tt204)
                                         (.ask (.cmp .leq tt214 tt215)
                                          (.ask (.cmp .leq tt225 tt226)
                                           (.ask (.cmp .leq (.c (-10000000)) tt189)
                                            (.ask (.cmp .leq tt193 tt203)
                                             (.ask (.cmp .leq tt204 tt214)
                                              (.ask (.cmp .leq tt215 tt225)
                                               (.ask (.cmp .leq tt226 (.c 10000000))
                                                (.ask (.cmp .leq (.c 1) tt40)
                                                 (.ask (.cmp .leq (.c 0) tt175)
                                                  (.ask (.cmp .leq tt230 tt234)
                                                   (.leaf (.c true))
                                                   .dead)
                                                  .dead)
                                                 .dead)
                                                .dead)
                                               .dead)
                                              .dead)
                                             .dead)
                                            .dead)
                                           .dead)
                                          .dead)
                                         .dead)
                                        .dead)))
                                     .dead)
                                    (.ask (.cmp .leq (.c 0) tt185)
                                     (.ask (.cmp .eql tt185 (.c 0))
                                      .dead
                                      (.ask (.cmp .leq tt235 (.c 0))
                                       .dead
                                       (.ask (.cmp .leq tt189 tt193)
                                        (.ask (.cmp .leq tt203 tt204)
                                         (.ask (.cmp .leq tt214 tt215)
                                          (.ask (.cmp .leq tt225 tt226)
                                           (.ask (.cmp .leq (.c (-10000000)) tt189)
                                            (.ask (.cmp .leq tt193 tt203)
                                             (.ask (.cmp .leq tt204 tt214)
                                              (.ask (.cmp .leq tt215 tt225)
                                               (.ask (.cmp .leq tt226 (.c 10000000))
                                                (.ask (.cmp .leq (.c 1) tt40)
                                                 (.ask (.cmp .leq (.c 0) tt175)
                                                  (.ask (.cmp .leq tt230 tt234)
                                                   (.leaf (.c true))
                                                   .dead)
                                                  .dead)
                                                 .dead)
                                                .dead)
                                               .dead)
                                              .dead)
                                             .dead)
                                            .dead)
                                           .dead)
                                          .dead)
                                         .dead)
                                        .dead)))
                                     .dead)))
                                  .dead)
                                 .dead)
                                .dead)
                               .dead)
                              .dead)
                             .dead)
                            .dead)
                           .dead)
                          .dead)
                         .dead)))))
                    (.ask (.cmp .leq tt40 (.c 0))
                     .dead
                     (.ask (.cmp .leq tt40 (.c 1))
                      (.ask (.cmp .leq (.c (-10000000)) tt44)
                       (.ask (.cmp .leq tt44 tt46)
                        (.ask (.cmp .leq tt46 (.c 10000000))
                         (.ask (.cmp .eql tt21 (.c 0))
                          .dead
                          (.ask (.cmp .leq tt66 (.c 0))
                           (.ask (.cmp .leq (.c 0) tt236)
                            (.ask (.cmp .eql tt236 (.c 0))
                             .dead
                             (.ask (.cmp .leq tt67 (.c 0))
                              .dead
                              (.ask (.cmp .leq tt240 tt244)
                               (.ask (.cmp .leq (.c (-10000000)) tt240)
                                (.ask (.cmp .leq tt244 (.c 10000000))
                                 (.ask (.cmp .leq (.c 1) tt40)
                                  (.ask (.cmp .leq (.c 0) tt76)
                                   (.ask (.cmp .leq tt248 tt252)
                                    (.leaf (.c true))
                                    .dead)
                                   .dead)
                                  .dead)
                                 .dead)
                                .dead)
                               .dead)))
                            .dead)
                           (.ask (.cmp .leq (.c 0) tt236)
                            (.ask (.cmp .eql tt236 (.c 0))
                             .dead
                             (.ask (.cmp .leq tt202 (.c 0))
                              .dead
                              (.ask (.cmp .leq tt240 tt244)
                               (.ask (.cmp .leq (.c (-10000000)) tt240)
                                (.ask (.cmp .leq tt244 (.c 10000000))
                                 (.ask (.cmp .leq (.c 1) tt40)
                                  (.ask (.cmp .leq (.c 0) tt76)
                                   (.ask (.cmp .leq tt248 tt252)
                                    (.leaf (.c true))
                                    .dead)
                                   .dead)
                                  .dead)
                                 .dead)
                                .dead)
                               .dead)))
                            .dead)))
                         .dead)
                        .dead)
                       .dead)
                      (.ask (.cmp .leq tt40 (.c 2))
                       (.ask (.cmp .leq (.c (-10000000)) tt44)
                        (.ask (.cmp .leq tt44 tt46)
                         (.ask (.cmp .leq tt46 tt87)
                          (.ask (.cmp .leq tt87 tt89)
                           (.ask (.cmp .leq tt89 (.c 10000000))
                            (.ask (.cmp .eql tt21 (.c 0))
                             .dead
                             (.ask (.cmp .leq tt105 (.c 0))
                              (.ask (.cmp .leq (.c 0) tt236)
                               (.ask (.cmp .eql tt236 (.c 0))
                                .dead
                                (.ask (.cmp .leq tt106 (.c 0))
                                 .dead
                                 (.ask (.cmp .leq tt240 tt244)
                                  (.ask (.cmp .leq tt253 tt254)
                                   (.ask (.cmp .leq (.c (-10000000)) tt240)
                                    (.ask (.cmp .leq tt244 tt253)
                                     (.ask (.cmp .leq tt254 (.c 10000000))
                                      (.ask (.cmp .leq (.c 1) tt40)
                                       (.ask (.cmp .leq (.c 0) tt109)
                                        (.ask (.cmp .leq tt258 tt262)
                                         (.leaf (.c true))
                                         .dead)
                                        .dead)
                                       .dead)
                                      .dead)
                                     .dead)
                                    .dead)
                                   .dead)
                                  .dead)))
                               .dead)
                              (.ask (.cmp .leq (.c 0) tt236)
                               (.ask (.cmp .eql tt236 (.c 0))
                                .dead
                                (.ask (.cmp .leq tt213 (.c 0))
                                 .dead
                                 (.ask (.cmp .leq tt240 tt244)
                                  (.ask (.cmp .leq tt253 tt254)
                                   (.ask (.cmp .leq (.c (-10000000)) tt240)
                                    (.ask (.cmp .leq tt244 tt253)
                                     (.ask (.cmp .leq tt254 (.c 10000000))
                                      (.ask (.cmp .leq (.c 1) tt40)
                                       (.ask (.cmp .leq (.c 0) tt109)
                                        (.ask (.cmp .leq tt258 tt262)
                                         (.leaf (.c true))
                                         .dead)
                                        .dead)
                                       .dead)
                                      .dead)
                                     .dead)
                                    .dead)
                                   .dead)
                                  .dead)))
                               .dead)))
                            .dead)
                           .dead)
                          .dead)
                         .dead)
                        .dead)
                       (.ask (.cmp .leq tt40 (.c 3))
                        (.ask (.cmp .leq (.c (-10000000)) tt44)
                         (.ask (.cmp .leq tt44 tt46)
                          (.ask (.cmp .leq tt46 tt87)
                           (.ask (.cmp .leq tt87 tt89)
                            (.ask (.cmp .leq tt89 tt120)
                             (.ask (.cmp .leq tt120 tt122)
                              (.ask (.cmp .leq tt122 (.c 10000000))
                               (.ask (.cmp .eql tt21 (.c 0))
                                .dead
                                (.ask (.cmp .leq tt138 (.c 0))
                                 (.ask (.cmp .leq (.c 0) tt236)
                                  (.ask (.cmp .eql tt236 (.c 0))
                                   .dead
                                   (.ask (.cmp .leq tt139 (.c 0))
                                    .dead
                                    (.ask (.cmp .leq tt240 tt244)
                                     (.ask (.cmp .leq tt253 tt254)
                                      (.ask (.cmp .leq tt263 tt264)
                                       (.ask (.cmp .leq (.c (-10000000)) tt240)
                                        (.ask (.cmp .leq tt244 tt253)
                                         (.ask (.cmp .leq tt254 tt263)
                                          (.ask (.cmp .leq tt264 (.c 10000000))
                                           (.ask (.cmp .leq (.c 1) tt40)
                                            (.ask (.cmp .leq (.c 0) tt142)
                                             (.ask (.cmp .leq tt268 tt272)
                                              (.leaf (.c true))
                                              .dead)
                                             .dead)
                                            .dead)
                                           .dead)
                                          .dead)
                                         .dead)
                                        .dead)
                                       .dead)
                                      .dead)
                                     .dead)))
                                  .dead)
                                 (.ask (.cmp .leq (.c 0) tt236)
                                  (.ask (.cmp .eql tt236 (.c 0))
                                   .dead
                                   (.ask (.cmp .leq tt224 (.c 0))
                                    .dead
                                    (.ask (.cmp .leq tt240 tt244)
                                     (.ask (.cmp .leq tt253 tt254)
                                      (.ask (.cmp .leq tt263 tt264)
                                       (.ask (.cmp .leq (.c (-10000000)) tt240)
                                        (.ask (.cmp .leq tt244 tt253)
                                         (.ask (.cmp .leq tt254 tt263)
                                          (.ask (.cmp .leq tt264 (.c 10000000))
                                           (.ask (.cmp .leq (.c 1) tt40)
                                            (.ask (.cmp .leq (.c 0) tt142)
                                             (.ask (.cmp .leq tt268 tt272)
                                              (.leaf (.c true))
                                              .dead)
                                             .dead)
                                            .dead)
                                           .dead)
                                          .dead)
                                         .dead)
                                        .dead)
                                       .dead)
                                      .dead)
                                     .dead)))
                                  .dead)))
                               .dead)
                              .dead)
                             .dead)
                            .dead)
                           .dead)
                          .dead)
                         .dead)
                        (.ask (.cmp .leq tt40 (.c 4))
                         (.ask (.cmp .leq (.c (-10000000)) tt44)
                          (.ask (.cmp .leq tt44 tt46)
                           (.ask (.cmp .leq tt46 tt87)
                            (.ask (.cmp .leq tt87 tt89)
                             (.ask (.cmp .leq tt89 tt120)
                              (.ask (.cmp .leq tt120 tt122)
                               (.ask (.cmp .leq tt122 tt153)
                                (.ask (.cmp .leq tt153 tt155)
                                 (.ask (.cmp .leq tt155 (.c 10000000))
                                  (.ask (.cmp .eql tt21 (.c 0))
                                   .dead
                                   (.ask (.cmp .leq tt171 (.c 0))
                                    (.ask (.cmp .leq (.c 0) tt236)
                                     (.ask (.cmp .eql tt236 (.c 0))
                                      .dead
                                      (.ask (.cmp .leq tt172 (.c 0))
                                       .dead
                                       (.ask (.cmp .leq tt240 tt244)
                                        (.ask (.cmp .leq tt253 tt254)
                                         (.ask (.cmp .leq tt263 tt264)
                                          (.ask (.cmp .leq tt273 tt274)
                                           (.ask (.cmp .leq (.c (-10000000)) tt240)
                                            (.ask (.cmp .leq tt244 tt253)
                                             (.ask (.cmp .leq tt254 tt263)
                                              (.ask (.cmp .leq tt264 tt273)
                                               (.ask (.cmp .leq tt274 (.c 10000000))
                                                (.ask (.cmp .leq (.c 1) tt40)
                                                 (.ask (.cmp .leq (.c 0) tt175)
                                                  (.ask (.cmp .leq tt278 tt282)
                                                   (.leaf (.c true))
                                                   .dead)
                                                  .dead)
                                                 .dead)
                                                .dead)
                                               .dead)
                                              .dead)
                                             .dead)
                                            .dead)
                                           .dead)
                                          .dead)
                                         .dead)
                                        .dead)))
                                     .dead)
                                    (.ask (.cmp .leq (.c 0) tt236)
                                     (.ask (.cmp .eql tt236 (.c 0))
                                      .dead
                                      (.ask (.cmp .leq tt235 (.c 0))
                                       .dead
                                       (.ask (.cmp .leq tt240 tt244)
                                        (.ask (.cmp .leq tt253 tt254)
                                         (.ask (.cmp .leq tt263 tt264)
                                          (.ask (.cmp .leq tt273 tt274)
                                           (.ask (.cmp .leq (.c (-10000000)) tt240)
                                            (.ask (.cmp .leq tt244 tt253)
                                             (.ask (.cmp .leq tt254 tt263)
                                              (.ask (.cmp .leq tt264 tt273)
                                               (.ask (.cmp .leq tt274 (.c 10000000))
                                                (.ask (.cmp .leq (.c 1) tt40)
                                                 (.ask (.cmp .leq (.c 0) tt175)
                                                  (.ask (.cmp .leq tt278 tt282)
                                                   (.leaf (.c true))
                                                   .dead)
                                                  .dead)
                                                 .dead)
                                                .dead)
                                               .dead)
                                              .dead)
                                             .dead)
                                            .dead)
                                           .dead)
                                          .dead)
                                         .dead)
                                        .dead)))
                                     .dead)))
                                  .dead)
                                 .dead)
                                .dead)
                               .dead)
                              .dead)
                             .dead)
                            .dead)
                           .dead)
                          .dead)
                         .dead))))))))
                 .dead)
                .dead)
               .dead)
              .dead)
             .dead)
            .dead)
           .dead)
          .dead)
         .dead)
        .dead)
       .dead)
      .dead)
     .dead)
    .dead)
   .dead)
  .dead)
 .dead)
end Go.Proofs.Ytehjlegpcdlilaa.Cx
