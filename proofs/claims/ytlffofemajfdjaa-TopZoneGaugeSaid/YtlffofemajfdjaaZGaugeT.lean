/- The tests of a law and their arithmetic. Made by tools/cxgoal.py. -/
import Derived.Test.YtlffofemajfdjaaCxS
set_option linter.unusedSimpArgs false
set_option linter.unusedVariables false
set_option maxRecDepth 100000
set_option maxHeartbeats 4000000
namespace Go.Proofs.Ytlffofemajfdjaa.Cx
open Go Go.RowKit

def zg0 : IE := .bin .conv .i64 (.v 1) (.c 0)
def zg1 : IE := .bin .conv .i64 (.v 0) (.c 0)
def zg2 : IE := .bin .conv .i64 (.v 6) (.c 0)
def zg3 : IE := .bin .add .i64 (.c 40000) zg2
def zg4 : IE := .bin .conv .i64 (.v 2) (.c 0)
def zg5 : IE := .bin .rem .i64 zg4 (.c 50)
def zg6 : IE := .bin .conv .i64 (.v 3) (.c 0)
def zg7 : IE := .bin .rem .i64 zg6 (.c 50)
def zg8 : IE := .bin .add .i64 zg5 zg7
def zg9 : IE := .bin .conv .i64 (.v 4) (.c 0)
def zg10 : IE := .bin .mul .i64 (.c 100) zg9
def zg11 : IE := .bin .conv .i64 (.v 5) (.c 0)
def zg12 : IE := .bin .add .i64 zg3 zg1
def zg13 : IE := .bin .mul .i64 zg5 zg10
def zg14 : IE := .bin .sub .i64 (.c 0) zg13
def zg15 : IE := .bin .rem .i64 zg14 (.c 1000)
def zg16 : IE := .bin .mul .i64 zg8 zg10
def zg17 : IE := .bin .rem .i64 zg16 (.c 1000)
def zg18 : IE := .bin .quo .i64 zg16 (.c 1000)
def zg19 : IE := .bin .add .i64 zg12 zg18
def zg20 : IE := .bin .add .i64 zg19 zg11
def zg21 : IE := .bin .mx .i64 zg19 zg20
def zg22 : IE := .bin .mn .i64 zg19 zg20
def zg23 : IE := .bin .sub .i64 zg21 zg22
def zg24 : IE := .bin .add .i64 zg23 (.c 1)
def zg25 : IE := .bin .add .i64 zg10 (.c 1)
def zg26 : IE := .bin .rem .i64 zg2 zg25
def zg27 : IE := .bin .rem .i64 zg2 zg24
def zg28 : IE := .bin .add .i64 zg22 zg27
def zg29 : IE := .bin .mn .i64 zg28 zg28
def zg30 : IE := .bin .mx .i64 zg28 zg28
def zg31 : IE := .bin .sub .i64 zg29 zg12
def zg32 : IE := .bin .mn .i64 zg29 zg30
def zg33 : IE := .bin .mx .i64 zg29 zg30
def zg34 : IE := .bin .add .i64 zg16 (.c 999)
def zg35 : IE := .bin .quo .i64 zg34 (.c 1000)
def zg36 : IE := .bin .add .i64 zg12 zg35
def zg37 : IE := .bin .add .i64 zg36 zg11
def zg38 : IE := .bin .mul .i64 (.c 1000) zg31
def zg39 : IE := .bin .sub .i64 (.c 0) zg38
def zg40 : IE := .bin .rem .i64 zg39 zg8
def zg41 : IE := .bin .quo .i64 zg39 zg8
def zg42 : IE := .bin .sub .i64 (.c 0) zg41
def zg43 : IE := .bin .mn .i64 zg42 (.c 100000)
def zg44 : IE := .bin .mul .i64 zg5 zg26
def zg45 : IE := .bin .sub .i64 (.c 0) zg44
def zg46 : IE := .bin .rem .i64 zg45 (.c 1000)
def zg47 : IE := .bin .mul .i64 zg8 zg26
def zg48 : IE := .bin .rem .i64 zg47 (.c 1000)
def zg49 : IE := .bin .quo .i64 zg45 (.c 1000)
def zg50 : IE := .bin .sub .i64 (.c 0) zg49
def zg51 : IE := .bin .sub .i64 zg30 zg50
def zg52 : IE := .bin .mn .i64 zg51 zg51
def zg53 : IE := .bin .quo .i64 zg47 (.c 1000)
def zg54 : IE := .bin .sub .i64 zg29 zg53
def zg55 : IE := .bin .add .i64 zg54 zg50
def zg56 : IE := .bin .mx .i64 zg29 zg55
def zg57 : IE := .bin .sub .i64 (.c 0) zg53
def zg58 : IE := .bin .sub .i64 zg52 zg57
def zg59 : IE := .bin .mn .i64 zg30 zg58
def zg60 : IE := .bin .add .i64 zg56 zg57
def zg61 : IE := .bin .mx .i64 zg54 zg60
def zg62 : IE := .bin .sub .i64 zg61 zg12
def zg63 : IE := .bin .mn .i64 zg61 zg52
def zg64 : IE := .bin .mx .i64 zg61 zg52
def zg65 : IE := .bin .mul .i64 (.c 1000) zg62
def zg66 : IE := .bin .sub .i64 (.c 0) zg65
def zg67 : IE := .bin .rem .i64 zg66 zg8
def zg68 : IE := .bin .quo .i64 zg66 zg8
def zg69 : IE := .bin .sub .i64 (.c 0) zg68
def zg70 : IE := .bin .mn .i64 zg69 (.c 100000)
def zg71 : IE := .bin .add .i64 zg53 (.c 1)
def zg72 : IE := .bin .sub .i64 zg29 zg71
def zg73 : IE := .bin .add .i64 zg72 zg50
def zg74 : IE := .bin .mx .i64 zg29 zg73
def zg75 : IE := .bin .sub .i64 (.c 0) zg71
def zg76 : IE := .bin .sub .i64 zg52 zg75
def zg77 : IE := .bin .mn .i64 zg30 zg76
def zg78 : IE := .bin .add .i64 zg74 zg75
def zg79 : IE := .bin .mx .i64 zg72 zg78
def zg80 : IE := .bin .sub .i64 zg79 zg12
def zg81 : IE := .bin .mul .i64 (.c 1000) zg80
def zg82 : IE := .bin .sub .i64 (.c 0) zg81
def zg83 : IE := .bin .rem .i64 zg82 zg8
def zg84 : IE := .bin .quo .i64 zg82 zg8
def zg85 : IE := .bin .sub .i64 (.c 0) zg84
def zg86 : IE := .bin .mn .i64 zg85 (.c 100000)
def zg87 : IE := .bin .mn .i64 zg79 zg52
def zg88 : IE := .bin .mx .i64 zg79 zg52
def zg89 : IE := .bin .add .i64 zg18 (.c 1)
def zg90 : IE := .bin .add .i64 zg12 zg89
def zg91 : IE := .bin .add .i64 zg90 zg11
def zg92 : IE := .bin .mx .i64 zg90 zg91
def zg93 : IE := .bin .mn .i64 zg90 zg91
def zg94 : IE := .bin .sub .i64 zg92 zg93
def zg95 : IE := .bin .add .i64 zg94 (.c 1)
def zg96 : IE := .bin .rem .i64 zg2 zg95
def zg97 : IE := .bin .add .i64 zg93 zg96
def zg98 : IE := .bin .mn .i64 zg97 zg97
def zg99 : IE := .bin .mx .i64 zg97 zg97
def zg100 : IE := .bin .sub .i64 zg98 zg12
def zg101 : IE := .bin .mul .i64 (.c 1000) zg100
def zg102 : IE := .bin .sub .i64 (.c 0) zg101
def zg103 : IE := .bin .rem .i64 zg102 zg8
def zg104 : IE := .bin .quo .i64 zg102 zg8
def zg105 : IE := .bin .sub .i64 (.c 0) zg104
def zg106 : IE := .bin .mn .i64 zg105 (.c 100000)
def zg107 : IE := .bin .mn .i64 zg98 zg99
def zg108 : IE := .bin .mx .i64 zg98 zg99
def zg109 : IE := .bin .sub .i64 zg99 zg50
def zg110 : IE := .bin .mn .i64 zg109 zg109
def zg111 : IE := .bin .sub .i64 zg98 zg53
def zg112 : IE := .bin .add .i64 zg111 zg50
def zg113 : IE := .bin .mx .i64 zg98 zg112
def zg114 : IE := .bin .sub .i64 zg110 zg57
def zg115 : IE := .bin .mn .i64 zg99 zg114
def zg116 : IE := .bin .add .i64 zg113 zg57
def zg117 : IE := .bin .mx .i64 zg111 zg116
def zg118 : IE := .bin .sub .i64 zg117 zg12
def zg119 : IE := .bin .mul .i64 (.c 1000) zg118
def zg120 : IE := .bin .sub .i64 (.c 0) zg119
def zg121 : IE := .bin .rem .i64 zg120 zg8
def zg122 : IE := .bin .quo .i64 zg120 zg8
def zg123 : IE := .bin .sub .i64 (.c 0) zg122
def zg124 : IE := .bin .mn .i64 zg123 (.c 100000)
def zg125 : IE := .bin .mn .i64 zg117 zg110
def zg126 : IE := .bin .mx .i64 zg117 zg110
def zg127 : IE := .bin .sub .i64 zg98 zg71
def zg128 : IE := .bin .add .i64 zg127 zg50
def zg129 : IE := .bin .mx .i64 zg98 zg128
def zg130 : IE := .bin .sub .i64 zg110 zg75
def zg131 : IE := .bin .mn .i64 zg99 zg130
def zg132 : IE := .bin .add .i64 zg129 zg75
def zg133 : IE := .bin .mx .i64 zg127 zg132
def zg134 : IE := .bin .sub .i64 zg133 zg12
def zg135 : IE := .bin .mul .i64 (.c 1000) zg134
def zg136 : IE := .bin .sub .i64 (.c 0) zg135
def zg137 : IE := .bin .rem .i64 zg136 zg8
def zg138 : IE := .bin .quo .i64 zg136 zg8
def zg139 : IE := .bin .sub .i64 (.c 0) zg138
def zg140 : IE := .bin .mn .i64 zg139 (.c 100000)
def zg141 : IE := .bin .mn .i64 zg133 zg110
def zg142 : IE := .bin .mx .i64 zg133 zg110
def zgTree : DT :=
(.ask (.cmp .leq (.c 0) zg0)
 (.ask (.cmp .leq zg0 (.c 100000))
  (.ask (.cmp .leq (.c (-100000)) zg1)
   (.ask (.cmp .leq zg1 (.c 100000))
    (.ask (.cmp .leq zg3 (.c 10000000))
     (.ask (.cmp .eql (.c 10000000) zg3)
      .dead
      (.ask (.cmp .leq (.c 1) zg3)
       (.ask (.cmp .leq (.c 0) zg5)
        (.ask (.cmp .leq zg5 zg8)
         (.ask (.cmp .leq zg8 (.c 10000))
          (.ask (.cmp .leq (.c 0) zg10)
           (.ask (.cmp .leq zg10 (.c 100000))
            (.ask (.cmp .leq (.c 0) zg11)
             (.ask (.cmp .leq zg11 (.c 100000))
              (.ask (.cmp .leq (.c 0) zg12)
               (.ask (.cmp .leq zg12 (.c 10000000))
                (.ask (.cmp .leq zg15 (.c 0))
                 (.ask (.cmp .leq zg17 (.c 0))
                  (.ask (.cmp .leq (.c 0) zg19)
                   (.ask (.cmp .leq zg19 zg20)
                    (.ask (.cmp .leq zg20 (.c 10000000))
                     (.ask (.cmp .leq (.c 1) zg12)
                      (.ask (.cmp .eql zg24 (.c 0))
                       .dead
                       (.ask (.cmp .eql zg25 (.c 0))
                        .dead
                        (.ask (.cmp .leq zg26 (.c 0))
                         (.ask (.cmp .leq (.c 0) zg28)
                          (.ask (.cmp .leq zg28 (.c 10000000))
                           (.ask (.cmp .leq zg29 zg30)
                            (.ask (.cmp .leq (.c 0) zg31)
                             (.ask (.cmp .eql zg8 (.c 0))
                              (.ask (.cmp .leq zg12 zg32)
                               (.ask (.cmp .leq zg33 zg21)
                                (.ask (.cmp .eql zg21 zg37)
                                 (.leaf (.c true))
                                 .dead)
                                .dead)
                               .dead)
                              (.ask (.cmp .leq zg40 (.c 0))
                               (.ask (.cmp .leq (.c 0) zg43)
                                (.ask (.cmp .leq zg12 zg32)
                                 (.ask (.cmp .leq zg33 zg21)
                                  (.ask (.cmp .eql zg21 zg37)
                                   (.leaf (.c true))
                                   .dead)
                                  .dead)
                                 .dead)
                                .dead)
                               .dead))
                             .dead)
                            .dead)
                           .dead)
                          .dead)
                         (.ask (.cmp .leq (.c 0) zg28)
                          (.ask (.cmp .leq zg28 (.c 10000000))
                           (.ask (.cmp .leq (.c 1) zg26)
                            (.ask (.cmp .leq zg26 (.c 100000))
                             (.ask (.cmp .leq zg46 (.c 0))
                              (.ask (.cmp .leq zg48 (.c 0))
                               (.ask (.cmp .leq zg51 zg52)
                                (.ask (.cmp .leq zg56 zg29)
                                 (.ask (.cmp .leq zg30 zg59)
                                  (.ask (.cmp .leq zg61 zg54)
                                   (.ask (.cmp .leq zg56 zg59)
                                    (.ask (.cmp .leq zg61 zg52)
                                     (.ask (.cmp .leq (.c 0) zg62)
                                      (.ask (.cmp .eql zg8 (.c 0))
                                       (.ask (.cmp .leq zg12 zg63)
                                        (.ask (.cmp .leq zg64 zg21)
                                         (.ask (.cmp .eql zg21 zg37)
                                          (.leaf (.c true))
                                          .dead)
                                         .dead)
                                        .dead)
                                       (.ask (.cmp .leq zg67 (.c 0))
                                        (.ask (.cmp .leq (.c 0) zg70)
                                         (.ask (.cmp .leq zg12 zg63)
                                          (.ask (.cmp .leq zg64 zg21)
                                           (.ask (.cmp .eql zg21 zg37)
                                            (.leaf (.c true))
                                            .dead)
                                           .dead)
                                          .dead)
                                         .dead)
                                        .dead))
                                      .dead)
                                     .dead)
                                    .dead)
                                   .dead)
                                  .dead)
                                 .dead)
                                .dead)
                               (.ask (.cmp .leq zg51 zg52)
                                (.ask (.cmp .leq zg74 zg29)
                                 (.ask (.cmp .leq zg30 zg77)
                                  (.ask (.cmp .leq zg79 zg72)
                                   (.ask (.cmp .leq zg74 zg77)
                                    (.ask (.cmp .leq zg79 zg52)
                                     (.ask (.cmp .leq (.c 0) zg80)
                                      (.ask (.cmp .eql zg8 (.c 0))
                                       .dead
                                       (.ask (.cmp .leq zg83 (.c 0))
                                        (.ask (.cmp .leq (.c 0) zg86)
                                         (.ask (.cmp .leq zg12 zg87)
                                          (.ask (.cmp .leq zg88 zg21)
                                           (.ask (.cmp .eql zg21 zg37)
                                            (.leaf (.c true))
                                            .dead)
                                           .dead)
                                          .dead)
                                         .dead)
                                        .dead))
                                      .dead)
                                     .dead)
                                    .dead)
                                   .dead)
                                  .dead)
                                 .dead)
                                .dead))
                              .dead)
                             .dead)
                            .dead)
                           .dead)
                          .dead))))
                      .dead)
                     .dead)
                    .dead)
                   .dead)
                  (.ask (.cmp .leq (.c 0) zg90)
                   (.ask (.cmp .leq zg90 zg91)
                    (.ask (.cmp .leq zg91 (.c 10000000))
                     (.ask (.cmp .leq (.c 1) zg12)
                      (.ask (.cmp .eql zg95 (.c 0))
                       .dead
                       (.ask (.cmp .eql zg25 (.c 0))
                        .dead
                        (.ask (.cmp .leq zg26 (.c 0))
                         (.ask (.cmp .leq (.c 0) zg97)
                          (.ask (.cmp .leq zg97 (.c 10000000))
                           (.ask (.cmp .leq zg98 zg99)
                            (.ask (.cmp .leq (.c 0) zg100)
                             (.ask (.cmp .eql zg8 (.c 0))
                              .dead
                              (.ask (.cmp .leq zg103 (.c 0))
                               (.ask (.cmp .leq (.c 0) zg106)
                                (.ask (.cmp .leq zg12 zg107)
                                 (.ask (.cmp .leq zg108 zg92)
                                  (.ask (.cmp .eql zg92 zg37)
                                   (.leaf (.c true))
                                   .dead)
                                  .dead)
                                 .dead)
                                .dead)
                               .dead))
                             .dead)
                            .dead)
                           .dead)
                          .dead)
                         (.ask (.cmp .leq (.c 0) zg97)
                          (.ask (.cmp .leq zg97 (.c 10000000))
                           (.ask (.cmp .leq (.c 1) zg26)
                            (.ask (.cmp .leq zg26 (.c 100000))
                             (.ask (.cmp .leq zg46 (.c 0))
                              (.ask (.cmp .leq zg48 (.c 0))
                               (.ask (.cmp .leq zg109 zg110)
                                (.ask (.cmp .leq zg113 zg98)
                                 (.ask (.cmp .leq zg99 zg115)
                                  (.ask (.cmp .leq zg117 zg111)
                                   (.ask (.cmp .leq zg113 zg115)
                                    (.ask (.cmp .leq zg117 zg110)
                                     (.ask (.cmp .leq (.c 0) zg118)
                                      (.ask (.cmp .eql zg8 (.c 0))
                                       .dead
                                       (.ask (.cmp .leq zg121 (.c 0))
                                        (.ask (.cmp .leq (.c 0) zg124)
                                         (.ask (.cmp .leq zg12 zg125)
                                          (.ask (.cmp .leq zg126 zg92)
                                           (.ask (.cmp .eql zg92 zg37)
                                            (.leaf (.c true))
                                            .dead)
                                           .dead)
                                          .dead)
                                         .dead)
                                        .dead))
                                      .dead)
                                     .dead)
                                    .dead)
                                   .dead)
                                  .dead)
                                 .dead)
                                .dead)
                               (.ask (.cmp .leq zg109 zg110)
                                (.ask (.cmp .leq zg129 zg98)
                                 (.ask (.cmp .leq zg99 zg131)
                                  (.ask (.cmp .leq zg133 zg127)
                                   (.ask (.cmp .leq zg129 zg131)
                                    (.ask (.cmp .leq zg133 zg110)
                                     (.ask (.cmp .leq (.c 0) zg134)
                                      (.ask (.cmp .eql zg8 (.c 0))
                                       .dead
                                       (.ask (.cmp .leq zg137 (.c 0))
                                        (.ask (.cmp .leq (.c 0) zg140)
                                         (.ask (.cmp .leq zg12 zg141)
                                          (.ask (.cmp .leq zg142 zg92)
                                           (.ask (.cmp .eql zg92 zg37)
                                            (.leaf (.c true))
                                            .dead)
                                           .dead)
                                          .dead)
                                         .dead)
                                        .dead))
                                      .dead)
                                     .dead)
                                    .dead)
                                   .dead)
                                  .dead)
                                 .dead)
                                .dead))
                              .dead)
                             .dead)
                            .dead)
                           .dead)
                          .dead))))
                      .dead)
                     .dead)
                    .dead)
                   .dead))
                 .dead)
                .dead)
               .dead)
              .dead)
             .dead)
            .dead)
           .dead)
          .dead)
         .dead)
        .dead)
       .dead))
     .dead)
    .dead)
   .dead)
  .dead)
 .dead)
end Go.Proofs.Ytlffofemajfdjaa.Cx
