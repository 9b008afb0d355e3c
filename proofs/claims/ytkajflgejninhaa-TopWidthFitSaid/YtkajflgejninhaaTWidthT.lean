/- TopWidthFit: the tests of the law and their arithmetic. Made by tools/gen_twtg.py. -/
import Derived.Test.YtkajflgejninhaaCxS
set_option linter.unusedSimpArgs false
set_option linter.unusedVariables false
set_option maxRecDepth 100000
set_option maxHeartbeats 4000000
namespace Go.Proofs.Ytkajflgejninhaa.Cx
open Go Go.RowKit

def tw0 : IE := .bin .conv .i64 (.v 0) (.c 0)
def tw1 : IE := .bin .rem .i64 tw0 (.c 5000)
def tw2 : IE := .bin .add .i64 (.c 1000) tw1
def tw3 : IE := .bin .mul .i64 (.c 4) tw2
def tw4 : IE := .bin .conv .i64 (.v 1) (.c 0)
def tw5 : IE := .bin .rem .i64 tw4 (.c 900)
def tw6 : IE := .bin .add .i64 (.c 1) tw5
def tw7 : IE := .bin .conv .i64 (.v 2) (.c 0)
def tw8 : IE := .bin .rem .i64 tw7 (.c 900)
def tw9 : IE := .bin .add .i64 (.c 1) tw8
def tw10 : IE := .bin .rem .i64 tw0 (.c 3)
def tw11 : IE := .bin .add .i64 (.c 1) tw10
def tw12 : IE := .bin .add .i64 tw6 tw9
def tw13 : IE := .bin .mul .i64 (.c 900) tw12
def tw14 : IE := .bin .mul .i64 (.c 500) tw3
def tw15 : IE := .bin .mul .i64 (.c 0) tw12
def tw16 : IE := .bin .sub .i64 tw14 tw15
def tw17 : IE := .bin .conv .i64 (.v 6) (.c 0)
def tw18 : IE := .bin .rem .i64 tw17 (.c 4)
def tw19 : IE := .bin .add .i64 (.c 1) tw18
def tw20 : IE := .bin .mul .i64 (.c 0) tw3
def tw21 : IE := .bin .quo .i64 tw3 (.c 4)
def tw22 : IE := .bin .sub .i64 tw20 tw21
def tw23 : IE := .bin .conv .i64 (.v 5) (.c 0)
def tw24 : IE := .bin .sub .i64 (.c 0) tw23
def tw25 : IE := .bin .sub .i64 tw22 tw24
def tw26 : IE := .bin .add .i64 tw20 tw21
def tw27 : IE := .bin .add .i64 tw26 tw24
def tw28 : IE := .bin .sub .i64 tw22 (.c 0)
def tw29 : IE := .bin .add .i64 tw26 (.c 0)
def tw30 : IE := .bin .conv .i64 (.v 3) (.c 0)
def tw31 : IE := .bin .mul .i64 (.c 7) tw30
def tw32 : IE := .bin .conv .i64 (.v 4) (.c 0)
def tw33 : IE := .bin .mul .i64 (.c 7) tw32
def tw34 : IE := .bin .mn .i64 tw31 tw33
def tw35 : IE := .bin .mx .i64 tw31 tw33
def tw36 : IE := .bin .sub .i64 (.c 1) tw19
def tw37 : IE := .bin .mul .i64 (.c 1000) tw28
def tw38 : IE := .bin .mul .i64 (.c 1000) tw25
def tw39 : IE := .bin .sub .i64 tw37 tw38
def tw40 : IE := .bin .mx .i64 (.c (-9223372036854775808)) tw39
def tw41 : IE := .bin .sub .i64 tw6 tw6
def tw42 : IE := .bin .mul .i64 tw34 tw41
def tw43 : IE := .bin .mul .i64 tw35 tw41
def tw44 : IE := .bin .mx .i64 tw42 tw43
def tw45 : IE := .bin .add .i64 tw40 tw44
def tw46 : IE := .bin .mul .i64 (.c 1000) tw29
def tw47 : IE := .bin .mul .i64 (.c 1000) tw27
def tw48 : IE := .bin .sub .i64 tw46 tw47
def tw49 : IE := .bin .mn .i64 (.c 9223372036854775807) tw48
def tw50 : IE := .bin .sub .i64 tw9 tw9
def tw51 : IE := .bin .mul .i64 tw34 tw50
def tw52 : IE := .bin .mul .i64 tw35 tw50
def tw53 : IE := .bin .mx .i64 tw51 tw52
def tw54 : IE := .bin .sub .i64 tw49 tw53
def tw55 : IE := .bin .gcd .i64 tw16 (.c 1000)
def tw56 : IE := .bin .quo .i64 (.c 1000) tw55
def tw57 : IE := .bin .quo .i64 tw16 tw55
def tw58 : IE := .bin .mul .i64 (.c 2) tw57
def tw59 : IE := .bin .sub .i64 tw27 tw25
def tw60 : IE := .bin .mul .i64 (.c 2) tw23
def tw61 : IE := .bin .add .i64 tw59 tw60
def tw62 : IE := .bin .mul .i64 (.c (-1000)) tw23
def tw63 : IE := .bin .mul .i64 (.c 1000) tw23
def tw64 : IE := .bin .mul .i64 tw3 tw11
def tw65 : IE := .bin .mul .i64 tw64 tw23
def tw66 : IE := .bin .quo .i64 tw65 (.c 16)
def tw67 : IE := .bin .mul .i64 tw64 tw66
def tw68 : IE := .bin .gcd .i64 tw67 (.c 1000000)
def tw69 : IE := .bin .quo .i64 (.c 1000000) tw68
def tw70 : IE := .bin .quo .i64 tw67 tw68
def tw71 : IE := .bin .mul .i64 tw70 (.c 1000000)
def tw72 : IE := .bin .mul .i64 tw67 tw69
def tw73 : IE := .bin .mul .i64 (.c 1) tw3
def tw74 : IE := .bin .sub .i64 tw73 tw21
def tw75 : IE := .bin .sub .i64 tw74 tw24
def tw76 : IE := .bin .add .i64 tw73 tw21
def tw77 : IE := .bin .add .i64 tw76 tw24
def tw78 : IE := .bin .sub .i64 tw74 (.c 0)
def tw79 : IE := .bin .add .i64 tw76 (.c 0)
def tw80 : IE := .bin .sub .i64 (.c 2) tw19
def tw81 : IE := .bin .mul .i64 (.c 1000) tw78
def tw82 : IE := .bin .mul .i64 (.c 1000) tw75
def tw83 : IE := .bin .sub .i64 tw81 tw82
def tw84 : IE := .bin .mx .i64 tw40 tw83
def tw85 : IE := .bin .add .i64 tw84 tw44
def tw86 : IE := .bin .mul .i64 (.c 1000) tw79
def tw87 : IE := .bin .mul .i64 (.c 1000) tw77
def tw88 : IE := .bin .sub .i64 tw86 tw87
def tw89 : IE := .bin .mn .i64 tw49 tw88
def tw90 : IE := .bin .sub .i64 tw89 tw53
def tw91 : IE := .bin .mul .i64 (.c 2) tw3
def tw92 : IE := .bin .sub .i64 tw91 tw21
def tw93 : IE := .bin .sub .i64 tw92 tw24
def tw94 : IE := .bin .add .i64 tw91 tw21
def tw95 : IE := .bin .add .i64 tw94 tw24
def tw96 : IE := .bin .sub .i64 tw92 (.c 0)
def tw97 : IE := .bin .add .i64 tw94 (.c 0)
def tw98 : IE := .bin .sub .i64 (.c 3) tw19
def tw99 : IE := .bin .mul .i64 (.c 1000) tw96
def tw100 : IE := .bin .mul .i64 (.c 1000) tw93
def tw101 : IE := .bin .sub .i64 tw99 tw100
def tw102 : IE := .bin .mx .i64 tw84 tw101
def tw103 : IE := .bin .add .i64 tw102 tw44
def tw104 : IE := .bin .mul .i64 (.c 1000) tw97
def tw105 : IE := .bin .mul .i64 (.c 1000) tw95
def tw106 : IE := .bin .sub .i64 tw104 tw105
def tw107 : IE := .bin .mn .i64 tw89 tw106
def tw108 : IE := .bin .sub .i64 tw107 tw53
def tw109 : IE := .bin .mul .i64 (.c 3) tw3
def tw110 : IE := .bin .sub .i64 tw109 tw21
def tw111 : IE := .bin .sub .i64 tw110 tw24
def tw112 : IE := .bin .add .i64 tw109 tw21
def tw113 : IE := .bin .add .i64 tw112 tw24
def tw114 : IE := .bin .sub .i64 tw110 (.c 0)
def tw115 : IE := .bin .add .i64 tw112 (.c 0)
def tw116 : IE := .bin .sub .i64 (.c 4) tw19
def tw117 : IE := .bin .mul .i64 (.c 1000) tw114
def tw118 : IE := .bin .mul .i64 (.c 1000) tw111
def tw119 : IE := .bin .sub .i64 tw117 tw118
def tw120 : IE := .bin .mx .i64 tw102 tw119
def tw121 : IE := .bin .add .i64 tw120 tw44
def tw122 : IE := .bin .mul .i64 (.c 1000) tw115
def tw123 : IE := .bin .mul .i64 (.c 1000) tw113
def tw124 : IE := .bin .sub .i64 tw122 tw123
def tw125 : IE := .bin .mn .i64 tw107 tw124
def tw126 : IE := .bin .sub .i64 tw125 tw53
def twTree : DT :=
(.ask (.cmp .leq (.c 100) tw3)
 (.ask (.cmp .leq tw3 (.c 200000))
  (.ask (.cmp .leq (.c 0) tw6)
   (.ask (.cmp .leq tw6 (.c 3000))
    (.ask (.cmp .leq (.c 0) tw9)
     (.ask (.cmp .leq tw9 (.c 3000))
      (.ask (.cmp .leq (.c 1) tw11)
       (.ask (.cmp .leq tw11 (.c 8))
        (.ask (.cmp .leq tw13 tw14)
         (.ask (.cmp .leq (.c (-9223372036854775807)) tw16)
          (.ask (.cmp .leq tw16 (.c 9223372036854775807))
           (.ask (.cmp .leq tw19 (.c 0))
            .dead
            (.ask (.cmp .leq tw19 (.c 1))
             (.ask (.cmp .leq (.c (-10000000)) tw25)
              (.ask (.cmp .leq tw25 tw27)
               (.ask (.cmp .leq tw27 (.c 10000000))
                (.ask (.cmp .leq (.c (-10000000)) tw28)
                 (.ask (.cmp .leq tw28 tw29)
                  (.ask (.cmp .leq tw29 (.c 10000000))
                   (.ask (.cmp .leq (.c (-200000)) tw34)
                    (.ask (.cmp .leq tw34 tw35)
                     (.ask (.cmp .leq tw35 (.c 200000))
                      (.ask (.cmp .leq (.c 1) tw19)
                       (.ask (.cmp .leq (.c 0) tw36)
                        (.ask (.cmp .leq tw45 tw54)
                         (.ask (.cmp .eql tw56 (.c 1))
                          (.ask (.cmp .eql tw58 tw3)
                           (.ask (.cmp .eql tw61 tw57)
                            (.ask (.cmp .eql tw45 tw62)
                             (.ask (.cmp .eql tw54 tw63)
                              (.ask (.cmp .leq (.c (-1000000000)) tw66)
                               (.ask (.cmp .leq tw66 (.c 1000000000))
                                (.ask (.cmp .leq (.c (-9223372036854775807)) tw67)
                                 (.ask (.cmp .leq tw67 (.c 9223372036854775807))
                                  (.ask (.cmp .leq tw69 (.c 0))
                                   .dead
                                   (.ask (.cmp .eql tw71 tw72)
                                    (.leaf (.c true))
                                    .dead))
                                  .dead)
                                 .dead)
                                .dead)
                               .dead)
                              .dead)
                             .dead)
                            .dead)
                           .dead)
                          .dead)
                         .dead)
                        .dead)
                       .dead)
                      .dead)
                     .dead)
                    .dead)
                   .dead)
                  .dead)
                 .dead)
                .dead)
               .dead)
              .dead)
             (.ask (.cmp .leq tw19 (.c 2))
              (.ask (.cmp .leq (.c (-10000000)) tw25)
               (.ask (.cmp .leq tw25 tw27)
                (.ask (.cmp .leq tw27 tw75)
                 (.ask (.cmp .leq tw75 tw77)
                  (.ask (.cmp .leq tw77 (.c 10000000))
                   (.ask (.cmp .leq (.c (-10000000)) tw28)
                    (.ask (.cmp .leq tw28 tw29)
                     (.ask (.cmp .leq tw29 tw78)
                      (.ask (.cmp .leq tw78 tw79)
                       (.ask (.cmp .leq tw79 (.c 10000000))
                        (.ask (.cmp .leq (.c (-200000)) tw34)
                         (.ask (.cmp .leq tw34 tw35)
                          (.ask (.cmp .leq tw35 (.c 200000))
                           (.ask (.cmp .leq (.c 1) tw19)
                            (.ask (.cmp .leq (.c 0) tw80)
                             (.ask (.cmp .leq tw85 tw90)
                              (.ask (.cmp .eql tw56 (.c 1))
                               (.ask (.cmp .eql tw58 tw3)
                                (.ask (.cmp .eql tw61 tw57)
                                 (.ask (.cmp .eql tw85 tw62)
                                  (.ask (.cmp .eql tw90 tw63)
                                   (.ask (.cmp .leq (.c (-1000000000)) tw66)
                                    (.ask (.cmp .leq tw66 (.c 1000000000))
                                     (.ask (.cmp .leq (.c (-9223372036854775807)) tw67)
                                      (.ask (.cmp .leq tw67 (.c 9223372036854775807))
                                       (.ask (.cmp .leq tw69 (.c 0))
                                        .dead
                                        (.ask (.cmp .eql tw71 tw72)
                                         (.leaf (.c true))
                                         .dead))
                                       .dead)
                                      .dead)
                                     .dead)
                                    .dead)
                                   .dead)
                                  .dead)
                                 .dead)
                                .dead)
                               .dead)
                              .dead)
                             .dead)
                            .dead)
                           .dead)
                          .dead)
                         .dead)
                        .dead)
                       .dead)
                      .dead)
                     .dead)
                    .dead)
                   .dead)
                  .dead)
                 .dead)
                .dead)
               .dead)
              (.ask (.cmp .leq tw19 (.c 3))
               (.ask (.cmp .leq (.c (-10000000)) tw25)
                (.ask (.cmp .leq tw25 tw27)
                 (.ask (.cmp .leq tw27 tw75)
                  (.ask (.cmp .leq tw75 tw77)
                   (.ask (.cmp .leq tw77 tw93)
                    (.ask (.cmp .leq tw93 tw95)
                     (.ask (.cmp .leq tw95 (.c 10000000))
                      (.ask (.cmp .leq (.c (-10000000)) tw28)
                       (.ask (.cmp .leq tw28 tw29)
                        (.ask (.cmp .leq tw29 tw78)
                         (.ask (.cmp .leq tw78 tw79)
                          (.ask (.cmp .leq tw79 tw96)
                           (.ask (.cmp .leq tw96 tw97)
                            (.ask (.cmp .leq tw97 (.c 10000000))
                             (.ask (.cmp .leq (.c (-200000)) tw34)
                              (.ask (.cmp .leq tw34 tw35)
                               (.ask (.cmp .leq tw35 (.c 200000))
                                (.ask (.cmp .leq (.c 1) tw19)
                                 (.ask (.cmp .leq (.c 0) tw98)
                                  (.ask (.cmp .leq tw103 tw108)
                                   (.ask (.cmp .eql tw56 (.c 1))
                                    (.ask (.cmp .eql tw58 tw3)
                                     (.ask (.cmp .eql tw61 tw57)
                                      (.ask (.cmp .eql tw103 tw62)
                                       (.ask (.cmp .eql tw108 tw63)
                                        (.ask (.cmp .leq (.c (-1000000000)) tw66)
                                         (.ask (.cmp .leq tw66 (.c 1000000000))
                                          (.ask (.cmp .leq (.c (-9223372036854775807)) tw67)
                                           (.ask (.cmp .leq tw67 (.c 9223372036854775807))
                                            (.ask (.cmp .leq tw69 (.c 0))
                                             .dead
                                             (.ask (.cmp .eql tw71 tw72)
                                              (.leaf (.c true))
                                              .dead))
                                            .dead)
                                           .dead)
                                          .dead)
                                         .dead)
                                        .dead)
                                       .dead)
                                      .dead)
                                     .dead)
                                    .dead)
                                   .dead)
                                  .dead)
                                 .dead)
                                .dead)
                               .dead)
                              .dead)
                             .dead)
                            .dead)
                           .dead)
                          .dead)
                         .dead)
                        .dead)
                       .dead)
                      .dead)
                     .dead)
                    .dead)
                   .dead)
                  .dead)
                 .dead)
                .dead)
               (.ask (.cmp .leq tw19 (.c 4))
                (.ask (.cmp .leq (.c (-10000000)) tw25)
                 (.ask (.cmp .leq tw25 tw27)
                  (.ask (.cmp .leq tw27 tw75)
                   (.ask (.cmp .leq tw75 tw77)
                    (.ask (.cmp .leq tw77 tw93)
                     (.ask (.cmp .leq tw93 tw95)
                      (.ask (.cmp .leq tw95 tw111)
                       (.ask (.cmp .leq tw111 tw113)
                        (.ask (.cmp .leq tw113 (.c 10000000))
                         (.ask (.cmp .leq (.c (-10000000)) tw28)
                          (.ask (.cmp .leq tw28 tw29)
                           (.ask (.cmp .leq tw29 tw78)
                            (.ask (.cmp .leq tw78 tw79)
                             (.ask (.cmp .leq tw79 tw96)
                              (.ask (.cmp .leq tw96 tw97)
                               (.ask (.cmp .leq tw97 tw114)
                                (.ask (.cmp .leq tw114 tw115)
                                 (.ask (.cmp .leq tw115 (.c 10000000))
                                  (.ask (.cmp .leq (.c (-200000)) tw34)
                                   (.ask (.cmp .leq tw34 tw35)
                                    (.ask (.cmp .leq tw35 (.c 200000))
                                     (.ask (.cmp .leq (.c 1) tw19)
                                      (.ask (.cmp .leq (.c 0) tw116)
                                       (.ask (.cmp .leq tw121 tw126)
                                        (.ask (.cmp .eql tw56 (.c 1))
                                         (.ask (.cmp .eql tw58 tw3)
                                          (.ask (.cmp .eql tw61 tw57)
                                           (.ask (.cmp .eql tw121 tw62)
                                            (.ask (.cmp .eql tw126 tw63)
                                             (.ask (.cmp .leq (.c (-1000000000)) tw66)
                                              (.ask (.cmp .leq tw66 (.c 1000000000))
                                               (.ask (.cmp .leq (.c (-9223372036854775807)) tw67)
                                                (.ask (.cmp .leq tw67 (.c 9223372036854775807))
                                                 (.ask (.cmp .leq tw69 (.c 0))
                                                  .dead
                                                  (.ask (.cmp .eql tw71 tw72)
                                                   (.leaf (.c true))
                                                   .dead))
                                                 .dead)
                                                .dead)
                                               .dead)
                                              .dead)
                                             .dead)
                                            .dead)
                                           .dead)
                                          .dead)
                                         .dead)
                                        .dead)
                                       .dead)
                                      .dead)
                                     .dead)
                                    .dead)
                                   .dead)
                                  .dead)
                                 .dead)
                                .dead)
                               .dead)
                              .dead)
                             .dead)
                            .dead)
                           .dead)
                          .dead)
                         .dead)
                        .dead)
                       .dead)
                      .dead)
                     .dead)
                    .dead)
                   .dead)
                  .dead)
                 .dead)
                .dead)))))
           .dead)
          .dead)
         .dead)
        .dead)
       .dead)
      .dead)
     .dead)
    .dead)
   .dead)
  .dead)
 .dead)
end Go.Proofs.Ytkajflgejninhaa.Cx
