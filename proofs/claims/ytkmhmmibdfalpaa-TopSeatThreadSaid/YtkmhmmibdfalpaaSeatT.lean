/- TopSeatThread: the tests of the law and their arithmetic. Made by tools/gen_seattg.py. -/
import Derived.Test.YtkmhmmibdfalpaaCxS
set_option linter.unusedSimpArgs false
set_option linter.unusedVariables false
set_option maxRecDepth 100000
set_option maxHeartbeats 4000000
namespace Go.Proofs.Ytkmhmmibdfalpaa.Cx
open Go Go.RowKit

def se0 : IE := .bin .conv .i64 (.v 0) (.c 0)
def se1 : IE := .bin .rem .i64 se0 (.c 5000)
def se2 : IE := .bin .add .i64 (.c 1000) se1
def se3 : IE := .bin .mul .i64 (.c 4) se2
def se4 : IE := .bin .conv .i64 (.v 1) (.c 0)
def se5 : IE := .bin .rem .i64 se4 (.c 900)
def se6 : IE := .bin .add .i64 (.c 1) se5
def se7 : IE := .bin .conv .i64 (.v 2) (.c 0)
def se8 : IE := .bin .rem .i64 se7 (.c 900)
def se9 : IE := .bin .add .i64 (.c 1) se8
def se10 : IE := .bin .rem .i64 se0 (.c 3)
def se11 : IE := .bin .add .i64 (.c 1) se10
def se12 : IE := .bin .add .i64 se6 se9
def se13 : IE := .bin .mul .i64 (.c 900) se12
def se14 : IE := .bin .mul .i64 (.c 500) se3
def se15 : IE := .bin .conv .i64 (.v 5) (.c 0)
def se16 : IE := .bin .rem .i64 se15 (.c 20000)
def se17 : IE := .bin .add .i64 (.c 1) se16
def se18 : IE := .bin .mul .i64 (.c 2000) se17
def se19 : IE := .bin .mul .i64 (.c 866) se3
def se20 : IE := .bin .sub .i64 se18 se19
def se21 : IE := .bin .mul .i64 se20 (.c 2000)
def se22 : IE := .bin .mul .i64 (.c 1000000) se17
def se23 : IE := .bin .sub .i64 se21 se22
def se24 : IE := .bin .mul .i64 (.c 1000) se17
def se25 : IE := .bin .add .i64 se20 se24
def se26 : IE := .bin .gcd .i64 se23 (.c 4000000)
def se27 : IE := .bin .quo .i64 (.c 4000000) se26
def se28 : IE := .bin .mul .i64 (.c (-900)) se27
def se29 : IE := .bin .quo .i64 se23 se26
def se30 : IE := .bin .mul .i64 (.c 900) se27
def se31 : IE := .bin .add .i64 se17 (.c 1)
def se32 : IE := .bin .conv .i64 (.v 6) (.c 0)
def se33 : IE := .bin .add .i64 se31 se32
def se34 : IE := .bin .mul .i64 (.c 2000) se33
def se35 : IE := .bin .sub .i64 se34 se19
def se36 : IE := .bin .mul .i64 se35 (.c 2000)
def se37 : IE := .bin .mul .i64 (.c 1000000) se33
def se38 : IE := .bin .sub .i64 se36 se37
def se39 : IE := .bin .mul .i64 (.c 1000) se33
def se40 : IE := .bin .add .i64 se35 se39
def se41 : IE := .bin .gcd .i64 se38 (.c 4000000)
def se42 : IE := .bin .quo .i64 (.c 4000000) se41
def se43 : IE := .bin .mul .i64 (.c (-900)) se42
def se44 : IE := .bin .quo .i64 se38 se41
def se45 : IE := .bin .mul .i64 (.c 900) se42
def se46 : IE := .bin .gcd .i64 se25 (.c 2000)
def se47 : IE := .bin .quo .i64 (.c 2000) se46
def se48 : IE := .bin .gcd .i64 se40 (.c 2000)
def se49 : IE := .bin .quo .i64 (.c 2000) se48
def se50 : IE := .bin .mul .i64 se44 se27
def se51 : IE := .bin .mul .i64 se29 se42
def se52 : IE := .bin .quo .i64 se40 se48
def se53 : IE := .bin .mul .i64 se52 se47
def se54 : IE := .bin .quo .i64 se25 se46
def se55 : IE := .bin .mul .i64 se54 se49
def se56 : IE := .bin .mul .i64 (.c 4) se29
def se57 : IE := .bin .mul .i64 (.c 3) se17
def se58 : IE := .bin .mul .i64 se57 se27
def se59 : IE := .bin .sub .i64 se56 se58
def se60 : IE := .bin .mul .i64 se59 (.c 1000)
def se61 : IE := .bin .mul .i64 (.c (-1732)) se3
def se62 : IE := .bin .mul .i64 se61 se27
def se63 : IE := .bin .mul .i64 (.c 900) se47
def se64 : IE := .bin .quo .i64 se29 se27
def se65 : IE := .bin .mul .i64 se64 se27
def se66 : IE := .bin .mx .i64 se64 (.c (-900))
def se67 : IE := .bin .mul .i64 se66 se12
def se68 : IE := .bin .sub .i64 se14 se67
def se69 : IE := .bin .sub .i64 se14 se13
def se70 : IE := .bin .mul .i64 (.c (-900)) se12
def se71 : IE := .bin .sub .i64 se14 se70
def se72 : IE := .bin .gcd .i64 se68 (.c 1000)
def se73 : IE := .bin .quo .i64 (.c 1000) se72
def se74 : IE := .bin .gcd .i64 se69 (.c 1000)
def se75 : IE := .bin .quo .i64 (.c 1000) se74
def se76 : IE := .bin .gcd .i64 se71 (.c 1000)
def se77 : IE := .bin .quo .i64 (.c 1000) se76
def se78 : IE := .bin .quo .i64 se69 se74
def se79 : IE := .bin .mul .i64 se78 se73
def se80 : IE := .bin .quo .i64 se68 se72
def se81 : IE := .bin .mul .i64 se80 se75
def se82 : IE := .bin .mul .i64 se80 se77
def se83 : IE := .bin .quo .i64 se71 se76
def se84 : IE := .bin .mul .i64 se83 se73
def se85 : IE := .bin .mul .i64 (.c 2) se80
def se86 : IE := .bin .mul .i64 se3 se73
def se87 : IE := .bin .sub .i64 se64 (.c 1)
def se88 : IE := .bin .mx .i64 se87 (.c (-900))
def se89 : IE := .bin .mul .i64 se88 se12
def se90 : IE := .bin .sub .i64 se14 se89
def se91 : IE := .bin .gcd .i64 se90 (.c 1000)
def se92 : IE := .bin .quo .i64 (.c 1000) se91
def se93 : IE := .bin .mul .i64 se78 se92
def se94 : IE := .bin .quo .i64 se90 se91
def se95 : IE := .bin .mul .i64 se94 se75
def se96 : IE := .bin .mul .i64 se94 se77
def se97 : IE := .bin .mul .i64 se83 se92
def seTree : DT :=
(.ask (.cmp .leq (.c 100) se3)
 (.ask (.cmp .leq se3 (.c 200000))
  (.ask (.cmp .leq (.c 0) se6)
   (.ask (.cmp .leq se6 (.c 3000))
    (.ask (.cmp .leq (.c 0) se9)
     (.ask (.cmp .leq se9 (.c 3000))
      (.ask (.cmp .leq (.c 1) se11)
       (.ask (.cmp .leq se11 (.c 8))
        (.ask (.cmp .leq se13 se14)
         (.ask (.cmp .leq (.c 1) se17)
          (.ask (.cmp .leq se17 (.c 100000))
           (.ask (.cmp .leq (.c (-9223372036854775807)) se23)
            (.ask (.cmp .leq se23 (.c 9223372036854775807))
             (.ask (.cmp .leq (.c (-9223372036854775807)) se25)
              (.ask (.cmp .leq se25 (.c 9223372036854775807))
               (.ask (.cmp .leq se28 se29)
                (.ask (.cmp .leq se29 se30)
                 (.ask (.cmp .leq (.c 1) se33)
                  (.ask (.cmp .leq se33 (.c 100000))
                   (.ask (.cmp .leq (.c (-9223372036854775807)) se38)
                    (.ask (.cmp .leq se38 (.c 9223372036854775807))
                     (.ask (.cmp .leq (.c (-9223372036854775807)) se40)
                      (.ask (.cmp .leq se40 (.c 9223372036854775807))
                       (.ask (.cmp .leq se43 se44)
                        (.ask (.cmp .leq se44 se45)
                         (.ask (.cmp .leq (.c 1) se27)
                          (.ask (.cmp .leq (.c 1) se47)
                           (.ask (.cmp .leq (.c 1) se42)
                            (.ask (.cmp .leq (.c 1) se49)
                             (.ask (.cmp .leq se50 se51)
                              .dead
                              (.ask (.cmp .leq se53 se55)
                               .dead
                               (.ask (.cmp .eql se60 se62)
                                (.ask (.cmp .leq se63 se54)
                                 (.ask (.cmp .eql se27 (.c 0))
                                  .dead
                                  (.ask (.cmp .leq se65 se29)
                                   (.ask (.cmp .leq (.c (-900)) se66)
                                    (.ask (.cmp .leq se66 (.c 900))
                                     (.ask (.cmp .leq (.c (-9223372036854775807)) se68)
                                      (.ask (.cmp .leq se68 (.c 9223372036854775807))
                                       (.ask (.cmp .leq (.c (-9223372036854775807)) se69)
                                        (.ask (.cmp .leq se69 (.c 9223372036854775807))
                                         (.ask (.cmp .leq (.c (-9223372036854775807)) se71)
                                          (.ask (.cmp .leq se71 (.c 9223372036854775807))
                                           (.ask (.cmp .leq (.c 1) se73)
                                            (.ask (.cmp .leq (.c 1) se75)
                                             (.ask (.cmp .leq (.c 1) se77)
                                              (.ask (.cmp .leq se79 se81)
                                               (.ask (.cmp .leq se82 se84)
                                                (.ask (.cmp .eql se29 (.c 0))
                                                 (.ask (.cmp .eql se85 se86)
                                                  (.leaf (.c true))
                                                  .dead)
                                                 (.leaf (.c true)))
                                                .dead)
                                               .dead)
                                              .dead)
                                             .dead)
                                            .dead)
                                           .dead)
                                          .dead)
                                         .dead)
                                        .dead)
                                       .dead)
                                      .dead)
                                     .dead)
                                    .dead)
                                   (.ask (.cmp .leq (.c (-900)) se88)
                                    (.ask (.cmp .leq se88 (.c 900))
                                     (.ask (.cmp .leq (.c (-9223372036854775807)) se90)
                                      (.ask (.cmp .leq se90 (.c 9223372036854775807))
                                       (.ask (.cmp .leq (.c (-9223372036854775807)) se69)
                                        (.ask (.cmp .leq se69 (.c 9223372036854775807))
                                         (.ask (.cmp .leq (.c (-9223372036854775807)) se71)
                                          (.ask (.cmp .leq se71 (.c 9223372036854775807))
                                           (.ask (.cmp .leq (.c 1) se92)
                                            (.ask (.cmp .leq (.c 1) se75)
                                             (.ask (.cmp .leq (.c 1) se77)
                                              (.ask (.cmp .leq se93 se95)
                                               (.ask (.cmp .leq se96 se97)
                                                (.ask (.cmp .eql se29 (.c 0))
                                                 .dead
                                                 (.leaf (.c true)))
                                                .dead)
                                               .dead)
                                              .dead)
                                             .dead)
                                            .dead)
                                           .dead)
                                          .dead)
                                         .dead)
                                        .dead)
                                       .dead)
                                      .dead)
                                     .dead)
                                    .dead)))
                                 (.leaf (.c true)))
                                .dead)))
                             .dead)
                            .dead)
                           .dead)
                          .dead)
                         (.ask (.cmp .leq (.c 1) se27)
                          (.ask (.cmp .leq (.c 1) se47)
                           (.ask (.cmp .leq (.c 1) se42)
                            (.ask (.cmp .leq (.c 1) se49)
                             (.ask (.cmp .leq se50 se51)
                              .dead
                              (.ask (.cmp .leq se53 se55)
                               .dead
                               (.ask (.cmp .eql se60 se62)
                                (.ask (.cmp .leq se63 se54)
                                 (.ask (.cmp .eql se27 (.c 0))
                                  .dead
                                  (.ask (.cmp .leq se65 se29)
                                   (.ask (.cmp .leq (.c (-900)) se66)
                                    (.ask (.cmp .leq se66 (.c 900))
                                     (.ask (.cmp .leq (.c (-9223372036854775807)) se68)
                                      (.ask (.cmp .leq se68 (.c 9223372036854775807))
                                       (.ask (.cmp .leq (.c (-9223372036854775807)) se69)
                                        (.ask (.cmp .leq se69 (.c 9223372036854775807))
                                         (.ask (.cmp .leq (.c (-9223372036854775807)) se71)
                                          (.ask (.cmp .leq se71 (.c 9223372036854775807))
                                           (.ask (.cmp .leq (.c 1) se73)
                                            (.ask (.cmp .leq (.c 1) se75)
                                             (.ask (.cmp .leq (.c 1) se77)
                                              (.ask (.cmp .leq se79 se81)
                                               (.ask (.cmp .leq se82 se84)
                                                (.ask (.cmp .eql se29 (.c 0))
                                                 .dead
                                                 (.leaf (.c true)))
                                                .dead)
                                               .dead)
                                              .dead)
                                             .dead)
                                            .dead)
                                           .dead)
                                          .dead)
                                         .dead)
                                        .dead)
                                       .dead)
                                      .dead)
                                     .dead)
                                    .dead)
                                   .dead))
                                 .dead)
                                .dead)))
                             .dead)
                            .dead)
                           .dead)
                          .dead))
                        .dead)
                       .dead)
                      .dead)
                     .dead)
                    .dead)
                   .dead)
                  .dead)
                 (.ask (.cmp .leq (.c 1) se33)
                  (.ask (.cmp .leq se33 (.c 100000))
                   (.ask (.cmp .leq (.c (-9223372036854775807)) se38)
                    (.ask (.cmp .leq se38 (.c 9223372036854775807))
                     (.ask (.cmp .leq (.c (-9223372036854775807)) se40)
                      (.ask (.cmp .leq se40 (.c 9223372036854775807))
                       (.ask (.cmp .leq se43 se44)
                        (.ask (.cmp .leq se44 se45)
                         .dead
                         (.ask (.cmp .leq (.c 1) se27)
                          (.ask (.cmp .leq (.c 1) se47)
                           (.ask (.cmp .leq (.c 1) se42)
                            (.ask (.cmp .leq (.c 1) se49)
                             (.ask (.cmp .leq se50 se51)
                              .dead
                              (.ask (.cmp .leq se53 se55)
                               .dead
                               (.ask (.cmp .eql se60 se62)
                                (.leaf (.c true))
                                .dead)))
                             .dead)
                            .dead)
                           .dead)
                          .dead))
                        .dead)
                       .dead)
                      .dead)
                     .dead)
                    .dead)
                   .dead)
                  .dead))
                (.ask (.cmp .leq (.c 1) se33)
                 (.ask (.cmp .leq se33 (.c 100000))
                  (.ask (.cmp .leq (.c (-9223372036854775807)) se38)
                   (.ask (.cmp .leq se38 (.c 9223372036854775807))
                    (.ask (.cmp .leq (.c (-9223372036854775807)) se40)
                     (.ask (.cmp .leq se40 (.c 9223372036854775807))
                      (.ask (.cmp .leq se43 se44)
                       (.ask (.cmp .leq se44 se45)
                        (.ask (.cmp .leq (.c 1) se27)
                         (.ask (.cmp .leq (.c 1) se47)
                          (.ask (.cmp .leq (.c 1) se42)
                           (.ask (.cmp .leq (.c 1) se49)
                            (.ask (.cmp .leq se50 se51)
                             .dead
                             (.ask (.cmp .leq se53 se55)
                              .dead
                              (.ask (.cmp .eql se60 se62)
                               (.leaf (.c true))
                               .dead)))
                            .dead)
                           .dead)
                          .dead)
                         .dead)
                        .dead)
                       (.ask (.cmp .leq (.c 1) se27)
                        (.ask (.cmp .leq (.c 1) se47)
                         (.ask (.cmp .leq (.c 1) se42)
                          (.ask (.cmp .leq (.c 1) se49)
                           (.ask (.cmp .leq se50 se51)
                            .dead
                            (.ask (.cmp .leq se53 se55)
                             .dead
                             (.ask (.cmp .eql se60 se62)
                              (.leaf (.c true))
                              .dead)))
                           .dead)
                          .dead)
                         .dead)
                        .dead))
                      .dead)
                     .dead)
                    .dead)
                   .dead)
                  .dead)
                 .dead))
               .dead)
              .dead)
             .dead)
            .dead)
           .dead)
          .dead)
         .dead)
        .dead)
       .dead)
      .dead)
     .dead)
    .dead)
   .dead)
  .dead)
 .dead)
end Go.Proofs.Ytkmhmmibdfalpaa.Cx
