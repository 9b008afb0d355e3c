/- The tests of a law and their arithmetic. Made by tools/cxgoal.py. -/
import Derived.Test.YtlffofemajfdjaaCxS
set_option linter.unusedSimpArgs false
set_option linter.unusedVariables false
set_option maxRecDepth 100000
set_option maxHeartbeats 4000000
namespace Go.Proofs.Ytlffofemajfdjaa.Cx
open Go Go.RowKit

def tg0 : IE := .bin .conv .i64 (.v 4) (.c 0)
def tg1 : IE := .bin .add .i64 (.c 50000) tg0
def tg2 : IE := .bin .conv .i64 (.v 5) (.c 0)
def tg3 : IE := .bin .rem .i64 tg2 (.c 1000)
def tg4 : IE := .bin .add .i64 (.c 1) tg3
def tg5 : IE := .bin .mul .i64 (.c 3) tg4
def tg6 : IE := .bin .sub .i64 (.c 0) tg5
def tg7 : IE := .bin .rem .i64 tg6 (.c 1000)
def tg8 : IE := .bin .mul .i64 (.c 90) tg4
def tg9 : IE := .bin .rem .i64 tg8 (.c 1000)
def tg10 : IE := .bin .mx .i64 (.c 50000) tg1
def tg11 : IE := .bin .quo .i64 tg6 (.c 1000)
def tg12 : IE := .bin .sub .i64 (.c 0) tg11
def tg13 : IE := .bin .sub .i64 tg10 tg12
def tg14 : IE := .bin .mn .i64 tg13 tg13
def tg15 : IE := .bin .mn .i64 (.c 50000) tg1
def tg16 : IE := .bin .quo .i64 tg8 (.c 1000)
def tg17 : IE := .bin .sub .i64 tg15 tg16
def tg18 : IE := .bin .add .i64 tg17 tg12
def tg19 : IE := .bin .mx .i64 tg15 tg18
def tg20 : IE := .bin .sub .i64 (.c 0) tg16
def tg21 : IE := .bin .sub .i64 tg14 tg20
def tg22 : IE := .bin .mn .i64 tg10 tg21
def tg23 : IE := .bin .add .i64 tg19 tg20
def tg24 : IE := .bin .mx .i64 tg17 tg23
def tg25 : IE := .bin .mn .i64 tg24 tg14
def tg26 : IE := .bin .mx .i64 tg24 tg14
def tg27 : IE := .bin .conv .i64 (.v 0) (.c 0)
def tg28 : IE := .bin .mul .i64 (.c 4) tg27
def tg29 : IE := .bin .add .i64 (.c 9000) tg28
def tg30 : IE := .bin .conv .i64 (.v 1) (.c 0)
def tg31 : IE := .bin .add .i64 (.c 400) tg30
def tg32 : IE := .bin .conv .i64 (.v 2) (.c 0)
def tg33 : IE := .bin .add .i64 (.c 400) tg32
def tg34 : IE := .bin .conv .i64 (.v 3) (.c 0)
def tg35 : IE := .bin .rem .i64 tg34 (.c 100)
def tg36 : IE := .bin .add .i64 (.c 1) tg35
def tg37 : IE := .bin .add .i64 tg31 tg33
def tg38 : IE := .bin .mul .i64 (.c 46) tg37
def tg39 : IE := .bin .mul .i64 (.c 500) tg29
def tg40 : IE := .bin .sub .i64 (.c 51000) tg25
def tg41 : IE := .bin .mul .i64 tg40 (.c 500)
def tg42 : IE := .bin .mul .i64 tg29 (.c 1)
def tg43 : IE := .bin .mul .i64 tg36 tg42
def tg44 : IE := .bin .sub .i64 (.c 51000) tg26
def tg45 : IE := .bin .mul .i64 tg44 (.c 500)
def tg46 : IE := .bin .sub .i64 (.c 51000) tg1
def tg47 : IE := .bin .mul .i64 tg46 (.c 500)
def tg48 : IE := .bin .gcd .i64 tg41 tg43
def tg49 : IE := .bin .quo .i64 tg43 tg48
def tg50 : IE := .bin .gcd .i64 tg45 tg43
def tg51 : IE := .bin .quo .i64 tg43 tg50
def tg52 : IE := .bin .gcd .i64 tg47 tg43
def tg53 : IE := .bin .quo .i64 tg43 tg52
def tg54 : IE := .bin .quo .i64 tg41 tg48
def tg55 : IE := .bin .mul .i64 tg54 tg51
def tg56 : IE := .bin .quo .i64 tg45 tg50
def tg57 : IE := .bin .mul .i64 tg56 tg49
def tg58 : IE := .bin .sub .i64 tg55 tg57
def tg59 : IE := .bin .mul .i64 tg58 tg36
def tg60 : IE := .bin .mul .i64 tg59 tg29
def tg61 : IE := .bin .sub .i64 tg26 tg25
def tg62 : IE := .bin .mul .i64 tg61 (.c 500)
def tg63 : IE := .bin .mul .i64 tg62 tg49
def tg64 : IE := .bin .mul .i64 tg63 tg51
def tg65 : IE := .bin .quo .i64 tg47 tg52
def tg66 : IE := .bin .mul .i64 tg65 tg51
def tg67 : IE := .bin .mul .i64 tg56 tg53
def tg68 : IE := .bin .add .i64 tg16 (.c 1)
def tg69 : IE := .bin .sub .i64 tg15 tg68
def tg70 : IE := .bin .add .i64 tg69 tg12
def tg71 : IE := .bin .mx .i64 tg15 tg70
def tg72 : IE := .bin .sub .i64 (.c 0) tg68
def tg73 : IE := .bin .sub .i64 tg14 tg72
def tg74 : IE := .bin .mn .i64 tg10 tg73
def tg75 : IE := .bin .add .i64 tg71 tg72
def tg76 : IE := .bin .mx .i64 tg69 tg75
def tg77 : IE := .bin .mn .i64 tg76 tg14
def tg78 : IE := .bin .mx .i64 tg76 tg14
def tg79 : IE := .bin .sub .i64 (.c 51000) tg77
def tg80 : IE := .bin .mul .i64 tg79 (.c 500)
def tg81 : IE := .bin .sub .i64 (.c 51000) tg78
def tg82 : IE := .bin .mul .i64 tg81 (.c 500)
def tg83 : IE := .bin .gcd .i64 tg80 tg43
def tg84 : IE := .bin .quo .i64 tg43 tg83
def tg85 : IE := .bin .gcd .i64 tg82 tg43
def tg86 : IE := .bin .quo .i64 tg43 tg85
def tg87 : IE := .bin .quo .i64 tg80 tg83
def tg88 : IE := .bin .mul .i64 tg87 tg86
def tg89 : IE := .bin .quo .i64 tg82 tg85
def tg90 : IE := .bin .mul .i64 tg89 tg84
def tg91 : IE := .bin .sub .i64 tg88 tg90
def tg92 : IE := .bin .mul .i64 tg91 tg36
def tg93 : IE := .bin .mul .i64 tg92 tg29
def tg94 : IE := .bin .sub .i64 tg78 tg77
def tg95 : IE := .bin .mul .i64 tg94 (.c 500)
def tg96 : IE := .bin .mul .i64 tg95 tg84
def tg97 : IE := .bin .mul .i64 tg96 tg86
def tg98 : IE := .bin .mul .i64 tg65 tg86
def tg99 : IE := .bin .mul .i64 tg89 tg53
def tgTree : DT :=
(.ask (.cmp .leq (.c 50000) tg1)
 (.ask (.cmp .leq tg1 (.c 10000000))
  (.ask (.cmp .leq (.c 1) tg4)
   (.ask (.cmp .leq tg4 (.c 100000))
    (.ask (.cmp .leq tg7 (.c 0))
     (.ask (.cmp .leq tg9 (.c 0))
      (.ask (.cmp .leq tg13 tg14)
       (.ask (.cmp .leq tg19 tg15)
        (.ask (.cmp .leq tg10 tg22)
         (.ask (.cmp .leq tg24 tg17)
          (.ask (.cmp .leq tg19 tg22)
           (.ask (.cmp .leq tg24 tg14)
            (.ask (.cmp .leq (.c 1) tg25)
             (.ask (.cmp .leq tg26 tg1)
              (.ask (.cmp .leq (.c 100) tg29)
               (.ask (.cmp .leq tg29 (.c 200000))
                (.ask (.cmp .leq (.c 0) tg31)
                 (.ask (.cmp .leq tg31 (.c 3000))
                  (.ask (.cmp .leq (.c 0) tg33)
                   (.ask (.cmp .leq tg33 (.c 3000))
                    (.ask (.cmp .leq (.c 0) tg36)
                     (.ask (.cmp .leq tg36 (.c 100))
                      (.ask (.cmp .leq tg38 tg39)
                       (.ask (.cmp .leq tg25 (.c 51000))
                        (.ask (.cmp .eql tg36 (.c 0))
                         .dead
                         (.ask (.cmp .leq (.c (-9223372036854775807)) tg41)
                          (.ask (.cmp .leq tg41 (.c 9223372036854775807))
                           (.ask (.cmp .leq (.c 1) tg43)
                            (.ask (.cmp .leq tg43 (.c 9223372036854775807))
                             (.ask (.cmp .leq (.c 1) tg26)
                              (.ask (.cmp .leq tg26 (.c 51000))
                               (.ask (.cmp .leq (.c (-9223372036854775807)) tg45)
                                (.ask (.cmp .leq tg45 (.c 9223372036854775807))
                                 (.ask (.cmp .leq (.c 1) tg1)
                                  (.ask (.cmp .leq tg1 (.c 51000))
                                   (.ask (.cmp .leq (.c (-9223372036854775807)) tg47)
                                    (.ask (.cmp .leq tg47 (.c 9223372036854775807))
                                     (.ask (.cmp .leq (.c 1) tg49)
                                      (.ask (.cmp .leq (.c 1) tg51)
                                       (.ask (.cmp .leq (.c 1) tg53)
                                        (.ask (.cmp .eql tg60 tg64)
                                         (.ask (.cmp .leq tg66 tg67)
                                          (.leaf (.c true))
                                          .dead)
                                         .dead)
                                        .dead)
                                       .dead)
                                      .dead)
                                     .dead)
                                    .dead)
                                   .dead)
                                  .dead)
                                 .dead)
                                .dead)
                               .dead)
                              .dead)
                             .dead)
                            .dead)
                           .dead)
                          .dead))
                        .dead)
                       .dead)
                      .dead)
                     .dead)
                    .dead)
                   .dead)
                  .dead)
                 .dead)
                .dead)
               .dead)
              .dead)
             .dead)
            .dead)
           .dead)
          .dead)
         .dead)
        .dead)
       .dead)
      (.ask (.cmp .leq tg13 tg14)
       (.ask (.cmp .leq tg71 tg15)
        (.ask (.cmp .leq tg10 tg74)
         (.ask (.cmp .leq tg76 tg69)
          (.ask (.cmp .leq tg71 tg74)
           (.ask (.cmp .leq tg76 tg14)
            (.ask (.cmp .leq (.c 1) tg77)
             (.ask (.cmp .leq tg78 tg1)
              (.ask (.cmp .leq (.c 100) tg29)
               (.ask (.cmp .leq tg29 (.c 200000))
                (.ask (.cmp .leq (.c 0) tg31)
                 (.ask (.cmp .leq tg31 (.c 3000))
                  (.ask (.cmp .leq (.c 0) tg33)
                   (.ask (.cmp .leq tg33 (.c 3000))
                    (.ask (.cmp .leq (.c 0) tg36)
                     (.ask (.cmp .leq tg36 (.c 100))
                      (.ask (.cmp .leq tg38 tg39)
                       (.ask (.cmp .leq tg77 (.c 51000))
                        (.ask (.cmp .eql tg36 (.c 0))
                         .dead
                         (.ask (.cmp .leq (.c (-9223372036854775807)) tg80)
                          (.ask (.cmp .leq tg80 (.c 9223372036854775807))
                           (.ask (.cmp .leq (.c 1) tg43)
                            (.ask (.cmp .leq tg43 (.c 9223372036854775807))
                             (.ask (.cmp .leq (.c 1) tg78)
                              (.ask (.cmp .leq tg78 (.c 51000))
                               (.ask (.cmp .leq (.c (-9223372036854775807)) tg82)
                                (.ask (.cmp .leq tg82 (.c 9223372036854775807))
                                 (.ask (.cmp .leq (.c 1) tg1)
                                  (.ask (.cmp .leq tg1 (.c 51000))
                                   (.ask (.cmp .leq (.c (-9223372036854775807)) tg47)
                                    (.ask (.cmp .leq tg47 (.c 9223372036854775807))
                                     (.ask (.cmp .leq (.c 1) tg84)
                                      (.ask (.cmp .leq (.c 1) tg86)
                                       (.ask (.cmp .leq (.c 1) tg53)
                                        (.ask (.cmp .eql tg93 tg97)
                                         (.ask (.cmp .leq tg98 tg99)
                                          (.leaf (.c true))
                                          .dead)
                                         .dead)
                                        .dead)
                                       .dead)
                                      .dead)
                                     .dead)
                                    .dead)
                                   .dead)
                                  .dead)
                                 .dead)
                                .dead)
                               .dead)
                              .dead)
                             .dead)
                            .dead)
                           .dead)
                          .dead))
                        .dead)
                       .dead)
                      .dead)
                     .dead)
                    .dead)
                   .dead)
                  .dead)
                 .dead)
                .dead)
               .dead)
              .dead)
             .dead)
            .dead)
           .dead)
          .dead)
         .dead)
        .dead)
       .dead))
     .dead)
    .dead)
   .dead)
  .dead)
 .dead)
end Go.Proofs.Ytlffofemajfdjaa.Cx
