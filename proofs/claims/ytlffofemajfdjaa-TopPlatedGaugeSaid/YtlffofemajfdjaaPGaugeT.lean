/- The tests of a law and their arithmetic. Made by tools/cxgoal.py. -/
import Derived.Test.YtlffofemajfdjaaCxS
set_option linter.unusedSimpArgs false
set_option linter.unusedVariables false
set_option maxRecDepth 100000
set_option maxHeartbeats 4000000
namespace Go.Proofs.Ytlffofemajfdjaa.Cx
open Go Go.RowKit

def pg0 : IE := .bin .conv .i64 (.v 0) (.c 0)
def pg1 : IE := .bin .add .i64 (.c 50000) pg0
def pg2 : IE := .bin .conv .i64 (.v 1) (.c 0)
def pg3 : IE := .bin .rem .i64 pg2 (.c 20)
def pg4 : IE := .bin .conv .i64 (.v 2) (.c 0)
def pg5 : IE := .bin .rem .i64 pg4 (.c 9)
def pg6 : IE := .bin .add .i64 pg3 pg5
def pg7 : IE := .bin .conv .i64 (.v 3) (.c 0)
def pg8 : IE := .bin .rem .i64 pg7 (.c 30)
def pg9 : IE := .bin .add .i64 (.c 1) pg8
def pg10 : IE := .bin .conv .i64 (.v 4) (.c 0)
def pg11 : IE := .bin .rem .i64 pg10 (.c 7)
def pg12 : IE := .bin .add .i64 (.c 1) pg11
def pg13 : IE := .bin .mul .i64 pg3 pg9
def pg14 : IE := .bin .sub .i64 (.c 0) pg13
def pg15 : IE := .bin .rem .i64 pg14 pg12
def pg16 : IE := .bin .mul .i64 pg6 pg9
def pg17 : IE := .bin .rem .i64 pg16 pg12
def pg18 : IE := .bin .quo .i64 pg14 pg12
def pg19 : IE := .bin .sub .i64 (.c 0) pg18
def pg20 : IE := .bin .sub .i64 (.c 50000) pg19
def pg21 : IE := .bin .quo .i64 pg16 pg12
def pg22 : IE := .bin .sub .i64 pg1 pg21
def pg23 : IE := .bin .sub .i64 pg22 (.c 60)
def pg24 : IE := .bin .conv .i64 (.v 5) (.c 0)
def pg25 : IE := .bin .rem .i64 pg24 (.c 40)
def pg26 : IE := .bin .add .i64 pg23 pg25
def pg27 : IE := .bin .conv .i64 (.v 6) (.c 0)
def pg28 : IE := .bin .rem .i64 pg27 (.c 1000)
def pg29 : IE := .bin .add .i64 (.c 1) pg28
def pg30 : IE := .bin .mul .i64 (.c 5) pg29
def pg31 : IE := .bin .sub .i64 (.c 0) pg30
def pg32 : IE := .bin .rem .i64 pg31 (.c 1000)
def pg33 : IE := .bin .mul .i64 (.c 40) pg29
def pg34 : IE := .bin .rem .i64 pg33 (.c 1000)
def pg35 : IE := .bin .sub .i64 (.c 10000000) pg23
def pg36 : IE := .bin .sub .i64 (.c 10000000) pg26
def pg37 : IE := .bin .mx .i64 pg35 pg36
def pg38 : IE := .bin .quo .i64 pg31 (.c 1000)
def pg39 : IE := .bin .sub .i64 (.c 0) pg38
def pg40 : IE := .bin .sub .i64 pg37 pg39
def pg41 : IE := .bin .mn .i64 pg40 pg40
def pg42 : IE := .bin .mn .i64 pg35 pg36
def pg43 : IE := .bin .quo .i64 pg33 (.c 1000)
def pg44 : IE := .bin .sub .i64 pg42 pg43
def pg45 : IE := .bin .add .i64 pg44 pg39
def pg46 : IE := .bin .mx .i64 pg42 pg45
def pg47 : IE := .bin .sub .i64 (.c 0) pg43
def pg48 : IE := .bin .sub .i64 pg41 pg47
def pg49 : IE := .bin .mn .i64 pg37 pg48
def pg50 : IE := .bin .add .i64 pg46 pg47
def pg51 : IE := .bin .mx .i64 pg44 pg50
def pg52 : IE := .bin .sub .i64 (.c 10000000) pg22
def pg53 : IE := .bin .sub .i64 (.c 10000000) pg51
def pg54 : IE := .bin .sub .i64 (.c 10000000) pg41
def pg55 : IE := .bin .mn .i64 pg53 pg54
def pg56 : IE := .bin .mx .i64 pg53 pg54
def pg57 : IE := .bin .mul .i64 pg56 pg12
def pg58 : IE := .bin .add .i64 pg57 pg16
def pg59 : IE := .bin .mul .i64 pg1 pg12
def pg60 : IE := .bin .add .i64 pg43 (.c 1)
def pg61 : IE := .bin .sub .i64 pg42 pg60
def pg62 : IE := .bin .add .i64 pg61 pg39
def pg63 : IE := .bin .mx .i64 pg42 pg62
def pg64 : IE := .bin .sub .i64 (.c 0) pg60
def pg65 : IE := .bin .sub .i64 pg41 pg64
def pg66 : IE := .bin .mn .i64 pg37 pg65
def pg67 : IE := .bin .add .i64 pg63 pg64
def pg68 : IE := .bin .mx .i64 pg61 pg67
def pg69 : IE := .bin .sub .i64 (.c 10000000) pg68
def pg70 : IE := .bin .mn .i64 pg69 pg54
def pg71 : IE := .bin .mx .i64 pg69 pg54
def pg72 : IE := .bin .mul .i64 pg71 pg12
def pg73 : IE := .bin .add .i64 pg72 pg16
def pg74 : IE := .bin .add .i64 pg21 (.c 1)
def pg75 : IE := .bin .sub .i64 pg1 pg74
def pg76 : IE := .bin .sub .i64 pg75 (.c 60)
def pg77 : IE := .bin .add .i64 pg76 pg25
def pg78 : IE := .bin .sub .i64 (.c 10000000) pg76
def pg79 : IE := .bin .sub .i64 (.c 10000000) pg77
def pg80 : IE := .bin .mx .i64 pg78 pg79
def pg81 : IE := .bin .sub .i64 pg80 pg39
def pg82 : IE := .bin .mn .i64 pg81 pg81
def pg83 : IE := .bin .mn .i64 pg78 pg79
def pg84 : IE := .bin .sub .i64 pg83 pg43
def pg85 : IE := .bin .add .i64 pg84 pg39
def pg86 : IE := .bin .mx .i64 pg83 pg85
def pg87 : IE := .bin .sub .i64 pg82 pg47
def pg88 : IE := .bin .mn .i64 pg80 pg87
def pg89 : IE := .bin .add .i64 pg86 pg47
def pg90 : IE := .bin .mx .i64 pg84 pg89
def pg91 : IE := .bin .sub .i64 (.c 10000000) pg75
def pg92 : IE := .bin .sub .i64 (.c 10000000) pg90
def pg93 : IE := .bin .sub .i64 (.c 10000000) pg82
def pg94 : IE := .bin .mn .i64 pg92 pg93
def pg95 : IE := .bin .mx .i64 pg92 pg93
def pg96 : IE := .bin .mul .i64 pg95 pg12
def pg97 : IE := .bin .add .i64 pg96 pg16
def pg98 : IE := .bin .sub .i64 pg83 pg60
def pg99 : IE := .bin .add .i64 pg98 pg39
def pg100 : IE := .bin .mx .i64 pg83 pg99
def pg101 : IE := .bin .sub .i64 pg82 pg64
def pg102 : IE := .bin .mn .i64 pg80 pg101
def pg103 : IE := .bin .add .i64 pg100 pg64
def pg104 : IE := .bin .mx .i64 pg98 pg103
def pg105 : IE := .bin .sub .i64 (.c 10000000) pg104
def pg106 : IE := .bin .mn .i64 pg105 pg93
def pg107 : IE := .bin .mx .i64 pg105 pg93
def pg108 : IE := .bin .mul .i64 pg107 pg12
def pg109 : IE := .bin .add .i64 pg108 pg16
def pgTree : DT :=
(.ask (.cmp .leq (.c 50000) pg1)
 (.ask (.cmp .leq pg1 (.c 20000000))
  (.ask (.cmp .leq (.c 0) pg3)
   (.ask (.cmp .leq pg3 pg6)
    (.ask (.cmp .leq pg6 (.c 10000))
     (.ask (.cmp .leq (.c 1) pg9)
      (.ask (.cmp .leq pg9 (.c 1000))
       (.ask (.cmp .leq (.c 1) pg12)
        (.ask (.cmp .leq pg12 (.c 1000))
         (.ask (.cmp .eql pg12 (.c 0))
          .dead
          (.ask (.cmp .leq pg15 (.c 0))
           (.ask (.cmp .leq pg17 (.c 0))
            (.ask (.cmp .leq pg20 pg22)
             (.ask (.cmp .leq (.c 1000) pg22)
              (.ask (.cmp .leq (.c 0) pg23)
               (.ask (.cmp .leq pg23 pg26)
                (.ask (.cmp .leq pg26 (.c 10000000))
                 (.ask (.cmp .leq (.c 1) pg29)
                  (.ask (.cmp .leq pg29 (.c 100000))
                   (.ask (.cmp .leq (.c 0) pg22)
                    (.ask (.cmp .leq pg22 (.c 10000000))
                     (.ask (.cmp .leq pg32 (.c 0))
                      (.ask (.cmp .leq pg34 (.c 0))
                       (.ask (.cmp .leq pg40 pg41)
                        (.ask (.cmp .leq pg46 pg42)
                         (.ask (.cmp .leq pg37 pg49)
                          (.ask (.cmp .leq pg51 pg44)
                           (.ask (.cmp .leq pg46 pg49)
                            (.ask (.cmp .leq pg51 pg41)
                             (.ask (.cmp .leq pg52 pg41)
                              (.ask (.cmp .leq pg55 pg22)
                               (.ask (.cmp .leq pg52 pg51)
                                (.ask (.cmp .leq pg56 pg22)
                                 (.ask (.cmp .leq pg58 pg59)
                                  (.leaf (.c true))
                                  .dead)
                                 .dead)
                                (.ask (.cmp .leq pg56 pg22)
                                 .dead
                                 (.ask (.cmp .leq pg58 pg59)
                                  .dead
                                  (.leaf (.c true)))))
                               .dead)
                              .dead)
                             .dead)
                            .dead)
                           .dead)
                          .dead)
                         .dead)
                        .dead)
                       (.ask (.cmp .leq pg40 pg41)
                        (.ask (.cmp .leq pg63 pg42)
                         (.ask (.cmp .leq pg37 pg66)
                          (.ask (.cmp .leq pg68 pg61)
                           (.ask (.cmp .leq pg63 pg66)
                            (.ask (.cmp .leq pg68 pg41)
                             (.ask (.cmp .leq pg52 pg41)
                              (.ask (.cmp .leq pg70 pg22)
                               (.ask (.cmp .leq pg52 pg68)
                                (.ask (.cmp .leq pg71 pg22)
                                 (.ask (.cmp .leq pg73 pg59)
                                  (.leaf (.c true))
                                  .dead)
                                 .dead)
                                (.ask (.cmp .leq pg71 pg22)
                                 .dead
                                 (.ask (.cmp .leq pg73 pg59)
                                  .dead
                                  (.leaf (.c true)))))
                               .dead)
                              .dead)
                             .dead)
                            .dead)
                           .dead)
                          .dead)
                         .dead)
                        .dead))
                      .dead)
                     .dead)
                    .dead)
                   .dead)
                  .dead)
                 .dead)
                .dead)
               .dead)
              .dead)
             (.leaf (.c true)))
            (.ask (.cmp .leq pg20 pg75)
             (.ask (.cmp .leq (.c 1000) pg75)
              (.ask (.cmp .leq (.c 0) pg76)
               (.ask (.cmp .leq pg76 pg77)
                (.ask (.cmp .leq pg77 (.c 10000000))
                 (.ask (.cmp .leq (.c 1) pg29)
                  (.ask (.cmp .leq pg29 (.c 100000))
                   (.ask (.cmp .leq (.c 0) pg75)
                    (.ask (.cmp .leq pg75 (.c 10000000))
                     (.ask (.cmp .leq pg32 (.c 0))
                      (.ask (.cmp .leq pg34 (.c 0))
                       (.ask (.cmp .leq pg81 pg82)
                        (.ask (.cmp .leq pg86 pg83)
                         (.ask (.cmp .leq pg80 pg88)
                          (.ask (.cmp .leq pg90 pg84)
                           (.ask (.cmp .leq pg86 pg88)
                            (.ask (.cmp .leq pg90 pg82)
                             (.ask (.cmp .leq pg91 pg82)
                              (.ask (.cmp .leq pg94 pg75)
                               (.ask (.cmp .leq pg91 pg90)
                                (.ask (.cmp .leq pg95 pg75)
                                 (.ask (.cmp .leq pg97 pg59)
                                  (.leaf (.c true))
                                  .dead)
                                 .dead)
                                (.ask (.cmp .leq pg95 pg75)
                                 .dead
                                 (.ask (.cmp .leq pg97 pg59)
                                  .dead
                                  (.leaf (.c true)))))
                               .dead)
                              .dead)
                             .dead)
                            .dead)
                           .dead)
                          .dead)
                         .dead)
                        .dead)
                       (.ask (.cmp .leq pg81 pg82)
                        (.ask (.cmp .leq pg100 pg83)
                         (.ask (.cmp .leq pg80 pg102)
                          (.ask (.cmp .leq pg104 pg98)
                           (.ask (.cmp .leq pg100 pg102)
                            (.ask (.cmp .leq pg104 pg82)
                             (.ask (.cmp .leq pg91 pg82)
                              (.ask (.cmp .leq pg106 pg75)
                               (.ask (.cmp .leq pg91 pg104)
                                (.ask (.cmp .leq pg107 pg75)
                                 (.ask (.cmp .leq pg109 pg59)
                                  (.leaf (.c true))
                                  .dead)
                                 .dead)
                                (.ask (.cmp .leq pg107 pg75)
                                 .dead
                                 (.ask (.cmp .leq pg109 pg59)
                                  .dead
                                  (.leaf (.c true)))))
                               .dead)
                              .dead)
                             .dead)
                            .dead)
                           .dead)
                          .dead)
                         .dead)
                        .dead))
                      .dead)
                     .dead)
                    .dead)
                   .dead)
                  .dead)
                 .dead)
                .dead)
               .dead)
              .dead)
             (.leaf (.c true))))
           .dead))
         .dead)
        .dead)
       .dead)
      .dead)
     .dead)
    .dead)
   .dead)
  .dead)
 .dead)
end Go.Proofs.Ytlffofemajfdjaa.Cx
