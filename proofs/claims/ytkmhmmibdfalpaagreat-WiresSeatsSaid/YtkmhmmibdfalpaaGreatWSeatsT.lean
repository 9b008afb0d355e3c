/- The tests of a law and their arithmetic. Made by tools/cxgoal.py. -/
import Derived.Test.YtkmhmmibdfalpaaGreatCxS
set_option linter.unusedSimpArgs false
set_option linter.unusedVariables false
set_option maxRecDepth 100000
set_option maxHeartbeats 4000000
namespace Go.Proofs.YtkmhmmibdfalpaaGreat.Cx
open Go Go.RowKit

def ws0 : IE := .bin .add .i64 (.v 3) (.v 4)
def ws1 : IE := .bin .mx .i64 (.v 3) (.v 4)
def ws2 : IE := .bin .add .i64 (.v 1) (.v 2)
def ws3 : IE := .bin .mul .i64 ws1 ws2
def ws4 : IE := .bin .mul .i64 (.c 500) (.v 0)
def ws5 : IE := .bin .sub .i64 (.v 7) (.c 1000)
def ws6 : IE := .bin .mul .i64 ws5 (.v 9)
def ws7 : IE := .bin .mul .i64 (.v 8) (.v 0)
def ws8 : IE := .bin .sub .i64 ws6 ws7
def ws9 : IE := .bin .mul .i64 ws8 ws5
def ws10 : IE := .bin .mul .i64 (.c 1000000) (.v 9)
def ws11 : IE := .bin .sub .i64 ws9 ws10
def ws12 : IE := .bin .mul .i64 (.c 2000) ws5
def ws13 : IE := .bin .mul .i64 (.c 1000) (.v 9)
def ws14 : IE := .bin .add .i64 ws8 ws13
def ws15 : IE := .bin .sub .i64 (.c 0) (.v 4)
def ws16 : IE := .bin .gcd .i64 ws11 ws12
def ws17 : IE := .bin .quo .i64 ws12 ws16
def ws18 : IE := .bin .mul .i64 ws15 ws17
def ws19 : IE := .bin .quo .i64 ws11 ws16
def ws20 : IE := .bin .mul .i64 (.v 3) ws17
def ws21 : IE := .bin .mul .i64 (.c 1000) (.v 0)
def ws22 : IE := .bin .mul .i64 (.c 2) (.v 3)
def ws23 : IE := .bin .mul .i64 ws22 ws2
def ws24 : IE := .bin .sub .i64 ws21 ws23
def ws25 : IE := .bin .mul .i64 (.c 2) ws15
def ws26 : IE := .bin .mul .i64 ws25 ws2
def ws27 : IE := .bin .sub .i64 ws21 ws26
def ws28 : IE := .bin .mul .i64 (.c 2000) (.v 0)
def ws29 : IE := .bin .gcd .i64 ws14 (.c 2000)
def ws30 : IE := .bin .quo .i64 (.c 2000) ws29
def ws31 : IE := .bin .mul .i64 (.v 3) ws30
def ws32 : IE := .bin .quo .i64 ws14 ws29
def wsTree : DT :=
(.ask (.cmp .leq (.c 100) (.v 0))
 (.ask (.cmp .leq (.v 0) (.c 200000))
  (.ask (.cmp .leq (.c 0) (.v 1))
   (.ask (.cmp .leq (.v 1) (.c 3000))
    (.ask (.cmp .leq (.c 0) (.v 2))
     (.ask (.cmp .leq (.v 2) (.c 3000))
      (.ask (.cmp .leq (.c 0) (.v 3))
       (.ask (.cmp .leq (.v 3) (.c 200000))
        (.ask (.cmp .leq (.c 0) (.v 4))
         (.ask (.cmp .leq (.v 4) (.c 200000))
          (.ask (.cmp .leq (.c 1) (.v 5))
           (.ask (.cmp .leq (.v 5) (.c 8))
            (.ask (.cmp .leq (.c 0) (.v 6))
             (.ask (.cmp .leq (.v 6) (.c 100))
              (.ask (.cmp .leq (.c 1) ws0)
               (.ask (.cmp .leq ws3 ws4)
                (.ask (.cmp .leq (.c 1001) (.v 7))
                 (.ask (.cmp .leq (.v 7) (.c 20000))
                  (.ask (.cmp .leq (.c 0) (.v 8))
                   (.ask (.cmp .leq (.v 8) (.c 20000))
                    (.ask (.cmp .leq (.c 1) (.v 9))
                     (.ask (.cmp .leq (.v 9) (.c 100000))
                      (.ask (.cmp .leq (.c (-9223372036854775807)) ws11)
                       (.ask (.cmp .leq ws11 (.c 9223372036854775807))
                        (.ask (.cmp .leq (.c 1) ws12)
                         (.ask (.cmp .leq ws12 (.c 9223372036854775807))
                          (.ask (.cmp .leq (.c (-9223372036854775807)) ws14)
                           (.ask (.cmp .leq ws14 (.c 9223372036854775807))
                            (.ask (.cmp .leq ws18 ws19)
                             (.ask (.cmp .leq ws19 ws20)
                              (.ask (.cmp .eql ws0 (.c 0))
                               .dead
                               (.ask (.cmp .leq (.c 0) ws24)
                                (.ask (.cmp .leq ws27 ws28)
                                 (.ask (.cmp .leq ws31 ws32)
                                  (.leaf (.c true))
                                  (.leaf (.c true)))
                                 .dead)
                                .dead))
                              (.ask (.cmp .eql ws0 (.c 0))
                               .dead
                               (.ask (.cmp .leq (.c 0) ws24)
                                (.ask (.cmp .leq ws27 ws28)
                                 (.leaf (.c true))
                                 .dead)
                                .dead)))
                             (.ask (.cmp .eql ws0 (.c 0))
                              .dead
                              (.ask (.cmp .leq (.c 0) ws24)
                               (.ask (.cmp .leq ws27 ws28)
                                (.leaf (.c true))
                                .dead)
                               .dead)))
                            .dead)
                           .dead)
                          .dead)
                         .dead)
                        .dead)
                       .dead)
                      (.ask (.cmp .eql ws0 (.c 0))
                       .dead
                       (.ask (.cmp .leq (.c 0) ws24)
                        (.ask (.cmp .leq ws27 ws28)
                         (.leaf (.c true))
                         .dead)
                        .dead)))
                     (.ask (.cmp .eql ws0 (.c 0))
                      .dead
                      (.ask (.cmp .leq (.c 0) ws24)
                       (.ask (.cmp .leq ws27 ws28)
                        (.leaf (.c true))
                        .dead)
                       .dead)))
                    (.ask (.cmp .eql ws0 (.c 0))
                     .dead
                     (.ask (.cmp .leq (.c 0) ws24)
                      (.ask (.cmp .leq ws27 ws28)
                       (.leaf (.c true))
                       .dead)
                      .dead)))
                   (.ask (.cmp .eql ws0 (.c 0))
                    .dead
                    (.ask (.cmp .leq (.c 0) ws24)
                     (.ask (.cmp .leq ws27 ws28)
                      (.leaf (.c true))
                      .dead)
                     .dead)))
                  (.ask (.cmp .eql ws0 (.c 0))
                   .dead
                   (.ask (.cmp .leq (.c 0) ws24)
                    (.ask (.cmp .leq ws27 ws28)
                     (.leaf (.c true))
                     .dead)
                    .dead)))
                 (.ask (.cmp .eql ws0 (.c 0))
                  .dead
                  (.ask (.cmp .leq (.c 0) ws24)
                   (.ask (.cmp .leq ws27 ws28)
                    (.leaf (.c true))
                    .dead)
                   .dead)))
                (.ask (.cmp .eql ws0 (.c 0))
                 .dead
                 (.ask (.cmp .leq (.c 0) ws24)
                  (.ask (.cmp .leq ws27 ws28)
                   .dead
                   (.leaf (.c true)))
                  (.leaf (.c true)))))
               (.ask (.cmp .eql ws0 (.c 0))
                (.leaf (.c true))
                .dead))
              (.ask (.cmp .eql ws0 (.c 0))
               (.leaf (.c true))
               (.leaf (.c true))))
             (.ask (.cmp .eql ws0 (.c 0))
              (.leaf (.c true))
              (.leaf (.c true))))
            (.ask (.cmp .eql ws0 (.c 0))
             (.leaf (.c true))
             (.leaf (.c true))))
           (.ask (.cmp .eql ws0 (.c 0))
            (.leaf (.c true))
            (.leaf (.c true))))
          (.leaf (.c true)))
         (.leaf (.c true)))
        (.leaf (.c true)))
       (.leaf (.c true)))
      (.leaf (.c true)))
     (.leaf (.c true)))
    (.leaf (.c true)))
   (.leaf (.c true)))
  (.leaf (.c true)))
 (.leaf (.c true)))
end Go.Proofs.YtkmhmmibdfalpaaGreat.Cx
