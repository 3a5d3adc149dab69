/-
  PACKAGE api's ERRORS AS VALUES (own work), for seats without package catch.
-/
import Derived.Test.YtanbeaebdingeaaDoorNum
import Derived.Test.YtanbeaebdingeaaDoorKp
namespace Go.Proofs.YtanbeaebdingeaaDoor
open Go.RowKit

abbrev snt (a : Addr) : Value := .iface 131 (.pointer (some a))
abbrev St (ads : List Addr) (w : World) : Prop := Errs gs14 ads w
end Go.Proofs.YtanbeaebdingeaaDoor
