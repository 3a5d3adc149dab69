/-
  PACKAGE api's ERRORS AS VALUES (own work), for seats without package catch.
-/
import Derived.Test.YtjilfkfhnbhjiaaDoorNum
import Derived.Test.YtjilfkfhnbhjiaaDoorKp
namespace Go.Proofs.YtjilfkfhnbhjiaaDoor
open Go.RowKit

abbrev snt (a : Addr) : Value := .iface 132 (.pointer (some a))
abbrev St (ads : List Addr) (w : World) : Prop := Errs gs14 ads w
end Go.Proofs.YtjilfkfhnbhjiaaDoor
