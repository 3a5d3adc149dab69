/-
  PACKAGE api's ERRORS AS VALUES (own work), for seats without package catch.
-/
import Derived.Test.YtjgakdcjkddpiaaDoorNum
import Derived.Test.YtjgakdcjkddpiaaDoorKp
namespace Go.Proofs.YtjgakdcjkddpiaaDoor
open Go.RowKit

abbrev snt (a : Addr) : Value := .iface 75 (.pointer (some a))
abbrev St (ads : List Addr) (w : World) : Prop := Errs gs14 ads w
end Go.Proofs.YtjgakdcjkddpiaaDoor
