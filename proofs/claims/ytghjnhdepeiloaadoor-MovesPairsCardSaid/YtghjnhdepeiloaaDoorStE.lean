/-
  PACKAGE api's ERRORS AS VALUES (own work), for seats without package catch.
-/
import Derived.Test.YtghjnhdepeiloaaDoorNum
import Derived.Test.YtghjnhdepeiloaaDoorKp
namespace Go.Proofs.YtghjnhdepeiloaaDoor
open Go.RowKit

abbrev snt (a : Addr) : Value := .iface 128 (.pointer (some a))
abbrev St (ads : List Addr) (w : World) : Prop := Errs gs14 ads w
end Go.Proofs.YtghjnhdepeiloaaDoor
