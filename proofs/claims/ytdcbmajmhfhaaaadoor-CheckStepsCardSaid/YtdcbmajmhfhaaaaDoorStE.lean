/-
  PACKAGE api's ERRORS AS VALUES (own work), for seats without package catch.
-/
import Derived.Test.YtdcbmajmhfhaaaaDoorNum
import Derived.Test.YtdcbmajmhfhaaaaDoorKp
namespace Go.Proofs.YtdcbmajmhfhaaaaDoor
open Go.RowKit

abbrev snt (a : Addr) : Value := .iface 61 (.pointer (some a))
abbrev St (ads : List Addr) (w : World) : Prop := Errs gs14 ads w
end Go.Proofs.YtdcbmajmhfhaaaaDoor
