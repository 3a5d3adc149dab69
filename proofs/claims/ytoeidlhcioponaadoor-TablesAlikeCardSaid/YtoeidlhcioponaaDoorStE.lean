/-
  PACKAGE api's ERRORS AS VALUES (own work), for seats without package catch.
-/
import Derived.Test.YtoeidlhcioponaaDoorNum
import Derived.Test.YtoeidlhcioponaaDoorKp
namespace Go.Proofs.YtoeidlhcioponaaDoor
open Go.RowKit

abbrev snt (a : Addr) : Value := .iface 80 (.pointer (some a))
abbrev St (ads : List Addr) (w : World) : Prop := Errs gs14 ads w
end Go.Proofs.YtoeidlhcioponaaDoor
