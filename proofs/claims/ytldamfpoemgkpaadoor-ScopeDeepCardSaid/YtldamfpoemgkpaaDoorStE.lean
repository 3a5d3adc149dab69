/-
  PACKAGE api's ERRORS AS VALUES (own work), for seats without package catch.
-/
import Derived.Test.YtldamfpoemgkpaaDoorNum
import Derived.Test.YtldamfpoemgkpaaDoorKp
namespace Go.Proofs.YtldamfpoemgkpaaDoor
open Go.RowKit

abbrev snt (a : Addr) : Value := .iface 115 (.pointer (some a))
abbrev St (ads : List Addr) (w : World) : Prop := Errs gs14 ads w
end Go.Proofs.YtldamfpoemgkpaaDoor
