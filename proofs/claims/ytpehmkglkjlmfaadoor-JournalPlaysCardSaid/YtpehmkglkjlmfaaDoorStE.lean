/-
  PACKAGE api's ERRORS AS VALUES (own work), for seats without package catch.
-/
import Derived.Test.YtpehmkglkjlmfaaDoorNum
import Derived.Test.YtpehmkglkjlmfaaDoorKp
namespace Go.Proofs.YtpehmkglkjlmfaaDoor
open Go.RowKit

abbrev snt (a : Addr) : Value := .iface 121 (.pointer (some a))
abbrev St (ads : List Addr) (w : World) : Prop := Errs gs14 ads w
end Go.Proofs.YtpehmkglkjlmfaaDoor
