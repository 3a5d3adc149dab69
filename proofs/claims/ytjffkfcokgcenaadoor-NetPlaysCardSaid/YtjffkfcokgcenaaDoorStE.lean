/-
  PACKAGE api's ERRORS AS VALUES (own work), for seats without package catch.
-/
import Derived.Test.YtjffkfcokgcenaaDoorNum
import Derived.Test.YtjffkfcokgcenaaDoorKp
namespace Go.Proofs.YtjffkfcokgcenaaDoor
open Go.RowKit

abbrev snt (a : Addr) : Value := .iface 108 (.pointer (some a))
abbrev St (ads : List Addr) (w : World) : Prop := Errs gs14 ads w
end Go.Proofs.YtjffkfcokgcenaaDoor
