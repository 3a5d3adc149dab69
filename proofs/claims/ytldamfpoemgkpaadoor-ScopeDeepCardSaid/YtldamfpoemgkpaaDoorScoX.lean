/-
  PACKAGE scope ANSWERS SO (own work): ScoC out of the landed code.
-/
import Derived.Test.YtldamfpoemgkpaaDoorScoC
import Derived.Test.YtldamfpoemgkpaaDoorScoN
import Derived.Test.YtldamfpoemgkpaaDoorScoH
namespace Go.Proofs.YtldamfpoemgkpaaDoor
open Go.RowKit Go.ChangeShapes Go.WideShapes

theorem scoC_of (ads : List Addr) (W : World) (V : St ads W) (T : Tab W) : ScoC ads W where
  right := fun w1 hk c hc => scoRight_any ads c hc w1 (V.below hk) (T.kp hk)
  new := fun w1 hk an aw oc t l ht hl => scoNew_any ads an aw oc t l ht hl w1 (V.below hk) (T.kp hk)
  child := fun w1 hk c an aw oc hc => scoChild_any ads c an aw oc hc w1 (V.below hk) (T.kp hk)
  opn := fun w1 hk c t hc ht => scoOpen_any ads c t hc ht w1 (V.below hk) (T.kp hk)
  same := fun w1 _ a b ha hb => scoSame_any a b ha hb w1
end Go.Proofs.YtldamfpoemgkpaaDoor
