/-
  A STORE OF A FLOAT (own work): what it does, in the walk's words.
-/
import Derived.Test.YtanbeaebdingeaaDoorKp
import Derived.WalkLawsBesides
namespace Go.Proofs.YtanbeaebdingeaaDoor
open Go.RowKit Go.ChangeShapes Go.WideShapes

theorem store_fl (w : World) (a : Addr) (x : Nat) : (store a (.float .f64 x)).run Tryd.prog w = match w.cell? a with
      | some _ => if w.frozen? a then .halt (.unsupported (.unsafePointer "a write to bytes that a string shares")) w else .ok () (w.setCell a (.float .f64 x))
      | none => match w.farStore Tryd.prog a (.float .f64 x) (Mode.plain == .atomic) with
        | .ok (w', _) => .ok () w'
        | .error h => .halt h w := run_store Tryd.prog w a (.float .f64 x) .plain rfl
end Go.Proofs.YtanbeaebdingeaaDoor
