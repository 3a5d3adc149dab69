/-
  catch.Try (own work) of what turns no old memory: bytes of the call's own; a value that is known; one of package api's errors.
-/
import Derived.Test.YtfealdllicicnaaDoorTryF
namespace Go.Proofs.YtfealdllicicnaaDoor
open Go.RowKit Go.Extern.Stop Go.Stop Go.Extern

theorem kp_of_mid {w w1 w2 w' : World} (h1 : Below w.heap.size w w1) (h2 : Kp w1 w2) (h3 : Below w.heap.size w2 w') : Kp w w' :=
  Below.trans (Kp.trans h1 h2) h3

theorem try_bytes_own (f : FuncId) (caps : Array Value) (bs : List Int) (w : World) (hf : ∀ w, (callFunc f caps).run Tryd.prog w = .ok (.enter f caps) w)
    (H : ∀ w1, Kp w w1 → Calls Tryd.prog f caps w1 fun e w2 => ∃ v, e = .returned v ∧ w2.ownsRow w1.heap.size 5 1 v bs.length (bs.map (Value.int .u8)) ∧ Kp w1 w2) :
    Calls Tryd.prog 35 #[.func (.func f) #[] caps] w fun e w' => ∃ v, e = .returned (.tuple #[v, .nilIface]) ∧ w'.ownsRow w.heap.size 5 1 v bs.length (bs.map (Value.int .u8)) ∧ Kp w w' := by
  refine (try_bytes_ret f caps w (fun v w1 w2 => w2.ownsRow w1.heap.size 5 1 v bs.length (bs.map (Value.int .u8)) ∧ Kp w1 w2) hf fun w1 hb _ => ?_).mono ?_
  · refine (H w1 hb).mono ?_
    rintro e w2 ⟨v, rfl, ho, hk⟩
    exact ⟨v, rfl, past_of hk, ho, hk⟩
  · rintro e w' ⟨v, rfl, w1, w2, hb, hs, ⟨ho, hk⟩, hb2, ha⟩
    exact ⟨v, rfl, own_mono (own_aside ho ha (by omega)) (Below.size hb), kp_of_mid hb hk hb2⟩


theorem try_bytes_err (ads : List Addr) (k : Nat) (hk : k < ads.length) (f : FuncId) (caps : Array Value) (w : World) (V : St ads w) (hf : ∀ w, (callFunc f caps).run Tryd.prog w = .ok (.enter f caps) w)
    (H : ∀ w1, Kp w w1 → Calls Tryd.prog f caps w1 fun e w2 => e = .panicked [{ v := snt ads[k], recovered := false }] ∧ Kp w1 w2) :
    Calls Tryd.prog 35 #[.func (.func f) #[] caps] w fun e w' => e = .returned (.tuple #[.slice none 0 0, snt ads[k]]) ∧ Kp w w' := by
  refine (try_bytes_panic ads k hk f caps w (fun w1 w2 => Kp w1 w2) hf fun w1 hb _ => ?_).mono ?_
  · refine (H w1 hb).mono ?_
    rintro e w2 ⟨rfl, hk2⟩
    exact ⟨rfl, V.below (Kp.trans hb hk2), past_of hk2, hk2⟩
  · rintro e w' ⟨rfl, w1, w2, hb, _, hk2, hb2⟩
    exact ⟨rfl, kp_of_mid hb hk2 hb2⟩


theorem try_int_err (ads : List Addr) (k : Nat) (hk : k < ads.length) (f : FuncId) (caps : Array Value) (w : World) (V : St ads w) (hf : ∀ w, (callFunc f caps).run Tryd.prog w = .ok (.enter f caps) w)
    (H : ∀ w1, Kp w w1 → Calls Tryd.prog f caps w1 fun e w2 => e = .panicked [{ v := snt ads[k], recovered := false }] ∧ Kp w1 w2) :
    Calls Tryd.prog 47 #[.func (.func f) #[] caps] w fun e w' => e = .returned (.tuple #[.int .i64 0, snt ads[k]]) ∧ Kp w w' := by
  refine (try_int_panic ads k hk f caps w (fun w1 w2 => Kp w1 w2) hf fun w1 hb _ => ?_).mono ?_
  · refine (H w1 hb).mono ?_
    rintro e w2 ⟨rfl, hk2⟩
    exact ⟨rfl, V.below (Kp.trans hb hk2), past_of hk2, hk2⟩
  · rintro e w' ⟨rfl, w1, w2, hb, _, hk2, hb2⟩
    exact ⟨rfl, kp_of_mid hb hk2 hb2⟩


theorem try_int_val (f : FuncId) (caps : Array Value) (x : Int) (w : World) (hf : ∀ w, (callFunc f caps).run Tryd.prog w = .ok (.enter f caps) w)
    (H : ∀ w1, Kp w w1 → Calls Tryd.prog f caps w1 fun e w2 => e = .returned (.int .i64 x) ∧ Kp w1 w2) :
    Calls Tryd.prog 47 #[.func (.func f) #[] caps] w fun e w' => e = .returned (.tuple #[.int .i64 x, .nilIface]) ∧ Kp w w' := by
  refine (try_int_ret f caps w (fun u w1 w2 => u = .int .i64 x ∧ Kp w1 w2) hf fun w1 hb _ => ?_).mono ?_
  · refine (H w1 hb).mono ?_
    rintro e w2 ⟨rfl, hk⟩
    exact ⟨_, rfl, past_of hk, rfl, hk⟩
  · rintro e w' ⟨u, rfl, w1, w2, hb, _, ⟨rfl, hk⟩, hb2, _⟩
    exact ⟨rfl, kp_of_mid hb hk hb2⟩


theorem try_f64_err (ads : List Addr) (k : Nat) (hk : k < ads.length) (f : FuncId) (caps : Array Value) (w : World) (V : St ads w) (hf : ∀ w, (callFunc f caps).run Tryd.prog w = .ok (.enter f caps) w)
    (H : ∀ w1, Kp w w1 → Calls Tryd.prog f caps w1 fun e w2 => e = .panicked [{ v := snt ads[k], recovered := false }] ∧ Kp w1 w2) :
    Calls Tryd.prog 50 #[.func (.func f) #[] caps] w fun e w' => e = .returned (.tuple #[.float .f64 0, snt ads[k]]) ∧ Kp w w' := by
  refine (try_f64_panic ads k hk f caps w (fun w1 w2 => Kp w1 w2) hf fun w1 hb _ => ?_).mono ?_
  · refine (H w1 hb).mono ?_
    rintro e w2 ⟨rfl, hk2⟩
    exact ⟨rfl, V.below (Kp.trans hb hk2), past_of hk2, hk2⟩
  · rintro e w' ⟨rfl, w1, w2, hb, _, hk2, hb2⟩
    exact ⟨rfl, kp_of_mid hb hk2 hb2⟩


theorem try_f64_val (f : FuncId) (caps : Array Value) (x : Nat) (w : World) (hf : ∀ w, (callFunc f caps).run Tryd.prog w = .ok (.enter f caps) w)
    (H : ∀ w1, Kp w w1 → Calls Tryd.prog f caps w1 fun e w2 => e = .returned (.float .f64 x) ∧ Kp w1 w2) :
    Calls Tryd.prog 50 #[.func (.func f) #[] caps] w fun e w' => e = .returned (.tuple #[.float .f64 x, .nilIface]) ∧ Kp w w' := by
  refine (try_f64_ret f caps w (fun u w1 w2 => u = .float .f64 x ∧ Kp w1 w2) hf fun w1 hb _ => ?_).mono ?_
  · refine (H w1 hb).mono ?_
    rintro e w2 ⟨rfl, hk⟩
    exact ⟨_, rfl, past_of hk, rfl, hk⟩
  · rintro e w' ⟨u, rfl, w1, w2, hb, _, ⟨rfl, hk⟩, hb2, _⟩
    exact ⟨rfl, kp_of_mid hb hk hb2⟩


theorem try_bool_err (ads : List Addr) (k : Nat) (hk : k < ads.length) (f : FuncId) (caps : Array Value) (w : World) (V : St ads w) (hf : ∀ w, (callFunc f caps).run Tryd.prog w = .ok (.enter f caps) w)
    (H : ∀ w1, Kp w w1 → Calls Tryd.prog f caps w1 fun e w2 => e = .panicked [{ v := snt ads[k], recovered := false }] ∧ Kp w1 w2) :
    Calls Tryd.prog 56 #[.func (.func f) #[] caps] w fun e w' => e = .returned (.tuple #[.bool false, snt ads[k]]) ∧ Kp w w' := by
  refine (try_bool_panic ads k hk f caps w (fun w1 w2 => Kp w1 w2) hf fun w1 hb _ => ?_).mono ?_
  · refine (H w1 hb).mono ?_
    rintro e w2 ⟨rfl, hk2⟩
    exact ⟨rfl, V.below (Kp.trans hb hk2), past_of hk2, hk2⟩
  · rintro e w' ⟨rfl, w1, w2, hb, _, hk2, hb2⟩
    exact ⟨rfl, kp_of_mid hb hk2 hb2⟩


theorem try_bool_val (f : FuncId) (caps : Array Value) (x : Bool) (w : World) (hf : ∀ w, (callFunc f caps).run Tryd.prog w = .ok (.enter f caps) w)
    (H : ∀ w1, Kp w w1 → Calls Tryd.prog f caps w1 fun e w2 => e = .returned (.bool x) ∧ Kp w1 w2) :
    Calls Tryd.prog 56 #[.func (.func f) #[] caps] w fun e w' => e = .returned (.tuple #[.bool x, .nilIface]) ∧ Kp w w' := by
  refine (try_bool_ret f caps w (fun u w1 w2 => u = .bool x ∧ Kp w1 w2) hf fun w1 hb _ => ?_).mono ?_
  · refine (H w1 hb).mono ?_
    rintro e w2 ⟨rfl, hk⟩
    exact ⟨_, rfl, past_of hk, rfl, hk⟩
  · rintro e w' ⟨u, rfl, w1, w2, hb, _, ⟨rfl, hk⟩, hb2, _⟩
    exact ⟨rfl, kp_of_mid hb hk hb2⟩

end Go.Proofs.YtfealdllicicnaaDoor
