/-
  IdsReads' WALKS (own work).
-/
import Derived.Test.YtjilfkfhnbhjiaaDoorReaA
import Derived.Test.YtjilfkfhnbhjiaaDoorReaB
import Derived.Test.YtjilfkfhnbhjiaaDoorReaC
import Derived.Test.YtjilfkfhnbhjiaaDoorReaD
namespace Go.Proofs.YtjilfkfhnbhjiaaDoor
open Go.RowKit Go.ChangeShapes Go.WideShapes

set_option maxRecDepth 20000 in
theorem rea_long (ads : List Addr) (s : ByteArray) (hs : 200 < s.size) (w : World) (V : St ads w) (I : IdsC ads w) :
    Calls Tryd.prog 4 #[.string s] w fun e w' => e = .returned (.bool true) ∧ Kp w w' := by
  have HAL := Lib.hid (alive_any ads w V I)
  obtain ⟨ns, hns⟩ : ∃ n : Int, (s.size : Int) = n := ⟨_, rfl⟩
  have hg : ns > 200 := by omega
  clear V I
  go_enter Tryd.func4, Tryd.ntmps4
  go_wp2_with (go_at_call 7; (with_reducible refine HAL.out.mono ?_); rintro e w1 ⟨rfl, hk⟩; have KK := Lib.hid hk; clear hk)
  go_ret
  exact ⟨rfl, KK.out⟩
theorem reads_any (ads : List Addr) (s : ByteArray) (w : World) (V : St ads w) (I : IdsC ads w) :
    Calls Tryd.prog 4 #[.string s] w fun e w' => e = .returned (.bool true) ∧ Kp w w' := by
  by_cases hs : s.size ≤ 200
  · by_cases h0 : (nodeN (strB s)).2 = 0 <;> by_cases h1 : (actN (strB s)).2 = 0 <;> by_cases h2 : (regN (strB s)).2 = 0 <;> by_cases h3 : (partN (strB s)).2 = 0
    · exact rea_tttt ads s hs w V I h0 h1 h2 h3
    · exact rea_tttf ads s hs w V I h0 h1 h2 h3
    · exact rea_ttft ads s hs w V I h0 h1 h2 h3
    · exact rea_ttff ads s hs w V I h0 h1 h2 h3
    · exact rea_tftt ads s hs w V I h0 h1 h2 h3
    · exact rea_tftf ads s hs w V I h0 h1 h2 h3
    · exact rea_tfft ads s hs w V I h0 h1 h2 h3
    · exact rea_tfff ads s hs w V I h0 h1 h2 h3
    · exact rea_fttt ads s hs w V I h0 h1 h2 h3
    · exact rea_fttf ads s hs w V I h0 h1 h2 h3
    · exact rea_ftft ads s hs w V I h0 h1 h2 h3
    · exact rea_ftff ads s hs w V I h0 h1 h2 h3
    · exact rea_fftt ads s hs w V I h0 h1 h2 h3
    · exact rea_fftf ads s hs w V I h0 h1 h2 h3
    · exact rea_ffft ads s hs w V I h0 h1 h2 h3
    · exact rea_ffff ads s hs w V I h0 h1 h2 h3
  · exact rea_long ads s (by omega) w V I
end Go.Proofs.YtjilfkfhnbhjiaaDoor
