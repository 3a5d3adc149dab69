/-
  strconv.Atoi("text") (own work, by the library's contract): 0, and a new *NumError around strconv.ErrSyntax.
-/
import Derived.Test.YtcgcliglcdfijaaDoorAtoi
import Derived.Test.YtcgcliglcdfijaaDoorPv
namespace Go.Proofs.YtcgcliglcdfijaaDoor
open Go.RowKit

theorem atoi_text (ads : List Addr) (s : Addr) (w : World) (V : St ads (some s) w) :
    Calls Tryd.prog 30 #[.string { data := #[116, 101, 120, 116] }] w fun e w' =>
      ∃ N, e = .returned (.tuple #[.int .i64 0, .iface 71 (.pointer (some ⟨N, 0, none⟩))]) ∧ w'.cell? ⟨N, 2, none⟩ = some (snt s) ∧ Kp w w' := by
  refine (Any.strconv_Atoi_syntax Tryd.laysC172 { data := #[116, 101, 120, 116] } (by decide) (by decide) (snt s) w (V.syn s rfl) (.inr ⟨_, _, rfl⟩)).mono ?_
  rintro e w' ⟨N, he, hN, hr, hb⟩
  refine ⟨N, he, ?_, hb⟩
  have hr' : w'.heap[N]? = some (.cells #[.string ⟨#[65, 116, 111, 105]⟩, .string { data := #[116, 101, 120, 116] }, snt s] 89 (0, 0)) := hr
  simp [World.cell?, hr']
end Go.Proofs.YtcgcliglcdfijaaDoor
