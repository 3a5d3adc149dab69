/-
  THE WALK OF FieldsCut (own work).
-/
import Derived.Test.YtfealdllicicnaaDoorRows
import Derived.Test.YtfealdllicicnaaDoorCutB
import Derived.Test.YtfealdllicicnaaDoorCutC
import Derived.Test.YtfealdllicicnaaDoorCutD
import Derived.Test.YtfealdllicicnaaDoorCutE
import Derived.Test.YtfealdllicicnaaDoorLaidF
namespace Go.Proofs.YtfealdllicicnaaDoor
open Go.RowKit

theorem fieldsCut_walk (v : Value) (fa : List (Int × List Int)) (u : Value) (fb : List (Int × List Int)) (cut : Int) (W : World) (k1 : SlQ v fa W) (_k3 : fa.length ≤ maxLen) (k2 : SlQ u fb W) (_k4 : fb.length ≤ maxLen) (_kc : -9223372036854775808 ≤ cut ∧ cut ≤ 9223372036854775807) (hL : laidMetH Tryd.prog Rows.fieldsCutRow.laid W) :
    Calls Tryd.prog 7 #[v, u, .int .i64 cut] W fun e w' => e = .returned (.bool true) ∧ Below W.heap.size W w' := by
  obtain ⟨ads, V⟩ := st_of_14 (l := Rows.fieldsCutRow.laid) rfl hL
  obtain ⟨aa, ca, rfl⟩ := k1.form
  obtain ⟨ab, cb, rfl⟩ := k2.form
  by_cases hb : bigV fa = true ∨ bigV fb = true
  · exact cut_big ads aa ca fa _ rfl ab cb fb _ rfl cut W V k1 k2 hb
  have hba : bigV fa = false := by cases h : bigV fa; rfl; exact absurd (.inl h) hb
  have hbb : bigV fb = false := by cases h : bigV fb; rfl; exact absurd (.inr h) hb
  by_cases hr : runQ 0 0 fa = false ∨ runQ 0 0 fb = false
  · exact cut_bad ads aa ca fa _ rfl ab cb fb _ rfl cut W V k1 k2 hba hbb hr
  have hra : runQ 0 0 fa = true := by cases h : runQ 0 0 fa; exact absurd (.inl h) hr; rfl
  have hrb : runQ 0 0 fb = true := by cases h : runQ 0 0 fb; exact absurd (.inr h) hr; rfl
  by_cases h0 : fa.length = 0
  · exact cut_1 ads aa ca fa _ rfl ab cb fb _ rfl cut W V k1 k2 hra hrb h0
  have hz := joinB_zero (fs := fa)
  obtain ⟨-, -, -, -, hj5, -⟩ := row_facts k1 hra
  obtain ⟨M, hM, hcut⟩ := cut_key cut (joinB fa).length (by omega) (by omega)
  by_cases h1 : fb.length = 0
  · by_cases hT : (splitQ 17 ((joinB fa).take M) 0 0).1 = 0
    · exact cut_2a ads aa ca fa _ rfl ab cb fb _ rfl cut W V k1 k2 hra hrb h0 h1 M hM hcut hT
    · exact cut_2b ads aa ca fa _ rfl ab cb fb _ rfl cut W V k1 k2 hra hrb h0 h1 M hM hcut hT
  have p1 : 0 < fa.length := by omega
  have p2 : 0 < fb.length := by omega
  by_cases hg : (fa[fa.length - 1]).1 < (fb[0]).1
  · by_cases hs : fa.length + fb.length ≤ 16
    · by_cases hT : (splitQ 17 ((joinB fa).take M) 0 0).1 = 0
      · exact cut_3a ads aa ca fa _ rfl ab cb fb _ rfl cut W V k1 k2 hra hrb p1 p2 hg hs M hM hcut hT
      · exact cut_3b ads aa ca fa _ rfl ab cb fb _ rfl cut W V k1 k2 hra hrb p1 p2 hg hs M hM hcut hT
    · by_cases hT : (splitQ 17 ((joinB fa).take M) 0 0).1 = 0
      · exact cut_4a ads aa ca fa _ rfl ab cb fb _ rfl cut W V k1 k2 hra hrb p1 p2 hg hs M hM hcut hT
      · exact cut_4b ads aa ca fa _ rfl ab cb fb _ rfl cut W V k1 k2 hra hrb p1 p2 hg hs M hM hcut hT
  · by_cases hT : (splitQ 17 ((joinB fa).take M) 0 0).1 = 0
    · exact cut_5a ads aa ca fa _ rfl ab cb fb _ rfl cut W V k1 k2 hra hrb p1 p2 hg M hM hcut hT
    · exact cut_5b ads aa ca fa _ rfl ab cb fb _ rfl cut W V k1 k2 hra hrb p1 p2 hg M hM hcut hT

end Go.Proofs.YtfealdllicicnaaDoor
