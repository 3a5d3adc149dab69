/-
  JOURNALS IN USE (own work): the calls on a journal of the law's own that lives; two of them.
-/
import Derived.Test.YtpehmkglkjlmfaaDoorJouT
namespace Go.Proofs.YtpehmkglkjlmfaaDoor
open Go.RowKit

variable {ads : List Addr} {R : Nat → TM → (Nat → Prop) → World → Prop} {J : Nat → Nat → JM → (Nat → Prop) → World → Prop} {W w w' : World} {q g q2 g2 : Nat} {room : Int} {rows rs : List (List Int)} {OJ OJ' O O' OJ2 O2 OJ2' O2' P P' : Nat → Prop}

theorem errJ_iface (ads : List Addr) (k : Int) (hk : k ≠ 0) : ∃ o, errI ads k = .iface 121 (.pointer o) := ⟨_, if_neg hk⟩

theorem JL.new (T : TapC ads W R) (hk : Kp W w) (h0 : 0 ≤ room) (h1 : room ≤ 65536) : Calls Tryd.prog 10 #[.int .i64 room] w fun e w' =>
    ∃ g O, e = .returned (.tuple #[.pointer (some ⟨g, 0, none⟩), .nilIface]) ∧ R g (liv (allF []) room) O w' ∧ (∀ b, O b → w.heap.size ≤ b ∧ b < w'.heap.size) ∧ Kp w w' := by
  refine (T.new_ok w hk room h0 h1).mono ?_
  rintro e w' ⟨g, O, rfl, r, hn, hk2⟩
  exact ⟨g, O, rfl, r, fun b hb => ⟨hn b hb, (T.mem r b hb).2⟩, hk2⟩
theorem JL.open (T : TapC ads W R) (C : JouC ads W R J) (hk : Kp W w) (r : R g (liv (allF rs) room) O w) (ho : okRs rs) (hb : ∀ r ∈ rs, InB r) (hl : (allF rs).length ≤ 65536) (h0 : 0 ≤ room) (h1 : room ≤ 65536) :
    Calls Tryd.prog 11 #[.pointer (some ⟨g, 0, none⟩)] w fun e w' => ∃ q OJ O', e = .returned (.tuple #[.pointer (some ⟨q, 0, none⟩), .nilIface]) ∧ JL R J W q g room rs OJ O' w' ∧ Asd O (Un OJ O') w w' := by
  have ok := liv_ok (room := room) ho hb hl h0 h1
  obtain ⟨e1, e2⟩ := open_liv (room := room) ho
  refine (C.open_ok w hk g _ O r ok (by rw [e1])).mono ?_
  rintro e w' ⟨q, OJ, O', rfl, r', jr, hn, hd, ha⟩
  rw [e1] at r'
  rw [e2] at jr
  exact ⟨q, OJ, O', rfl, ⟨jr, r', hd, ok, liv_ji ho hb, ha.kp hk (fun b hb => (T.mem r b hb).1)⟩, ⟨ha.os, ha.tape, ha.output, ha.size, ha.block, fun b hb => by
    rcases hb with hb | hb
    · exact .inr (hn b hb)
    · exact ha.own b hb⟩⟩
theorem JL.put (T : TapC ads W R) (C : JouC ads W R J) (h : JL R J W q g room rows OJ O w) {a : Option Addr} {n c : Nat} (ho : okRs rs) (hb : ∀ r ∈ rs, InB r) (hr : ((allF rows).length : Int) + ((allF rs).length : Int) ≤ room) (s : Sfe (Un OJ O) (.slice a n c) rs w) (hn : rs.length = n) (hl : n ≤ 100) :
    Calls Tryd.prog 28 #[.pointer (some ⟨q, 0, none⟩), .slice a n c] w fun e w' => e = .returned .nilIface ∧ ∃ OJ' O', JL R J W q g room (rows ++ rs) OJ' O' w' ∧ Asd (Un OJ O) (Un OJ' O') w w' := by
  have e := put_liv (rows := rows) (rs := rs) (room := room) ho hr
  have inv := h.inv
  refine (C.put w h.kW q g _ OJ _ O h.jr h.r h.dis h.ok h.inv a n c rs s hn hl (fun r hr => ⟨hb r hr, by have := (ho r hr).2; omega⟩)).mono ?_
  rw [e]
  rintro e w' ⟨rfl, OJ', O', jr, r, hd, ha⟩
  have hlen : (allF (rows ++ rs)).length ≤ 65536 := by rw [allF_app, List.length_append]; have := h.ok.r1; have e1 : (liv (allF rows) room).room = room := rfl; rw [e1] at this; omega
  exact ⟨rfl, OJ', O', h.call T C jr r hd (liv_ok (okRs_app inv.ok ho) (inRs_app inv.inb hb) hlen h.ok.r0 h.ok.r1) (liv_ji (okRs_app inv.ok ho) (inRs_app inv.inb hb)) ha, ha⟩
theorem JL.put_bad (T : TapC ads W R) (C : JouC ads W R J) (h : JL R J W q g room rows OJ O w) {a : Option Addr} {n c : Nat} (ho : ¬ okRs rs) (hb : ∀ r ∈ rs, InB r ∧ r.length ≤ 100000) (s : Sfe (Un OJ O) (.slice a n c) rs w) (hn : rs.length = n) (hl : n ≤ 100) :
    Calls Tryd.prog 28 #[.pointer (some ⟨q, 0, none⟩), .slice a n c] w fun e w' => e = .returned (errI ads 4) ∧ ∃ OJ' O', JL R J W q g room rows OJ' O' w' ∧ Asd (Un OJ O) (Un OJ' O') w w' := by
  have e := Go.Proofs.YtpehmkglkjlmfaaDoor.put_bad (rows := rows) (m := liv (allF rows) room) ho
  refine (C.put w h.kW q g _ OJ _ O h.jr h.r h.dis h.ok h.inv a n c rs s hn hl hb).mono ?_
  rw [e]
  rintro e w' ⟨rfl, OJ', O', jr, r, hd, ha⟩
  exact ⟨rfl, OJ', O', h.call T C jr r hd h.ok h.inv ha, ha⟩
theorem JT.len (C : JouC ads W R J) {j : JM} {m : TM} (h : JT R J W q g j m OJ O w) : Calls Tryd.prog 18 #[.pointer (some ⟨q, 0, none⟩)] w fun e w' => e = .returned (.int .i64 j.rows.length) ∧ Kp w w' :=
  C.len w h.kW q g _ OJ _ O h.jr h.r h.dis h.ok h.inv
theorem JT.size (C : JouC ads W R J) {j : JM} {m : TM} (h : JT R J W q g j m OJ O w) : Calls Tryd.prog 19 #[.pointer (some ⟨q, 0, none⟩)] w fun e w' => e = .returned (.int .i64 (allF j.rows).length) ∧ Kp w w' :=
  C.size w h.kW q g _ OJ _ O h.jr h.r h.dis h.ok h.inv
theorem JT.dead (C : JouC ads W R J) {j : JM} {m : TM} (h : JT R J W q g j m OJ O w) : Calls Tryd.prog 20 #[.pointer (some ⟨q, 0, none⟩)] w fun e w' => e = .returned (.bool j.dead) ∧ Kp w w' :=
  C.dead w h.kW q g _ OJ _ O h.jr h.r h.dis h.ok h.inv
theorem JT.rowsC (C : JouC ads W R J) {j : JM} {m : TM} (h : JT R J W q g j m OJ O w) : Calls Tryd.prog 17 #[.pointer (some ⟨q, 0, none⟩)] w fun e w' => ∃ a c, e = .returned (.slice a j.rows.length c) ∧ SlBB (.slice a j.rows.length c) j.rows w' ∧ Out w.heap.size (.slice a j.rows.length c) j.rows w' ∧ Kp w w' :=
  C.rows w h.kW q g _ OJ _ O h.jr h.r h.dis h.ok h.inv
theorem JT.bytes (T : TapC ads W R) {j : JM} {m : TM} (h : JT R J W q g j m OJ O w) : Calls Tryd.prog 21 #[.pointer (some ⟨g, 0, none⟩)] w fun e w' => ∃ a c, e = .returned (.slice a m.all.length c) ∧ SlB (.slice a m.all.length c) m.all w' ∧ Kp w w' :=
  T.bytes w h.kW g _ O h.r h.ok

/-- TWO JOURNALS that live, apart. -/
structure Two (R : Nat → TM → (Nat → Prop) → World → Prop) (J : Nat → Nat → JM → (Nat → Prop) → World → Prop) (W : World) (q g q2 g2 : Nat) (room : Int) (rs rs2 : List (List Int)) (P P2 : Nat → Prop) (w : World) : Prop where
  a : ∃ OJ O, P = Un OJ O ∧ JL R J W q g room rs OJ O w
  b : ∃ OJ O, P2 = Un OJ O ∧ JL R J W q2 g2 room rs2 OJ O w
  d : ∀ x, P x → ¬ P2 x
variable {rs2 rs' rs2' : List (List Int)} {P2 P2' : Nat → Prop}
theorem Two.kp (T : TapC ads W R) (C : JouC ads W R J) (h : Two R J W q g q2 g2 room rs rs2 P P2 w) (hk : Kp w w') : Two R J W q g q2 g2 room rs rs2 P P2 w' := by
  obtain ⟨⟨OJ, O, rfl, a⟩, ⟨OJ2, O2, rfl, b⟩, d⟩ := h
  exact ⟨⟨_, _, rfl, a.kp T C hk⟩, ⟨_, _, rfl, b.kp T C hk⟩, d⟩
theorem Two.onA (T : TapC ads W R) (C : JouC ads W R J) (h : Two R J W q g q2 g2 room rs rs2 P P2 w) (a' : JL R J W q g room rs' OJ' O' w') (ha : Asd P (Un OJ' O') w w') : Two R J W q g q2 g2 room rs' rs2 (Un OJ' O') P2 w' := by
  obtain ⟨⟨OJ, O, rfl, a⟩, ⟨OJ2, O2, rfl, b⟩, d⟩ := h
  have d' : ∀ x, Un OJ2 O2 x → ¬ Un OJ O x := fun x h2 h1 => d x h1 h2
  exact ⟨⟨_, _, rfl, a'⟩, ⟨_, _, rfl, b.apart T C ha (fun x hx => (a.mem T C x hx).1) d'⟩, fun x h1 h2 => b.dis2 T C ha d' x h2 h1⟩
theorem Two.onB (T : TapC ads W R) (C : JouC ads W R J) (h : Two R J W q g q2 g2 room rs rs2 P P2 w) (b' : JL R J W q2 g2 room rs2' OJ2' O2' w') (ha : Asd P2 (Un OJ2' O2') w w') : Two R J W q g q2 g2 room rs rs2' P (Un OJ2' O2') w' := by
  obtain ⟨⟨OJ, O, rfl, a⟩, ⟨OJ2, O2, rfl, b⟩, d⟩ := h
  exact ⟨⟨_, _, rfl, a.apart T C ha (fun x hx => (b.mem T C x hx).1) d⟩, ⟨_, _, rfl, b'⟩, a.dis2 T C ha d⟩
/-- the second is opened beside the first -/
theorem Two.mk2 (T : TapC ads W R) (C : JouC ads W R J) (a : JL R J W q g room rs OJ O w) (d : ∀ x, Un OJ O x → ¬ O2 x) (hO2 : ∀ x, O2 x → W.heap.size ≤ x) (b' : JL R J W q2 g2 room rs2 OJ2 O2' w') (ha : Asd O2 (Un OJ2 O2') w w') : Two R J W q g q2 g2 room rs rs2 (Un OJ O) (Un OJ2 O2') w' :=
  ⟨⟨_, _, rfl, a.apart T C ha hO2 d⟩, ⟨_, _, rfl, b'⟩, a.dis2 T C ha d⟩
theorem Two.kW (h : Two R J W q g q2 g2 room rs rs2 P P2 w) : Kp W w := by
  obtain ⟨⟨OJ, O, rfl, a⟩, -, -⟩ := h
  exact a.kW
theorem Two.geA (T : TapC ads W R) (C : JouC ads W R J) (h : Two R J W q g q2 g2 room rs rs2 P P2 w) : ∀ b, P b → W.heap.size ≤ b ∧ b < w.heap.size := by
  obtain ⟨⟨OJ, O, rfl, a⟩, -, -⟩ := h
  exact a.mem T C
theorem Two.geB (T : TapC ads W R) (C : JouC ads W R J) (h : Two R J W q g q2 g2 room rs rs2 P P2 w) : ∀ b, P2 b → W.heap.size ≤ b ∧ b < w.heap.size := by
  obtain ⟨-, ⟨OJ, O, rfl, a⟩, -⟩ := h
  exact a.mem T C
theorem Two.putA (T : TapC ads W R) (C : JouC ads W R J) (h : Two R J W q g q2 g2 room rows rs2 P P2 w) {a : Option Addr} {n c : Nat} (ho : okRs rs) (hb : ∀ r ∈ rs, InB r) (hr : ((allF rows).length : Int) + ((allF rs).length : Int) ≤ room) (s : Sfe P (.slice a n c) rs w) (hn : rs.length = n) (hl : n ≤ 100) :
    Calls Tryd.prog 28 #[.pointer (some ⟨q, 0, none⟩), .slice a n c] w fun e w' => e = .returned .nilIface ∧ ∃ P', Two R J W q g q2 g2 room (rows ++ rs) rs2 P' P2 w' := by
  have h0 := h
  obtain ⟨⟨OJ, O, rfl, ja⟩, -, -⟩ := h
  refine (JL.put T C ja ho hb hr s hn hl).mono ?_
  rintro e w' ⟨rfl, OJ', O', j', ha⟩
  exact ⟨rfl, _, h0.onA T C j' ha⟩
theorem Two.putB (T : TapC ads W R) (C : JouC ads W R J) (h : Two R J W q g q2 g2 room rs2 rows P P2 w) {a : Option Addr} {n c : Nat} (ho : okRs rs) (hb : ∀ r ∈ rs, InB r) (hr : ((allF rows).length : Int) + ((allF rs).length : Int) ≤ room) (s : Sfe P2 (.slice a n c) rs w) (hn : rs.length = n) (hl : n ≤ 100) :
    Calls Tryd.prog 28 #[.pointer (some ⟨q2, 0, none⟩), .slice a n c] w fun e w' => e = .returned .nilIface ∧ ∃ P2', Two R J W q g q2 g2 room rs2 (rows ++ rs) P P2' w' := by
  have h0 := h
  obtain ⟨-, ⟨OJ, O, rfl, ja⟩, -⟩ := h
  refine (JL.put T C ja ho hb hr s hn hl).mono ?_
  rintro e w' ⟨rfl, OJ', O', j', ha⟩
  exact ⟨rfl, _, h0.onB T C j' ha⟩
theorem Two.bad (T : TapC ads W R) (C : JouC ads W R J) (h : Two R J W q g q2 g2 room rows rs2 P P2 w) {a : Option Addr} {n c : Nat} (ho : ¬ okRs rs) (hb : ∀ r ∈ rs, InB r ∧ r.length ≤ 100000) (s : Sfe P (.slice a n c) rs w) (hn : rs.length = n) (hl : n ≤ 100) :
    Calls Tryd.prog 28 #[.pointer (some ⟨q, 0, none⟩), .slice a n c] w fun e w' => e = .returned (errI ads 4) ∧ ∃ P', Two R J W q g q2 g2 room rows rs2 P' P2 w' := by
  have h0 := h
  obtain ⟨⟨OJ, O, rfl, ja⟩, -, -⟩ := h
  refine (JL.put_bad T C ja ho hb s hn hl).mono ?_
  rintro e w' ⟨rfl, OJ', O', j', ha⟩
  exact ⟨rfl, _, h0.onA T C j' ha⟩
theorem Two.rowsA (C : JouC ads W R J) (h : Two R J W q g q2 g2 room rs rs2 P P2 w) : Calls Tryd.prog 17 #[.pointer (some ⟨q, 0, none⟩)] w fun e w' => ∃ a c, e = .returned (.slice a rs.length c) ∧ SlBB (.slice a rs.length c) rs w' ∧ Out w.heap.size (.slice a rs.length c) rs w' ∧ Kp w w' := by
  obtain ⟨⟨OJ, O, rfl, a⟩, -, -⟩ := h
  exact a.rowsC C
theorem Two.rowsB (C : JouC ads W R J) (h : Two R J W q g q2 g2 room rs rs2 P P2 w) : Calls Tryd.prog 17 #[.pointer (some ⟨q2, 0, none⟩)] w fun e w' => ∃ a c, e = .returned (.slice a rs2.length c) ∧ SlBB (.slice a rs2.length c) rs2 w' ∧ Kp w w' := by
  obtain ⟨-, ⟨OJ, O, rfl, a⟩, -⟩ := h
  refine (a.rowsC C).mono ?_
  rintro e w' ⟨a, c, h1, h2, -, h3⟩
  exact ⟨a, c, h1, h2, h3⟩
theorem Two.lenA (C : JouC ads W R J) (h : Two R J W q g q2 g2 room rs rs2 P P2 w) : Calls Tryd.prog 18 #[.pointer (some ⟨q, 0, none⟩)] w fun e w' => e = .returned (.int .i64 rs.length) ∧ Kp w w' := by
  obtain ⟨⟨OJ, O, rfl, a⟩, -, -⟩ := h
  exact a.len C
theorem Two.sizeA (C : JouC ads W R J) (h : Two R J W q g q2 g2 room rs rs2 P P2 w) : Calls Tryd.prog 19 #[.pointer (some ⟨q, 0, none⟩)] w fun e w' => e = .returned (.int .i64 (allF rs).length) ∧ Kp w w' := by
  obtain ⟨⟨OJ, O, rfl, a⟩, -, -⟩ := h
  exact a.size C
theorem Two.bytesA (T : TapC ads W R) (h : Two R J W q g q2 g2 room rs rs2 P P2 w) : Calls Tryd.prog 21 #[.pointer (some ⟨g, 0, none⟩)] w fun e w' => ∃ a c, e = .returned (.slice a (allF rs).length c) ∧ SlB (.slice a (allF rs).length c) (allF rs) w' ∧ Kp w w' := by
  obtain ⟨⟨OJ, O, rfl, a⟩, -, -⟩ := h
  have := a.bytes T
  rwa [liv_all] at this
theorem Two.bytesB (T : TapC ads W R) (h : Two R J W q g q2 g2 room rs rs2 P P2 w) : Calls Tryd.prog 21 #[.pointer (some ⟨g2, 0, none⟩)] w fun e w' => ∃ a c, e = .returned (.slice a (allF rs2).length c) ∧ SlB (.slice a (allF rs2).length c) (allF rs2) w' ∧ Kp w w' := by
  obtain ⟨-, ⟨OJ, O, rfl, a⟩, -⟩ := h
  have := a.bytes T
  rwa [liv_all] at this

/-- rows that were handed out, each with a first byte that may be written -/
def Inc (base : Nat) (a : Option Addr) (rs : List (List Int)) (w : World) : Prop :=
  ∀ (i : Nat) (h : i < rs.length), ∃ b off b' off' c, a = some ⟨b, off, none⟩ ∧ w.cell? ⟨b, off + i, none⟩ = some (.slice (some ⟨b', off', none⟩) rs[i].length c) ∧ b' ≠ b ∧ base ≤ b' ∧ w.frozen? ⟨b', off', none⟩ = false ∧ ∃ x, 0 ≤ x ∧ x < 256 ∧ w.cell? ⟨b', off', none⟩ = some (.int .u8 x)
theorem inc_of {base n c : Nat} {a : Option Addr} (h : Out base (.slice a n c) rs w) (hs : SlBB (.slice a n c) rs w) (ho : okRs rs) : Inc base a rs w := fun i hi => by
  obtain ⟨b, off, b', off', c', n', cap, e, hc, hne, hb, -, hz⟩ := h i hi
  obtain ⟨b2, off2, e2, a2, c2, hc2, hs2, hin⟩ := hs.at i hi
  injection e with e _ _
  rw [e] at e2
  injection e2 with e2
  injection e2 with e3 e4 _
  subst e3 e4
  rw [hc] at hc2
  injection hc2 with hc2
  injection hc2 with q1 _ q3
  subst q1 q3
  have hl : 0 < rs[i].length := (ho _ (List.getElem_mem hi)).1
  obtain ⟨b3, off3, e5, hc3⟩ := hs2.at 0 hl
  injection e5 with e5
  injection e5 with e6 e7 _
  subst e6 e7
  have hr : 0 ≤ rs[i].getD 0 0 ∧ rs[i].getD 0 0 < 256 := by
    have : rs[i].getD 0 0 = rs[i][0] := by simp [List.getD, hl]
    rw [this]
    exact hin _ (List.getElem_mem hl)
  exact ⟨b, off, b', off', c', e, hc, hne, hb, hz off', _, hr.1, hr.2, hc3⟩
theorem Inc.set {base b off b' off' : Nat} {a : Option Addr} (h : Inc base a rs w) (ha : a = some ⟨b, off, none⟩) (hne : b' ≠ b) {x : Int} (h0 : 0 ≤ x) (h1 : x < 256) : Inc base a rs (w.setCell ⟨b', off', none⟩ (.int .u8 x)) := fun i hi => by
  obtain ⟨b2, off2, b3, off3, c, e, hc, hn, hb, hz, y, y0, y1, hy⟩ := h i hi
  rw [ha] at e
  injection e with e
  injection e with e3 e4 _
  subst e3 e4
  refine ⟨b, off, b3, off3, c, ha, ?_, hn, hb, by simpa using hz, ?_⟩
  · exact (World.cell?_setCell_other (h := by intro q; injection q with q; exact hne q) ..).trans hc
  · by_cases hq : (⟨b', off', none⟩ : Addr) = ⟨b3, off3, none⟩
    · rw [hq]
      exact ⟨x, h0, h1, World.cell?_setCell_same (h := hy) ..⟩
    · exact ⟨y, y0, y1, (World.cell?_setCell_other (h := hq) ..).trans hy⟩
end Go.Proofs.YtpehmkglkjlmfaaDoor
