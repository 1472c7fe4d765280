/- Paths: two equal ways. -/
import Derived.Test.YtcbjcienjolceabDoorPl1
namespace Go.Proofs.YtcbjcienjolceabDoor
open Go.RowKit

set_option maxRecDepth 100000 in
set_option maxHeartbeats 2000000 in
theorem way_eq (W : World) (lo1 lo2 lo3 lo4 : Nat) (s : Int) (n1 n2 e1 e2 : Value) (ns es : List Int) (h1 : Rw lo1 2 1 W n1 ns.length (ns.map I)) (h2 : Rw lo2 2 1 W n2 ns.length (ns.map I)) (h3 : Rw lo3 2 1 W e1 es.length (es.map I)) (h4 : Rw lo4 2 1 W e2 es.length (es.map I)) (hb1 : ns.length ≤ 1048576) (hb2 : es.length ≤ 1048576) :
    Calls Tryd.prog 22 #[.agg #[I s, n1, e1], .agg #[I s, n2, e2]] W fun e W' => e = .returned (.bool true) ∧ G W W' := by
  obtain ⟨a1, c1, rfl⟩ := Rw.form h1
  obtain ⟨a2, c2, rfl⟩ := Rw.form h2
  obtain ⟨a3, c3, rfl⟩ := Rw.form h3
  obtain ⟨a4, c4, rfl⟩ := Rw.form h4
  have gA : G W ((W.alloc (.cells #[I s, .slice a1 ns.length c1, .slice a3 es.length c3] 57)).alloc (.cells #[I s, .slice a2 ns.length c2, .slice a4 es.length c4] 57)) := ((G.refl W).alloc _).alloc _
  have k1 := (Blk.new W [I s, .slice a1 ns.length c1, .slice a3 es.length c3] 57).G ((G.refl _).alloc (.cells #[I s, .slice a2 ns.length c2, .slice a4 es.length c4] 57))
  have k2 := Blk.new (W.alloc (.cells #[I s, .slice a1 ns.length c1, .slice a3 es.length c3] 57)) [I s, .slice a2 ns.length c2, .slice a4 es.length c4] 57
  rw [World.size_alloc] at k2
  have HI1 := hide (ids_eq lo1 lo2 _ _ _ ns (Rw.G h1 gA) (Rw.G h2 gA) hb1)
  have H3 := hide (Rw.G h3 gA)
  have H4 := hide (Rw.G h4 gA)
  have HK1 := hide k1
  have HK2 := hide k2
  have d1 := k1.cell
  have d2 := k2.cell
  have HGA := hide gA
  clear h1 h2 h3 h4 k1 k2 gA
  go_enter Tryd.func22, Tryd.ntmps22
  go_wp2_with fail
  refine HI1.out.mono ?_
  rintro e w1 ⟨rfl, hg1⟩
  have HI2 := hide (ids_eq lo3 lo4 _ _ _ es (Rw.G H3.out hg1) (Rw.G H4.out hg1) hb2)
  have HG1 := hide (HGA.out.trans hg1)
  have f1 := (HK1.out.G hg1).cell
  have f2 := (HK2.out.G hg1).cell
  clear hg1 d1 d2 HI1
  go_wp2_with fail
  refine HI2.out.mono ?_
  rintro e w2 ⟨rfl, hg2⟩
  have HG2 := hide (HG1.out.trans hg2)
  clear hg2 f1 f2 HI2
  go_wp2_with fail
  go_ret
  exact ⟨rfl, HG2.out⟩
end Go.Proofs.YtcbjcienjolceabDoor
