/- Wire: a reply that is read, wherever it lies. -/
import Derived.Test.YtcdjjmjhdoanlaaGreatDoorW46
namespace Go.Proofs.YtcdjjmjhdoanlaaGreatDoor
open Go.RowKit

abbrev rVl : Rel (List Vl) := ⟨1, fun w cs l => ∃ v, cs = [v] ∧ Row eV.rel w v l ∧ l.length ≤ 140737488355328, fun ⟨_, h, _⟩ => by rw [h]; rfl, fun g ⟨v, h1, h2, h3⟩ => ⟨v, h1, h2.G g, h3⟩⟩
abbrev rNd : Rel Nd := ⟨3, fun w cs x => ∃ v, cs = [I x.id, .string x.lb, v] ∧ Row ePr.rel w v x.ps ∧ x.ps.length ≤ 140737488355328, fun ⟨_, h, _⟩ => by rw [h]; rfl, fun g ⟨v, h1, h2, h3⟩ => ⟨v, h1, h2.G g, h3⟩⟩
abbrev rEd : Rel Ed := ⟨5, fun w cs x => ∃ v, cs = [I x.id, .string x.ty, I x.fr, I x.dst, v] ∧ Row ePr.rel w v x.ps ∧ x.ps.length ≤ 140737488355328, fun ⟨_, h, _⟩ => by rw [h]; rfl, fun g ⟨v, h1, h2, h3⟩ => ⟨v, h1, h2.G g, h3⟩⟩
abbrev rTb : Rel Tb := ⟨5, fun w cs x => ∃ u v, cs = [u, v, I x.made, I x.gone, I x.set] ∧ Row eS.rel w u x.cols ∧ Row rVl w v x.rows ∧ x.cols.length ≤ 140737488355328 ∧ x.rows.length ≤ 140737488355328, fun ⟨_, _, h, _⟩ => by rw [h]; rfl, fun g ⟨u, v, h1, h2, h3, h4⟩ => ⟨u, v, h1, h2.G g, h3.G g, h4⟩⟩
/-- A reply's lists. -/
structure RpL (w : World) (a b c d e : Value) (q : Rp) : Prop where
  nums : Row eI.rel w a q.nums
  texts : Row eS.rel w b q.texts
  tables : Row rTb w c q.tables
  nodes : Row rNd w d q.nodes
  edges : Row rEd w e q.edges
  ln : q.nums.length ≤ 140737488355328
  lt : q.texts.length ≤ 140737488355328
  lb : q.tables.length ≤ 140737488355328
  ld : q.nodes.length ≤ 140737488355328
  le : q.edges.length ≤ 140737488355328
theorem RpL.G {w w' : World} {a b c d e : Value} {q : Rp} (h : RpL w a b c d e q) (g : Go.Proofs.YtcdjjmjhdoanlaaGreatDoor.G w w') : RpL w' a b c d e q := ⟨h.nums.G g, h.texts.G g, h.tables.G g, h.nodes.G g, h.edges.G g, h.ln, h.lt, h.lb, h.ld, h.le⟩
theorem NRow.toRow {α : Type} {D : Nst α} {R : Rel α} {ty : TypeId} {w : World} {v : Value} {l : List α} (h : NRow D ty w v l) (hs : D.s = R.s) (hr : ∀ cs x, x ∈ l → D.r w cs x → R.r w cs x) : Row R w v l := by
  obtain ⟨rs, q1, q2, q3⟩ := h
  obtain ⟨p, cap, rfl, hc, hn, hx⟩ := q1.toRow
  refine ⟨p, cap, by rw [q2], by omega, hn, fun i x e => ?_⟩
  have hi : i < rs.length := by rw [q2]; exact (List.getElem?_eq_some_iff.1 e).1
  obtain ⟨g, o, cs, h1, h2, h3⟩ := hx i _ (List.getElem?_eq_getElem hi)
  refine ⟨g, o, cs, h1, hr cs x (List.mem_of_getElem? e) ?_, by rw [← hs]; exact h3⟩
  rw [show cs = rs[i].1 from h2]
  exact q3 i _ x (List.getElem?_eq_getElem hi) e
theorem RS.at {W : World} {g o n cap : Nat} {l : List ByteArray} (h : Row eS.rel W (.slice (some ⟨g, o, none⟩) n cap) l) {i : Nat} {x : ByteArray} (hx : l[i]? = some x) : W.cell? ⟨g, o + i, none⟩ = some (.string x) := by
  have := h.one hx 0 rfl
  simpa using this
theorem RV.at {W : World} {g o n cap : Nat} {l : List Vl} (h : Row eV.rel W (.slice (some ⟨g, o, none⟩) n cap) l) {i : Nat} {x : Vl} (hx : l[i]? = some x) : W.cell? ⟨g, o + i * 4, none⟩ = some (I x.k) ∧ W.cell? ⟨g, o + i * 4 + 1, none⟩ = some (I x.a) ∧ W.cell? ⟨g, o + i * 4 + 2, none⟩ = some (I x.b) ∧ W.cell? ⟨g, o + i * 4 + 3, none⟩ = some (.string x.s) := ⟨h.one hx 0 rfl, h.one hx 1 rfl, h.one hx 2 rfl, h.one hx 3 rfl⟩
theorem RP.at {W : World} {g o n cap : Nat} {l : List Pr} (h : Row ePr.rel W (.slice (some ⟨g, o, none⟩) n cap) l) {i : Nat} {x : Pr} (hx : l[i]? = some x) : W.cell? ⟨g, o + i * 5, none⟩ = some (.string x.key) ∧ W.cell? ⟨g, o + i * 5 + 1, none⟩ = some (I x.v.k) ∧ W.cell? ⟨g, o + i * 5 + 2, none⟩ = some (I x.v.a) ∧ W.cell? ⟨g, o + i * 5 + 3, none⟩ = some (I x.v.b) ∧ W.cell? ⟨g, o + i * 5 + 4, none⟩ = some (.string x.v.s) := ⟨h.one hx 0 rfl, h.one hx 1 rfl, h.one hx 2 rfl, h.one hx 3 rfl, h.one hx 4 rfl⟩
set_option maxRecDepth 100000 in
set_option maxHeartbeats 1000000 in
theorem dnums_any (l : List (Int)) (a b : Value) (W : World) (h : Row eI.rel W a l) (k : Row eI.rel W b l) (hn : l.length ≤ 140737488355328) :
    Calls Tryz.prog 38 #[a, b] W fun e W' => e = .returned (.bool true) ∧ ∃ n, W' = W.drewN n := by
  obtain ⟨p, cap, rfl⟩ := h.form
  obtain ⟨p', cap', rfl⟩ := k.form
  have HS := hide h
  have HS2 := hide k
  have HN := hide hn
  clear h k hn
  go_enter Tryz.func38, Tryz.ntmps38
  go_wp2_with fail
  go_loopw [5] (fun iv wr => ∃ i : Nat, iv = I i ∧ i ≤ l.length ∧ ∃ m, wr = W.drewN m) (fun iv _ => l.length - (RowKit.intOf iv).toNat)
  case atStart => exact ⟨0, rfl, Nat.zero_le _, 0, rfl⟩
  case round =>
    obtain ⟨i, rfl, hi, m, rfl⟩ := hrel
    by_cases hil : i < l.length
    · obtain ⟨x, hx⟩ : ∃ x, l[i]? = some x := ⟨_, List.getElem?_eq_getElem hil⟩
      obtain ⟨g, o, c, q⟩ := HS.out.addr (by omega)
      obtain ⟨g', o', c', q'⟩ := HS2.out.addr (by omega)
      injection q with q1 q2 q3
      injection q' with q1' q2' q3'
      subst q1 q1' q3 q3'
      have x1 := RI.at (HS.out) hx
      have x2 := RI.at (HS2.out) hx
      have i1 : (i : Int) < l.length := Int.ofNat_lt.2 hil
      have HW : Hid (wrap64 ((i : Int) + 1) = (i : Int) + 1) := by show _ = _; have := HN.out; unfold wrap64; omega
      have HIL := hide hil
      clear hi hil hx q2 q2'
      go_wp2_with fail
      go_quiet (fail)
      go_wp2_with fail
      try rw [HW.out]
      refine ⟨⟨i + 1, rfl, HIL.out, _, rfl⟩, ?_⟩
      simp only [RowKit.intOf]; have := HIL.out; omega
    · have i1 : ¬ ((i : Int) < l.length) := by omega
      clear hi hil
      go_wp2_with fail
      go_ret
      exact ⟨rfl, _, rfl⟩
set_option maxRecDepth 100000 in
set_option maxHeartbeats 1000000 in
theorem dtexts_any (l : List (ByteArray)) (a b : Value) (W : World) (h : Row eS.rel W a l) (k : Row eS.rel W b l) (hn : l.length ≤ 140737488355328) :
    Calls Tryz.prog 39 #[a, b] W fun e W' => e = .returned (.bool true) ∧ ∃ n, W' = W.drewN n := by
  obtain ⟨p, cap, rfl⟩ := h.form
  obtain ⟨p', cap', rfl⟩ := k.form
  have HS := hide h
  have HS2 := hide k
  have HN := hide hn
  clear h k hn
  go_enter Tryz.func39, Tryz.ntmps39
  go_wp2_with fail
  go_loopw [5] (fun iv wr => ∃ i : Nat, iv = I i ∧ i ≤ l.length ∧ ∃ m, wr = W.drewN m) (fun iv _ => l.length - (RowKit.intOf iv).toNat)
  case atStart => exact ⟨0, rfl, Nat.zero_le _, 0, rfl⟩
  case round =>
    obtain ⟨i, rfl, hi, m, rfl⟩ := hrel
    by_cases hil : i < l.length
    · obtain ⟨x, hx⟩ : ∃ x, l[i]? = some x := ⟨_, List.getElem?_eq_getElem hil⟩
      obtain ⟨g, o, c, q⟩ := HS.out.addr (by omega)
      obtain ⟨g', o', c', q'⟩ := HS2.out.addr (by omega)
      injection q with q1 q2 q3
      injection q' with q1' q2' q3'
      subst q1 q1' q3 q3'
      have x1 := RS.at (HS.out) hx
      have x2 := RS.at (HS2.out) hx
      have i1 : (i : Int) < l.length := Int.ofNat_lt.2 hil
      have HW : Hid (wrap64 ((i : Int) + 1) = (i : Int) + 1) := by show _ = _; have := HN.out; unfold wrap64; omega
      have HIL := hide hil
      clear hi hil hx q2 q2'
      go_wp2_with fail
      go_quiet (fail)
      go_wp2_with fail
      try rw [HW.out]
      refine ⟨⟨i + 1, rfl, HIL.out, _, rfl⟩, ?_⟩
      simp only [RowKit.intOf]; have := HIL.out; omega
    · have i1 : ¬ ((i : Int) < l.length) := by omega
      clear hi hil
      go_wp2_with fail
      go_ret
      exact ⟨rfl, _, rfl⟩
set_option maxRecDepth 100000 in
set_option maxHeartbeats 1000000 in
theorem dprops_any (l : List (Pr)) (a b : Value) (W : World) (h : Row ePr.rel W a l) (k : Row ePr.rel W b l) (hn : l.length ≤ 140737488355328) :
    Calls Tryz.prog 75 #[a, b] W fun e W' => e = .returned (.bool true) ∧ ∃ n, W' = W.drewN n := by
  obtain ⟨p, cap, rfl⟩ := h.form
  obtain ⟨p', cap', rfl⟩ := k.form
  have HS := hide h
  have HS2 := hide k
  have HN := hide hn
  clear h k hn
  go_enter Tryz.func75, Tryz.ntmps75
  go_wp2_with fail
  go_loopw [5] (fun iv wr => ∃ i : Nat, iv = I i ∧ i ≤ l.length ∧ ∃ m, wr = W.drewN m) (fun iv _ => l.length - (RowKit.intOf iv).toNat)
  case atStart => exact ⟨0, rfl, Nat.zero_le _, 0, rfl⟩
  case round =>
    obtain ⟨i, rfl, hi, m, rfl⟩ := hrel
    by_cases hil : i < l.length
    · obtain ⟨x, hx⟩ : ∃ x, l[i]? = some x := ⟨_, List.getElem?_eq_getElem hil⟩
      obtain ⟨g, o, c, q⟩ := HS.out.addr (by omega)
      obtain ⟨g', o', c', q'⟩ := HS2.out.addr (by omega)
      injection q with q1 q2 q3
      injection q' with q1' q2' q3'
      subst q1 q1' q3 q3'
      obtain ⟨x1, x2, x3, x4, x5⟩ := RP.at (HS.out) hx
      obtain ⟨y1, y2, y3, y4, y5⟩ := RP.at (HS2.out) hx
      have i1 : (i : Int) < l.length := Int.ofNat_lt.2 hil
      have HW : Hid (wrap64 ((i : Int) + 1) = (i : Int) + 1) := by show _ = _; have := HN.out; unfold wrap64; omega
      have HIL := hide hil
      clear hi hil hx q2 q2'
      go_wp2_with fail
      go_quiet (fail)
      go_wp2_with fail
      try rw [HW.out]
      refine ⟨⟨i + 1, rfl, HIL.out, _, rfl⟩, ?_⟩
      simp only [RowKit.intOf]; have := HIL.out; omega
    · have i1 : ¬ ((i : Int) < l.length) := by omega
      clear hi hil
      go_wp2_with fail
      go_ret
      exact ⟨rfl, _, rfl⟩
end Go.Proofs.YtcdjjmjhdoanlaaGreatDoor
