/- Paths: the net; what is answered for a node. -/
import Derived.Test.YtemkilffagjmcaaDoorPj4
namespace Go.Proofs.YtemkilffagjmcaaDoor
open Go.RowKit

/-- An arc: edge, to, weight. -/
abbrev Ar := Int × Int × Int
def Ar.ok (a : Ar) : Prop := R64 a.1 ∧ R64 a.2.1 ∧ R64 a.2.2
def flA (l : List Ar) : List Value := l.flatMap fun x => [I x.1, I x.2.1, I x.2.2]
theorem flA_len (l : List Ar) : (flA l).length = l.length * 3 := by
  induction l with
  | nil => rfl
  | cons a l ih => simp [flA] at ih ⊢; omega
theorem flA_app (l m : List Ar) : flA (l ++ m) = flA l ++ flA m := by simp [flA]
theorem flA_get : ∀ (l : List Ar) (i : Nat) (x : Ar), l[i]? = some x → (flA l)[i * 3]? = some (I x.1) ∧ (flA l)[i * 3 + 1]? = some (I x.2.1) ∧ (flA l)[i * 3 + 2]? = some (I x.2.2)
  | [], i, x, h => by simp at h
  | a :: l, 0, x, h => by simp at h; subst h; simp [flA]
  | a :: l, i + 1, x, h => by
    have := flA_get l i x (by simpa using h)
    have e : flA (a :: l) = I a.1 :: I a.2.1 :: I a.2.2 :: flA l := by simp [flA]
    rw [e, show (i + 1) * 3 = i * 3 + 1 + 1 + 1 by omega]
    simpa using this
/-- A slice of arcs, wherever it begins. -/
structure Arcs (w : World) (v : Value) (l : List Ar) : Prop where
  at_ : ∃ a cap, v = .slice a l.length cap ∧ (a = none → cap = 0) ∧ (l = [] ∨ ∃ b off, a = some ⟨b, off, none⟩ ∧ ∀ o, o < l.length * 3 → w.cell? ⟨b, off + o, none⟩ = (flA l)[o]?)
  ok : ∀ a ∈ l, Ar.ok a
theorem cell_lt {w : World} {b o : Nat} {v : Value} (h : w.cell? ⟨b, o, none⟩ = some v) : b < w.heap.size := by
  rcases Nat.lt_or_ge b w.heap.size with q | q
  · exact q
  · rw [World.cell?, Array.getElem?_eq_none q] at h; simp at h
theorem Arcs.lt {w : World} {b off cap : Nat} {l : List Ar} {n : Nat} (h : Arcs w (.slice (some ⟨b, off, none⟩) n cap) l) (h0 : l ≠ []) : b < w.heap.size := by
  obtain ⟨a, cap, e, -, h1⟩ := h.at_
  rcases h1 with rfl | ⟨b', off', e2, h2⟩
  · exact absurd rfl h0
  · have hl : 0 < l.length := List.length_pos_iff.2 h0
    have h3 := h2 0 (by omega)
    simp only [Value.slice.injEq] at e
    rw [e.1.symm] at e2
    cases e2
    rw [List.getElem?_eq_getElem (by rw [flA_len]; omega)] at h3
    exact cell_lt h3
theorem Arcs.keep {w w' : World} {v : Value} {l : List Ar} (h : Arcs w v l) (hb : ∀ b, b < w.heap.size → (∃ off cap n, v = .slice (some ⟨b, off, none⟩) n cap) → ∀ o, w'.cell? ⟨b, o, none⟩ = w.cell? ⟨b, o, none⟩) : Arcs w' v l := by
  refine ⟨?_, h.ok⟩
  have h' := h
  obtain ⟨a, cap, rfl, hn, h1⟩ := h.at_
  refine ⟨a, cap, rfl, hn, ?_⟩
  by_cases hl : l = []
  · exact .inl hl
  · rcases h1 with rfl | ⟨b, off, rfl, h2⟩
    · exact absurd rfl hl
    · exact .inr ⟨b, off, rfl, fun o ho => (hb b (h'.lt hl) ⟨_, _, _, rfl⟩ _).trans (h2 o ho)⟩
theorem Arcs.G {w w' : World} {v : Value} {l : List Ar} (h : Arcs w v l) (g : Go.Proofs.YtemkilffagjmcaaDoor.G w w') : Arcs w' v l := h.keep fun _ hb _ _ => g.cell hb
theorem Arcs.nil (w : World) : Arcs w (.slice none 0 0) [] := ⟨⟨none, 0, rfl, fun _ => rfl, .inl rfl⟩, fun a h => by simp at h⟩
theorem Arcs.get {w : World} {a : Option Addr} {n cap : Nat} {l : List Ar} (h : Arcs w (.slice a n cap) l) {i : Nat} {x : Ar} (hi : l[i]? = some x) : n = l.length ∧ ∃ b off, a = some ⟨b, off, none⟩ ∧ w.cell? ⟨b, off + i * 3, none⟩ = some (I x.1) ∧ w.cell? ⟨b, off + i * 3 + 1, none⟩ = some (I x.2.1) ∧ w.cell? ⟨b, off + i * 3 + 2, none⟩ = some (I x.2.2) ∧ b < w.heap.size := by
  have hl := (List.getElem?_eq_some_iff.1 hi).1
  obtain ⟨a', cap', e, -, h1⟩ := h.at_
  simp only [Value.slice.injEq] at e
  obtain ⟨rfl, rfl, rfl⟩ := e
  refine ⟨rfl, ?_⟩
  rcases h1 with rfl | ⟨b, off, rfl, h2⟩
  · simp at hi
  · obtain ⟨g1, g2, g3⟩ := flA_get l i x hi
    have c1 := (h2 (i * 3) (by omega)).trans g1
    exact ⟨b, off, rfl, c1, by rw [Nat.add_assoc]; exact (h2 (i * 3 + 1) (by omega)).trans g2, by rw [Nat.add_assoc]; exact (h2 (i * 3 + 2) (by omega)).trans g3, cell_lt c1⟩
/-- Arcs that are older than Wb, or lie in a block of their own. -/
def ArcX (Wb w : World) (v : Value) (l : List Ar) : Prop := Arcs Wb v l ∨ ((∃ g cap, v = .slice (some ⟨g, 0, none⟩) l.length cap ∧ Blk w g 40 (flA l)) ∧ ∀ a ∈ l, Ar.ok a)
theorem ArcX.arcs {Wb w : World} {v : Value} {l : List Ar} (h : ArcX Wb w v l) (g : Go.Proofs.YtemkilffagjmcaaDoor.G Wb w) : Arcs w v l := by
  rcases h with h | ⟨⟨b, cap, rfl, hb⟩, ok⟩
  · exact h.G g
  · exact ⟨⟨_, _, rfl, fun q => (by cases q), .inr ⟨b, 0, rfl, fun o ho => by rw [Nat.zero_add, hb.cell]⟩⟩, ok⟩
theorem ArcX.chg {F : Nat → Prop} {Wb w w' : World} {v : Value} {l : List Ar} (h : ArcX Wb w v l) (c : Chg F w w') (hF : ∀ b ys, Blk w b 40 ys → ¬ F b) : ArcX Wb w' v l := by
  rcases h with h | ⟨⟨b, cap, rfl, hb⟩, ok⟩
  · exact .inl h
  · exact .inr ⟨⟨b, cap, rfl, hb.chg c (hF b _ hb)⟩, ok⟩
theorem ArcX.G {Wb w w' : World} {v : Value} {l : List Ar} (h : ArcX Wb w v l) (c : Go.Proofs.YtemkilffagjmcaaDoor.G w w') : ArcX Wb w' v l := h.chg (c.chg (F := fun _ => False)) (fun _ _ _ q => q)
/-- A row: a node, its arcs, or an error. -/
structure Nr where
  id : Int
  arcs : List Ar
  code : Int
/-- The rows, in memory. -/
def Nrs (w : World) (v : Value) (l : List Nr) : Prop :=
  ∃ a cap, v = .slice a l.length cap ∧ (l = [] ∨ ∃ b off, a = some ⟨b, off, none⟩ ∧ ∀ i r, l[i]? = some r → w.cell? ⟨b, off + i * 3, none⟩ = some (I r.id) ∧ (∃ va, w.cell? ⟨b, off + i * 3 + 1, none⟩ = some va ∧ Arcs w va r.arcs) ∧ w.cell? ⟨b, off + i * 3 + 2, none⟩ = some (I r.code) ∧ R64 r.id)
theorem Nrs.G {w w' : World} {v : Value} {l : List Nr} (h : Nrs w v l) (g : Go.Proofs.YtemkilffagjmcaaDoor.G w w') : Nrs w' v l := by
  obtain ⟨a, cap, rfl, h1⟩ := h
  refine ⟨a, cap, rfl, ?_⟩
  rcases h1 with h1 | ⟨b, off, rfl, h2⟩
  · exact .inl h1
  · refine .inr ⟨b, off, rfl, fun i r hr => ?_⟩
    obtain ⟨c1, ⟨va, c2, h3⟩, c3, h4⟩ := h2 i r hr
    exact ⟨by rw [g.cell (cell_lt c1)]; exact c1, ⟨va, by rw [g.cell (cell_lt c2)]; exact c2, h3.G g⟩, by rw [g.cell (cell_lt c3)]; exact c3, h4⟩
/-- What is answered for a node. -/
def netOf (rs : List Nr) (tail : Bool) (id : Int) : List Ar × Int := match rs.find? (fun r => r.id == id) with
  | some r => if r.code = 0 then (r.arcs, 0) else ([], r.code)
  | none => if tail then ([(id, wrap64 (id + 1), 1)], 0) else ([], 0)
theorem find_none {rs : List Nr} {id : Int} (h : ∀ (j : Nat) (r : Nr), rs[j]? = some r → r.id ≠ id) : rs.find? (fun r => r.id == id) = none := by
  rw [List.find?_eq_none]
  intro r hr
  obtain ⟨j, hj, rfl⟩ := List.getElem_of_mem hr
  simpa using h j _ (List.getElem?_eq_getElem hj)
theorem find_at : ∀ {rs : List Nr} {id : Int} {i : Nat} {r : Nr}, rs[i]? = some r → r.id = id → (∀ (j : Nat) (r : Nr), j < i → rs[j]? = some r → r.id ≠ id) → rs.find? (fun r => r.id == id) = some r
  | [], _, _, _, h, _, _ => by simp at h
  | a :: rs, id, 0, r, h, e, _ => by simp at h; subst h; simp [e]
  | a :: rs, id, i + 1, r, h, e, hn => by
    have h0 := hn 0 a (by omega) rfl
    rw [List.find?_cons_of_neg (by simpa using h0)]
    exact find_at (i := i) (by simpa using h) e (fun j r hj hr => hn (j + 1) r (by omega) (by simpa using hr))
theorem r64_wrap (n : Int) : R64 (wrap64 n) := by unfold wrap64 R64; omega
set_option maxRecDepth 100000 in
set_option maxHeartbeats 2000000 in
theorem of_any (Wb W : World) (rv : Value) (rs : List Nr) (tail : Bool) (id : Int) (h : Nrs Wb rv rs) (hGb : G Wb W) (hr : R64 id) (hl : rs.length ≤ 1048576) :
    Calls Tryd.prog 11 #[.agg #[rv, .bool tail], I id] W fun e W' => ∃ v', e = .returned (.tuple #[v', I (netOf rs tail id).2]) ∧ ArcX Wb W' v' (netOf rs tail id).1 ∧ G W W' := by
  have hX := h
  obtain ⟨a, cap, rfl, h1⟩ := h
  have HX := hide hX
  have HGB := hide hGb
  have H1 := hide h1
  have HR := hide hr
  have HG := hide ((G.refl W).alloc (.cells #[.slice a rs.length cap, .bool tail] 26))
  have HB := hide (Blk.new W [.slice a rs.length cap, .bool tail] 26)
  clear hX h1 hr hGb
  go_enter Tryd.func11, Tryd.ntmps11
  go_wp2_with fail
  generalize W.alloc (.cells #[.slice a rs.length cap, .bool tail] 26) = w1 at HG HB ⊢
  go_loopw [6] (fun iv wr => ∃ k : Nat, iv = I k ∧ k ≤ rs.length ∧ (∀ j r, j < k → rs[j]? = some r → r.id ≠ id) ∧ wr = w1) (fun iv _ => rs.length - (RowKit.intOf iv).toNat)
  case atStart => exact ⟨0, rfl, Nat.zero_le _, fun j r hj => by omega, rfl⟩
  case round =>
    obtain ⟨k, rfl, hk, hno, rfl⟩ := hrel
    have hc := HB.out.cell
    by_cases hkl : k < rs.length
    · have hkI : (k : Int) < rs.length := by omega
      obtain ⟨r, hrk⟩ : ∃ r, rs[k]? = some r := ⟨_, List.getElem?_eq_getElem hkl⟩
      obtain ⟨b, off, rfl, h2⟩ : ∃ b off, a = some ⟨b, off, none⟩ ∧ ∀ i r, rs[i]? = some r → Wb.cell? ⟨b, off + i * 3, none⟩ = some (I r.id) ∧ (∃ va, Wb.cell? ⟨b, off + i * 3 + 1, none⟩ = some va ∧ Arcs Wb va r.arcs) ∧ Wb.cell? ⟨b, off + i * 3 + 2, none⟩ = some (I r.code) ∧ R64 r.id := by
        rcases H1.out with rfl | q
        · simp at hrk
        · exact q
      obtain ⟨c1, ⟨va, c2, h3⟩, c3, h4⟩ := h2 k r hrk
      have hbl := cell_lt c1
      rw [← (HGB.out.trans HG.out).cell hbl] at c1 c2 c3
      have HA := hide h3
      have HRK := hide hrk
      have HNO := hide hno
      have HKL := hide hkl
      clear h2 h3 h4 hbl hrk hno hkl
      by_cases e1 : r.id = id
      · have HE := hide e1
        have e1b : (r.id == id) = true := by simpa using e1
        clear e1
        by_cases e2 : r.code = 0
        · rw [e2] at c3
          have HF : Hid (netOf rs tail id = (r.arcs, 0)) := by
            show _ = _
            unfold netOf
            rw [find_at HRK.out HE.out HNO.out]
            simp [e2]
          clear e2
          go_wp2_with fail
          go_ret2
          rw [HF.out]
          exact ⟨va, rfl, .inl HA.out, HG.out⟩
        · have e2b : (r.code == 0) = false := beq_eq_false_iff_ne.2 e2
          have HF : Hid (netOf rs tail id = ([], r.code)) := by
            show _ = _
            unfold netOf
            rw [find_at HRK.out HE.out HNO.out]
            simp [e2]
          clear e2
          go_wp2_with fail
          go_quiet (fail)
          go_wp2_with fail
          go_ret2
          rw [HF.out]
          exact ⟨_, rfl, .inl (Arcs.nil _), HG.out.trans (g_drewN _ _)⟩
      · have e1b : (r.id == id) = false := beq_eq_false_iff_ne.2 e1
        have hw : wrap64 ((k : Int) + 1) = (k : Int) + 1 := by unfold wrap64; omega
        have HE := hide e1
        clear e1
        go_wp2_with fail
        go_roundw
        case rel =>
          refine ⟨k + 1, by simp, HKL.out, fun j r' hj hr' => ?_, trivial⟩
          by_cases hjk : j = k
          · subst hjk
            rw [HRK.out] at hr'
            cases hr'
            exact HE.out
          · exact HNO.out j r' (by omega) hr'
        case measure => simp only [RowKit.intOf]; have := HKL.out; omega
    · have hkI : ¬ ((k : Int) < rs.length) := by omega
      have HF : Hid (rs.find? (fun r => r.id == id) = none) := find_none (fun j r hr => hno j r (by have := (List.getElem?_eq_some_iff.1 hr).1; omega) hr)
      clear hno hkl
      cases tail with
      | true =>
        go_wp2_with fail
        go_ret2
        have e9 : netOf rs true id = ([(id, wrap64 (id + 1), 1)], 0) := by unfold netOf; rw [HF.out]; rfl
        rw [e9]
        refine ⟨_, rfl, .inr ⟨⟨_, _, rfl, Blk.new wr [I id, I (wrap64 (id + 1)), I 1] 40⟩, fun x hx => ?_⟩, HG.out.alloc _⟩
        simp at hx
        subst hx
        exact ⟨HR.out, r64_wrap _, by show R64 1; unfold R64; omega⟩
      | false =>
        go_wp2_with fail
        go_ret2
        have e9 : netOf rs false id = ([], 0) := by unfold netOf; rw [HF.out]; rfl
        rw [e9]
        exact ⟨_, rfl, .inl (Arcs.nil _), HG.out⟩
end Go.Proofs.YtemkilffagjmcaaDoor
