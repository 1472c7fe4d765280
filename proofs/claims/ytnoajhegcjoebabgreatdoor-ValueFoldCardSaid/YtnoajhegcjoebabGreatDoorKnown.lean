/- Lists of values, lists of items; value.known. -/
import Derived.Test.YtnoajhegcjoebabGreatDoorBinP
import Derived.Laws.AppendOwn
import Derived.OwnWalk
import Derived.WalkKit
namespace Go.Proofs.YtnoajhegcjoebabGreatDoor
open Go.RowKit Go.Lib Go.Shelf

/-- A value, as four. -/
abbrev Qd := Int × Int × Int × ByteArray
abbrev Qd.C (q : Qd) : List Value := [I q.1, I q.2.1, I q.2.2.1, .string q.2.2.2]
abbrev Qd.W (q : Qd) : Value := V q.1 q.2.1 q.2.2.1 q.2.2.2
def Qd.ok (q : Qd) : Bool := okV q.1 q.2.1 q.2.2.1 q.2.2.2
noncomputable def Qd.it (q : Qd) : Value := itemV q.1 q.2.1 q.2.2.1 q.2.2.2
/-- x is a slice that holds these values. -/
def VRow (w : World) (x : Value) (L : List Qd) : Prop := (x = .slice none 0 0 ∧ L = []) ∨ ∃ (b off cap : Nat), x = .slice (some ⟨b, off, none⟩) L.length cap ∧ L.length ≤ cap ∧ ∀ i q, L[i]? = some q → ∀ j, j < 4 → w.cell? ⟨b, off + (i * 4 + j), none⟩ = q.C[j]?
/-- x is a slice that holds these items. -/
def IRow (w : World) (x : Value) (X : List Value) : Prop := (x = .slice none 0 0 ∧ X = []) ∨ ∃ (g cap : Nat), x = .slice (some ⟨g, 0, none⟩) X.length cap ∧ X.length ≤ cap ∧ ∀ i u, X[i]? = some u → w.cell? ⟨g, i, none⟩ = some u
theorem cellLt {w : World} {b o : Nat} {u : Value} (h : w.cell? ⟨b, o, none⟩ = some u) : b < w.heap.size := Nat.lt_of_not_le fun hle => by
  have : w.heap[b]? = none := Array.getElem?_eq_none hle
  simp [World.cell?, this] at h
theorem qc_some (q : Qd) (j : Nat) (hj : j < 4) : ∃ u, q.C[j]? = some u := by
  have : j = 0 ∨ j = 1 ∨ j = 2 ∨ j = 3 := by omega
  rcases this with rfl | rfl | rfl | rfl <;> exact ⟨_, rfl⟩
theorem VRow.G {w w' : World} {x : Value} {L : List Qd} (h : VRow w x L) (g : G w w') : VRow w' x L := by
  rcases h with h | ⟨b, off, cap, rfl, hc, hcell⟩
  · exact .inl h
  · refine .inr ⟨b, off, cap, rfl, hc, fun i q hi j hj => ?_⟩
    have h0 := hcell i q hi j hj
    obtain ⟨u, hu⟩ := qc_some q j hj
    rw [hu] at h0 ⊢
    exact (g.cell (cellLt h0)).trans h0
theorem IRow.G {w w' : World} {x : Value} {X : List Value} (h : IRow w x X) (g : G w w') : IRow w' x X := by
  rcases h with h | ⟨b, cap, rfl, hc, hcell⟩
  · exact .inl h
  · exact .inr ⟨b, cap, rfl, hc, fun i u hi => (g.cell (cellLt (hcell i u hi))).trans (hcell i u hi)⟩
theorem G.grown {w w' : World} (g : G w w') : w.grownBy w' none := ⟨g.os, g.tape, g.output, g.size, fun k hk _ => g.block k hk⟩
theorem own_G {w w' : World} {base : Nat} {e : TypeId} {size : Nat} {v : Value} {n : Nat} {xs : List Value} (h : w.ownsRow base e size v n xs) (g : G w w') : w'.ownsRow base e size v n xs :=
  h.kept g.grown (by cases h2 : v.ownBlock <;> simp)
theorem own_irow {w : World} {base : Nat} {e : TypeId} {v : Value} {xs : List Value} (h : w.ownsRow base e 1 v xs.length xs) : IRow w v xs := by
  rcases h.2 with ⟨rfl, hn⟩ | ⟨g, cap, cur, rfl, _, hh, hc, _, hs, ht⟩
  · exact .inl ⟨rfl, List.eq_nil_of_length_eq_zero hn⟩
  · refine .inr ⟨g, cap, rfl, hc, fun i u hi => ?_⟩
    have := h.cells (g := g) rfl i u hi
    have e : (⟨g, 0, none⟩ : Addr).add i = ⟨g, i, none⟩ := by
      by_cases c : i = 0
      · subst c; rfl
      · simp [Addr.add, c]
    rw [e] at this
    exact this
/-- The items of those that are no null. -/
noncomputable def itemsOf (L : List Qd) : List Value := (L.filter fun q => q.1 != 0).map Qd.it
theorem info_it : (Tryz.prog.info? 43).map (fun i => (i.zero, i.size, i.bytes)) = some (some .nilIface, 1, 16) := by kernel_rfl
theorem take_snoc {L : List Qd} {m : Nat} {q : Qd} (h : L[m]? = some q) : L.take (m + 1) = L.take m ++ [q] := by
  rw [List.take_add_one, h]
  rfl
theorem items_snoc {L : List Qd} {m : Nat} {q : Qd} (h : L[m]? = some q) : itemsOf (L.take (m + 1)) = itemsOf (L.take m) ++ (if q.1 != 0 then [q.it] else []) := by
  unfold itemsOf
  rw [take_snoc h, List.filter_append, List.map_append]
  congr 1
  by_cases c : (q.1 != 0) = true
  · simp [List.filter, c]
  · have c' : (q.1 != 0) = false := by simpa using c
    simp [List.filter, c']
theorem items_le (L : List Qd) (m : Nat) : (itemsOf (L.take m)).length ≤ L.length := by
  unfold itemsOf
  rw [List.length_map]
  exact Nat.le_trans (List.length_filter_le _ _) (by simp; omega)
theorem it_one (q : Qd) (h : q.ok = true) : q.it.oneCell' = true := by
  obtain ⟨k, a, b, s⟩ := q
  unfold Qd.ok at h
  unfold Qd.it
  simp only at h ⊢
  have hk := okV_kind k a b s h
  have : k = 0 ∨ k = 1 ∨ k = 2 ∨ k = 3 ∨ k = 4 ∨ k = 5 ∨ k = 6 := by omega
  rcases this with rfl | rfl | rfl | rfl | rfl | rfl | rfl
  · rw [itV_0 h]; rfl
  · rw [itV_1 h]; rfl
  · rw [itV_2 h]; rfl
  · rw [itV_3 h]; rfl
  · rw [itV_4 h]; rfl
  · rw [itV_5 h]; rfl
  · rw [itV_6 h]; rfl
theorem vrow_at {w : World} {b off n cap : Nat} {L : List Qd} (h : VRow w (.slice (some ⟨b, off, none⟩) n cap) L) {i : Nat} {q : Qd} (hi : L[i]? = some q) :
    w.cell? ⟨b, off + i * 4, none⟩ = some (I q.1) ∧ w.cell? ⟨b, off + i * 4 + 1, none⟩ = some (I q.2.1) ∧ w.cell? ⟨b, off + i * 4 + 2, none⟩ = some (I q.2.2.1) ∧ w.cell? ⟨b, off + i * 4 + 3, none⟩ = some (.string q.2.2.2) := by
  rcases h with ⟨h, _⟩ | ⟨b', off', cap', he, _, hc⟩
  · cases h
  · cases he
    exact ⟨hc i q hi 0 (by decide), by rw [Nat.add_assoc]; exact hc i q hi 1 (by decide), by rw [Nat.add_assoc]; exact hc i q hi 2 (by decide), by rw [Nat.add_assoc]; exact hc i q hi 3 (by decide)⟩
theorem all_snoc {L : List Qd} {m : Nat} {q : Qd} (h : L[m]? = some q) (h1 : (L.take m).all Qd.ok = true) (h2 : q.ok = true) : (L.take (m + 1)).all Qd.ok = true := by
  rw [take_snoc h, List.all_append, h1]
  simp [h2]
theorem all_no {L : List Qd} {m : Nat} {q : Qd} (h : L[m]? = some q) (h2 : q.ok = false) : L.all Qd.ok = false := by
  rw [List.all_eq_false]
  exact ⟨q, List.mem_of_getElem? h, by simp [h2]⟩
set_option maxRecDepth 100000 in
set_option maxHeartbeats 2000000 in
theorem known_some (b off cap : Nat) (L : List Qd) (w : World) (hT : Tabs w) (hV : VRow w (.slice (some ⟨b, off, none⟩) L.length cap) L) (hn : L.length * 40 ≤ 140737488351232) :
    Calls Tryz.prog 94 #[.slice (some ⟨b, off, none⟩) L.length cap] w fun e w' => ((L.all Qd.ok = true ∧ ∃ x', e = .returned (.tuple #[x', .bool true]) ∧ IRow w' x' (itemsOf L)) ∨ (L.all Qd.ok = false ∧ e = .returned (.tuple #[.slice none 0 0, .bool false]))) ∧ G w w' := by
  obtain ⟨i0, hi, hz0, hz1, hz2⟩ := info_parts info_it
  have HV : Hid _ := hV
  clear hV
  go_enter Tryz.func94, Tryz.ntmps94
  go_wp2
  go_loopw [4, 11] (fun x i W => ∃ m : Nat, m ≤ L.length ∧ i = .int .i64 m ∧ G w W ∧ W.ownsRow w.heap.size 43 1 x (itemsOf (L.take m)).length (itemsOf (L.take m)) ∧ (L.take m).all Qd.ok = true) (fun _ i _ => L.length - (RowKit.intOf i).toNat)
  case atStart => exact ⟨0, by omega, rfl, G.refl _, World.ownsRow_nil _ _ _ _, rfl⟩
  case round =>
    obtain ⟨m, hm, rfl, hG, hown, hall⟩ := hrel
    by_cases hlt : m < L.length
    · obtain ⟨q, hq⟩ : ∃ q, L[m]? = some q := ⟨L[m], List.getElem?_eq_getElem hlt⟩
      obtain ⟨h0, h1, h2, h3⟩ := vrow_at (VRow.G HV.out hG) hq
      have R1 : Hid (q.ok = true → q.1 = 0 → itemsOf (L.take (m + 1)) = itemsOf (L.take m)) := fun _ hk => by rw [items_snoc hq, hk]; simp
      have R2 : Hid (q.1 ≠ 0 → itemsOf (L.take (m + 1)) = itemsOf (L.take m) ++ [q.it]) := fun hk => by rw [items_snoc hq]; simp [hk]
      have R3 : Hid (q.ok = true → (L.take (m + 1)).all Qd.ok = true) := all_snoc hq hall
      have R4 : Hid (q.ok = false → L.all Qd.ok = false) := all_no hq
      have R5 : Hid (q.ok = true → q.it.oneCell' = true) := it_one q
      have hle := items_le L m
      clear hq hall
      obtain ⟨k, a, b', s⟩ := q
      simp only [Qd.ok, Qd.it] at R1 R2 R3 R4 R5 h0 h1 h2 h3
      have HI : Hid _ := io_any k a b' s
      have HN : Hid (okV k a b' s = true → ∀ w, Calls Tryz.prog 82 #[itemV k a b' s] w fun e w' => e = .returned (.bool (k == 0)) ∧ G w w') := fun hok => by
        by_cases hk : k = 0
        · subst hk
          rw [itV_0 hok]; exact isn_yes
        · rw [beq_false_of_ne hk]; exact isn_no k a b' s hok hk
      have HG : Hid (G w wr) := hG
      have HO : Hid (wr.ownsRow w.heap.size 43 1 _ (itemsOf (L.take m)).length (itemsOf (L.take m))) := hown
      clear hown hG
      cases hok : okV k a b' s
      · have R4' : Hid _ := R4.out hok
        rw [hok] at HI
        clear HN R1 R2 R3 R4 R5 hok
        generalize itemV k a b' s = x at HI
        go_wp2_with fail
        refine (HI.out _ (hT.G (HG.out.alloc _))).mono ?_
        rintro e w1 ⟨rfl, hb1⟩
        go_wp2
        go_ret2
        exact ⟨.inr ⟨R4'.out, rfl⟩, (HG.out.alloc _).trans hb1⟩
      · have HN' : Hid _ := HN.out hok
        have R1' : Hid _ := R1.out hok
        have R3' : Hid _ := R3.out hok
        obtain ⟨t, _, v, hx, _⟩ := ival_any k a b' s hok
        rw [hok] at HI
        rw [hx] at HI HN' R2
        clear HN R1 R3 R4 R5 hok hx
        go_wp2_with fail
        refine (HI.out _ (hT.G (HG.out.alloc _))).mono ?_
        rintro e w1 ⟨rfl, hb1⟩
        have g1 : G wr w1 := ((G.refl _).alloc _).trans hb1
        have HG1 : Hid (G w w1) := HG.out.trans g1
        have HO1 : Hid (w1.ownsRow w.heap.size 43 1 _ (itemsOf (L.take m)).length (itemsOf (L.take m))) := own_G HO.out g1
        clear hb1 g1
        go_wp2_with fail
        refine (HN'.out _).mono ?_
        rintro e w2 ⟨rfl, hb2⟩
        have HG2 : Hid (G w w2) := HG1.out.trans hb2
        have HO2 : Hid (w2.ownsRow w.heap.size 43 1 _ (itemsOf (L.take m)).length (itemsOf (L.take m))) := own_G HO1.out hb2
        clear hb2
        by_cases hk : k = 0
        · have R1'' : Hid _ := R1'.out hk
          clear R1'
          subst hk
          go_wp2
          go_roundw
          case rel => exact ⟨m + 1, by omega, by go_num, HG2.out, by rw [R1''.out]; exact HO2.out, R3'.out⟩
          case measure => simp [RowKit.intOf]; omega
        · have hk' : (k == 0) = false := beq_false_of_ne hk
          have R2' : Hid _ := R2.out hk
          clear R2
          go_wp2_with (at_builtin; refine wpList_append_own _ rfl _ _ 109 rfl w.heap.size 43 i0 .nilIface 1 16 Tryz.underlying109 hi hz0 hz1 hz2 rfl (by decide) _ _ _ rfl (World.ownsRow.alloc HO2.out _) ⟨w2.heap.size, 0, none⟩ 1 1 [.iface t v] rfl rfl ?c1 ?c2 ?c3 ?c4 ?c5 ?_)
          case c1 =>
            intro j u hj
            match j, hj with
            | 0, hj => simp at hj; subst hj; simp [Addr.add]
          case c2 => intro u hu; simp at hu; subst hu; rfl
          case c3 => unfold maxLen; omega
          case c4 => omega
          case c5 => have := HG2.out.size; simp; omega
          intro x' w3 hown3 hgrow _
          have HG3 : Hid (G w w3) := Below.grown (HG2.out.alloc _) hgrow (by have := HG2.out.size; simp; omega) (fun g hg => (World.ownsRow.lt HO2.out g hg).1)
          have HO3 : Hid (w3.ownsRow w.heap.size 43 1 x' (itemsOf (L.take (m + 1))).length (itemsOf (L.take (m + 1)))) := by
            rw [R2'.out, List.length_append]
            exact hown3
          clear hown3 hgrow
          go_wp2
          go_roundw
          case rel => exact ⟨m + 1, by omega, by go_num, HG3.out, HO3.out, R3'.out⟩
          case measure => simp [RowKit.intOf]; omega
    · have e : L.take m = L := List.take_of_length_le (by omega)
      rw [e] at hown hall
      have HO : Hid (wr.ownsRow w.heap.size 43 1 _ (itemsOf L).length (itemsOf L)) := hown
      have HA : Hid _ := hall
      have HG : Hid (G w wr) := hG
      clear hown hall hG e
      go_wp2
      go_ret2
      exact ⟨.inl ⟨HA.out, _, rfl, own_irow HO.out⟩, HG.out⟩
end Go.Proofs.YtnoajhegcjoebabGreatDoor
