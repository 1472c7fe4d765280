/- Lists of values; trellislaw1.valid. -/
import Derived.Test.YtajeddpbmdkafaaGreatDoorScriptOpen
import Derived.Test.YtajeddpbmdkafaaGreatDoorOkK
import Derived.Laws.AppendOwn
import Derived.OwnWalk
import Derived.WalkKit
namespace Go.Proofs.YtajeddpbmdkafaaGreatDoor
open Go.RowKit Go.Lib Go.Shelf

/-- A value, as four. -/
abbrev Qd := Int × Int × Int × ByteArray
abbrev Qd.C (q : Qd) : List Value := [I q.1, I q.2.1, I q.2.2.1, .string q.2.2.2]
abbrev Qd.W (q : Qd) : Value := V q.1 q.2.1 q.2.2.1 q.2.2.2
def Qd.ok (q : Qd) : Bool := okV q.1 q.2.1 q.2.2.1 q.2.2.2
def VRow (w : World) (x : Value) (L : List Qd) : Prop := (x = .slice none 0 0 ∧ L = []) ∨ ∃ (b off cap : Nat), x = .slice (some ⟨b, off, none⟩) L.length cap ∧ L.length ≤ cap ∧ ∀ i q, L[i]? = some q → ∀ j, j < 4 → w.cell? ⟨b, off + (i * 4 + j), none⟩ = q.C[j]?
theorem cellLt {w : World} {b o : Nat} {u : Value} (h : w.cell? ⟨b, o, none⟩ = some u) : b < w.heap.size := Nat.lt_of_not_le fun hle => by
  have : w.heap[b]? = none := Array.getElem?_eq_none hle
  simp [World.cell?, this] at h
theorem qc_some (q : Qd) (j : Nat) (hj : j < 4) : ∃ u, q.C[j]? = some u := by
  have : j = 0 ∨ j = 1 ∨ j = 2 ∨ j = 3 := by omega
  rcases this with rfl | rfl | rfl | rfl <;> exact ⟨_, rfl⟩
theorem VRow.G {w w' : World} {x : Value} {L : List Qd} (h : VRow w x L) (g : G w w') : VRow w' x L := by
  rcases h with h | ⟨b, off, cap, rfl, hc, hcell⟩
  · exact .inl h
  · refine .inr ⟨b, off, cap, rfl, hc, fun i q hi j hj => ?_⟩
    have h0 := hcell i q hi j hj
    obtain ⟨u, hu⟩ := qc_some q j hj
    rw [hu] at h0 ⊢
    exact (g.cell (cellLt h0)).trans h0
theorem G.grown {w w' : World} (g : G w w') : w.grownBy w' none := ⟨g.os, g.tape, g.output, g.size, fun k hk _ => g.block k hk⟩
theorem own_G {w w' : World} {base : Nat} {e : TypeId} {size : Nat} {v : Value} {n : Nat} {xs : List Value} (h : w.ownsRow base e size v n xs) (g : G w w') : w'.ownsRow base e size v n xs :=
  h.kept g.grown (by cases h2 : v.ownBlock <;> simp)
theorem take_snoc {L : List Qd} {m : Nat} {q : Qd} (h : L[m]? = some q) : L.take (m + 1) = L.take m ++ [q] := by
  rw [List.take_add_one, h]
  rfl
theorem vrow_at {w : World} {b off n cap : Nat} {L : List Qd} (h : VRow w (.slice (some ⟨b, off, none⟩) n cap) L) {i : Nat} {q : Qd} (hi : L[i]? = some q) :
    w.cell? ⟨b, off + i * 4, none⟩ = some (I q.1) ∧ w.cell? ⟨b, off + i * 4 + 1, none⟩ = some (I q.2.1) ∧ w.cell? ⟨b, off + i * 4 + 2, none⟩ = some (I q.2.2.1) ∧ w.cell? ⟨b, off + i * 4 + 3, none⟩ = some (.string q.2.2.2) := by
  rcases h with ⟨h, _⟩ | ⟨b', off', cap', he, _, hc⟩
  · cases h
  · cases he
    exact ⟨hc i q hi 0 (by decide), by rw [Nat.add_assoc]; exact hc i q hi 1 (by decide), by rw [Nat.add_assoc]; exact hc i q hi 2 (by decide), by rw [Nat.add_assoc]; exact hc i q hi 3 (by decide)⟩
theorem info_val : (Tryz.prog.info? 26).map (fun i => (i.zero, i.size, i.bytes)) = some (some (V 0 0 0 E0), 4, 40) := by kernel_rfl
def flat (D : List Qd) : List Value := D.flatMap Qd.C
theorem flat_len : ∀ D : List Qd, (flat D).length = D.length * 4
  | [] => rfl
  | q :: D => by
    show (q.C ++ flat D).length = _
    have e : q.C.length = 4 := rfl
    rw [List.length_append, flat_len D, e]
    show 4 + D.length * 4 = (D.length + 1) * 4
    omega
theorem flat_at : ∀ (D : List Qd) (i : Nat) (q : Qd), D[i]? = some q → ∀ j, j < 4 → (flat D)[i * 4 + j]? = q.C[j]?
  | [], i, q, h, _, _ => by simp at h
  | p :: D, 0, q, h, j, hj => by
    simp at h
    subst h
    show (p.C ++ flat D)[0 * 4 + j]? = _
    rw [List.getElem?_append_left (by show 0 * 4 + j < 4; omega)]
    simp only [Nat.zero_mul, Nat.zero_add]
  | p :: D, i + 1, q, h, j, hj => by
    rw [List.getElem?_cons_succ] at h
    show (p.C ++ flat D)[(i + 1) * 4 + j]? = _
    rw [List.getElem?_append_right (by show 4 ≤ (i + 1) * 4 + j; omega)]
    have e : (i + 1) * 4 + j - p.C.length = i * 4 + j := by show (i + 1) * 4 + j - 4 = _; omega
    rw [e]
    exact flat_at D i q h j hj
theorem flat_snoc (D : List Qd) (q : Qd) : flat (D ++ [q]) = flat D ++ q.C := by
  unfold flat
  rw [List.flatMap_append]
  simp
theorem own_vrow {w : World} {base : Nat} {e : TypeId} {x : Value} {D : List Qd} (h : w.ownsRow base e 4 x D.length (flat D)) : VRow w x D := by
  rcases h.2 with ⟨rfl, hn⟩ | ⟨g, cap, cur, rfl, _, hh, hc, _, hs, ht⟩
  · exact .inl ⟨rfl, List.eq_nil_of_length_eq_zero hn⟩
  · refine .inr ⟨g, 0, cap, rfl, hc, fun i q hi j hj => ?_⟩
    obtain ⟨u, hu⟩ := qc_some q j hj
    have := h.cells (g := g) rfl (i * 4 + j) u ((flat_at D i q hi j hj).trans hu)
    have e : (⟨g, 0, none⟩ : Addr).add (i * 4 + j) = ⟨g, 0 + (i * 4 + j), none⟩ := by
      unfold Addr.add
      split <;> simp_all
    rw [e] at this
    rw [this, hu]

/-- What is known of a value that came in. -/
structure QOk (q : Qd) : Prop where
  k : R64 q.1
  a : R64 q.2.1
  b : R64 q.2.2.1
  s : q.2.2.2.size ≤ 4611686018427387904
theorem vs_list {w : World} {x : Value} (h : VsOk w x) : ∃ (a : Option Addr) (cap : Nat) (L : List Qd), x = .slice a L.length cap ∧ (L = [] ∨ VRow w (.slice a L.length cap) L) ∧ L.length * 40 ≤ 140737488351232 ∧ ∀ q ∈ L, QOk q := by
  rcases h with rfl | ⟨ad, len, cap, Q, rfl, hlc, hb, hQ⟩
  · exact ⟨none, 0, [], rfl, .inl rfl, by simp, fun q hq => absurd hq (List.not_mem_nil)⟩
  · have hl : ((List.range len).map Q).length = len := by simp
    have hat : ∀ i q, ((List.range len).map Q)[i]? = some q → i < len ∧ q = Q i := fun i q hi => by
      obtain ⟨h1, h2⟩ := List.getElem?_eq_some_iff.1 hi
      rw [hl] at h1
      exact ⟨h1, by simpa using h2.symm⟩
    refine ⟨some ad, cap, (List.range len).map Q, by rw [hl], ?_, by rw [hl]; have := Nat.mul_le_mul_right 40 hlc; unfold reachBytes at hb; omega, fun q hq => ?_⟩
    · by_cases h0 : len = 0
      · subst h0; exact .inl rfl
      · right; right
        have hsp : ad.spot = none := by
          have := (hQ 0 (by omega)).1 0 (by omega)
          have := World.cell?_spot this
          simpa [Addr.add] using this
        obtain ⟨b, off, sp⟩ := ad
        simp only at hsp
        subst hsp
        refine ⟨b, off, cap, rfl, by rw [hl]; exact hlc, fun i q hi j hj => ?_⟩
        obtain ⟨h1, rfl⟩ := hat i q hi
        have := (hQ i (by omega)).1 j hj
        rw [show (⟨b, off, none⟩ : Addr).add (i * 4 + j) = ⟨b, off + (i * 4 + j), none⟩ by unfold Addr.add; split <;> simp_all] at this
        exact this
    · obtain ⟨i, hi, rfl⟩ := List.mem_map.1 hq
      have hi' := List.mem_range.1 hi
      obtain ⟨_, h1, h2, h3, h4⟩ := hQ i (by omega)
      exact ⟨h1, h2, h3, by unfold reachBytes at h4; omega⟩
/-- What valid answers: twelve values at most, in a list of its own. -/
def VdA (w : World) (e : Ending) (w' : World) : Prop := ∃ (x : Value) (D : List Qd), e = .returned x ∧ w'.ownsRow w.heap.size 26 4 x D.length (flat D) ∧ G w w' ∧ D.length ≤ 12 ∧ ∀ q ∈ D, QOk q ∧ q.ok = true
set_option maxRecDepth 100000 in
set_option maxHeartbeats 4000000 in
theorem valid_nil (a : Option Addr) (cap : Nat) (w : World) : Calls Tryz.prog 4 #[.slice a 0 cap] w (VdA w) := by
  have HO : Hid (w.ownsRow w.heap.size 26 4 (.slice none 0 0) 0 []) := World.ownsRow_nil _ _ _ _
  go_enter Tryz.func4, Tryz.ntmps4
  go_wp2
  go_loopw [3, 4] (fun x i W => x = .slice none 0 0 ∧ i = .int .i64 0 ∧ W = w) (fun _ _ _ => 0)
  case atStart => exact ⟨rfl, rfl, rfl⟩
  case round =>
    obtain ⟨rfl, rfl, rfl⟩ := hrel
    go_wp2
    go_ret
    exact ⟨_, [], rfl, HO.out, G.refl _, by decide, fun q hq => absurd hq (List.not_mem_nil)⟩
set_option maxRecDepth 100000 in
set_option maxHeartbeats 4000000 in
theorem valid_some (b off cap : Nat) (L : List Qd) (w : World) (hV : VRow w (.slice (some ⟨b, off, none⟩) L.length cap) L) (hn : L.length * 40 ≤ 140737488351232) (hq : ∀ q ∈ L, QOk q) : Calls Tryz.prog 4 #[.slice (some ⟨b, off, none⟩) L.length cap] w (VdA w) := by
  obtain ⟨i0, hi, hz0, hz1, hz2⟩ := info_parts info_val
  have HV : Hid _ := hV
  have HQ : Hid _ := hq
  clear hV hq
  go_enter Tryz.func4, Tryz.ntmps4
  go_wp2
  go_loopw [3, 4] (fun x i W => ∃ (m : Nat) (D : List Qd), m ≤ L.length ∧ i = .int .i64 m ∧ G w W ∧ W.ownsRow w.heap.size 26 4 x D.length (flat D) ∧ D.length ≤ 12 ∧ (∃ cp : Option Addr, ∃ cc : Nat, x = .slice cp D.length cc) ∧ ∀ q ∈ D, QOk q ∧ q.ok = true) (fun _ i _ => L.length - (RowKit.intOf i).toNat)
  case atStart => exact ⟨0, [], by omega, rfl, G.refl _, World.ownsRow_nil _ _ _ _, by decide, ⟨none, 0, rfl⟩, fun q hq => absurd hq (List.not_mem_nil)⟩
  case round =>
    obtain ⟨m, D, hm, rfl, hG, hown, hD, ⟨cp, cc, rfl⟩, hDq⟩ := hrel
    have HG : Hid (G w wr) := hG
    have HO : Hid (wr.ownsRow w.heap.size 26 4 (.slice cp D.length cc) D.length (flat D)) := hown
    have HDq : Hid _ := hDq
    clear hG hown hDq
    by_cases hlt : m < L.length
    · by_cases h12 : D.length < 12
      · obtain ⟨q, hq⟩ : ∃ q, L[m]? = some q := ⟨L[m], List.getElem?_eq_getElem hlt⟩
        have HC : Hid (∀ W, G w W → W.cell? ⟨b, off + m * 4, none⟩ = some (I q.1) ∧ W.cell? ⟨b, off + m * 4 + 1, none⟩ = some (I q.2.1) ∧ W.cell? ⟨b, off + m * 4 + 2, none⟩ = some (I q.2.2.1) ∧ W.cell? ⟨b, off + m * 4 + 3, none⟩ = some (.string q.2.2.2)) := fun W g => vrow_at (VRow.G HV.out g) hq
        have hqo : QOk q := HQ.out q (List.mem_of_getElem? hq)
        clear hq
        obtain ⟨k, a1, b1, s1⟩ := q
        have HI : Hid _ := rv_any k a1 b1 s1 hqo.s
        have HQ1 : Hid (QOk (k, a1, b1, s1)) := hqo
        clear hqo
        simp only at HC
        obtain ⟨h0, h1, h2, h3⟩ := HC.out wr HG.out
        have hkI : (m : Int) < (L.length : Int) := by omega
        have h12I : (D.length : Int) < 12 := by omega
        cases hok : okV k a1 b1 s1
        · rw [hok] at HI
          clear hok
          go_wp2_with fail
          refine (HI.out _).mono ?_
          rintro e w1 ⟨rfl, hb1⟩
          have HG1 : Hid (G w w1) := HG.out.trans hb1
          have HO1 : Hid (w1.ownsRow w.heap.size 26 4 (.slice cp D.length cc) D.length (flat D)) := own_G HO.out hb1
          clear h0 h1 h2 h3 hb1
          go_wp2
          go_roundw
          case rel => exact ⟨m + 1, D, by omega, by go_num, HG1.out, HO1.out, hD, ⟨cp, cc, rfl⟩, HDq.out⟩
          case measure => simp [RowKit.intOf]; omega
        · have HK : Hid (okV k a1 b1 s1 = true) := hok
          rw [hok] at HI
          clear hok
          go_wp2_with fail
          refine (HI.out _).mono ?_
          rintro e w1 ⟨rfl, hb1⟩
          have HG1 : Hid (G w w1) := HG.out.trans hb1
          have HO1 : Hid (w1.ownsRow w.heap.size 26 4 (.slice cp D.length cc) D.length (flat D)) := own_G HO.out hb1
          clear h0 h1 h2 h3 hb1
          obtain ⟨h0, h1, h2, h3⟩ := HC.out w1 HG1.out
          go_wp2_with (at_builtin; refine wpList_append_own _ rfl _ _ 22 rfl w.heap.size 26 i0 (V 0 0 0 E0) 4 40 Tryz.underlying22 hi hz0 hz1 hz2 rfl (by decide) _ _ _ rfl (World.ownsRow.alloc HO1.out _) ⟨w1.heap.size, 0, none⟩ 1 1 [I k, I a1, I b1, .string s1] rfl rfl ?c1 ?c2 ?c3 ?c4 ?c5 ?_)
          case c1 =>
            intro j u hj
            match j, hj with
            | 0, hj => simp at hj; subst hj; simp [Addr.add]
            | 1, hj => simp at hj; subst hj; simp [Addr.add]
            | 2, hj => simp at hj; subst hj; simp [Addr.add]
            | 3, hj => simp at hj; subst hj; simp [Addr.add]
          case c2 =>
            intro u hu
            simp at hu
            rcases hu with rfl | rfl | rfl | rfl <;> rfl
          case c3 => unfold maxLen; omega
          case c4 => omega
          case c5 => have := HG1.out.size; simp at this ⊢; omega
          intro x' w3 hown3 hgrow _
          have HG3 : Hid (G w w3) := Below.grown (HG1.out.alloc _) hgrow (by have := HG1.out.size; simp at this ⊢; omega) (fun g hg => (World.ownsRow.lt HO1.out g hg).1)
          have HO3 : Hid (w3.ownsRow w.heap.size 26 4 x' (D ++ [(k, a1, b1, s1)]).length (flat (D ++ [(k, a1, b1, s1)]))) := by
            unfold Hid
            rw [List.length_append, flat_snoc]
            exact hown3
          have HX : Hid (∃ cp : Option Addr, ∃ cc : Nat, x' = .slice cp (D ++ [(k, a1, b1, s1)]).length cc) := by
            rcases HO3.out.2 with ⟨rfl, hn0⟩ | ⟨g, cap', cur, rfl, _⟩
            · exact ⟨none, 0, by rw [hn0]⟩
            · exact ⟨_, _, rfl⟩
          clear hown3 hgrow h0 h1 h2 h3
          go_wp2
          go_roundw
          case rel => exact ⟨m + 1, _, by omega, by go_num, HG3.out, HO3.out, by rw [List.length_append]; simp; omega, HX.out, fun q hq => by
            rcases List.mem_append.1 hq with h | h
            · exact HDq.out q h
            · simp at h; subst h; exact ⟨HQ1.out, HK.out⟩⟩
          case measure => simp [RowKit.intOf]; omega
      · have hkI : (m : Int) < (L.length : Int) := by omega
        have h12I : ¬ (D.length : Int) < 12 := by omega
        go_wp2
        go_ret
        exact ⟨_, D, rfl, HO.out, HG.out, hD, HDq.out⟩
    · have hkI : ¬ (m : Int) < (L.length : Int) := by omega
      go_wp2
      go_ret
      exact ⟨_, D, rfl, HO.out, HG.out, hD, HDq.out⟩
theorem valid_any (x : Value) (w : World) (h : VsOk w x) : Calls Tryz.prog 4 #[x] w (VdA w) := by
  obtain ⟨a, cap, L, rfl, hV, hn, hq⟩ := vs_list h
  rcases hV with rfl | hV
  · exact valid_nil a cap w
  · rcases hV with ⟨he, rfl⟩ | ⟨b, off, cap', he, hc, hcell⟩
    · cases he
      exact valid_nil none 0 w
    · cases he
      exact valid_some b off cap L w (.inr ⟨b, off, cap, rfl, hc, hcell⟩) hn hq
end Go.Proofs.YtajeddpbmdkafaaGreatDoor
