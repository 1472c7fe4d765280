/- The document's disks: newest, Read. -/
import Derived.Test.YtbjbphhcmmaaoaaRf1
namespace Go.Proofs.Ytbjbphhcmmaaoaa
open Go.RowKit

/-- An entry of a list of writes, in memory. -/
theorem RowW.ent {w : World} {cp : Option Addr} {n cc : Nat} {l : List (Nat × List Nat)} {F N : Nat → Prop} (h : RowW w (.slice cp n cc) l F N) {k : Nat} {e : Nat × List Nat} (hk : l[k]? = some e) : ∃ g d, cp = some ⟨g, 0, none⟩ ∧ n = l.length ∧ l.length ≤ cc ∧ w.cell? ⟨g, k * 2, none⟩ = some (I e.1) ∧ w.cell? ⟨g, k * 2 + 1, none⟩ = some (.slice (some ⟨d, 0, none⟩) 128 128) ∧ Blk w d 5 (e.2.map bv) ∧ F d ∧ ¬ N d ∧ F g := by
  obtain ⟨⟨ds, h1, h2, h3⟩, h4⟩ := h
  have hlt := (List.getElem?_eq_some_iff.1 hk).1
  obtain ⟨d, hd⟩ : ∃ d, ds[k]? = some d := ⟨_, List.getElem?_eq_getElem (by omega)⟩
  obtain ⟨r1, r2, r3⟩ := h3 k e d hk hd
  have hz : (l.zip ds)[k]? = some (e, d) := by rw [List.getElem?_zip_eq_some]; exact ⟨hk, hd⟩
  obtain ⟨c1, c2⟩ := swsC_at hz
  rcases h2.2 with ⟨_, hn⟩ | ⟨g, cap, cur, he, _, _, hc, _⟩
  · omega
  · cases he
    refine ⟨g, d, rfl, rfl, hc, ?_, ?_, r1, r2, r3, h4 g rfl⟩
    · rw [h2.cellAt (k * 2) (by omega)]; exact c1
    · rw [h2.cellAt (k * 2 + 1) (by omega)]; exact c2
theorem RowW.slice {w : World} {v : Value} {l : List (Nat × List Nat)} {F N : Nat → Prop} (h : RowW w v l F N) : ∃ cp cc, v = .slice cp l.length cc := by
  obtain ⟨⟨ds, h1, h2, h3⟩, h4⟩ := h
  rcases h2.2 with ⟨rfl, hn⟩ | ⟨g, cap, cur, rfl, _⟩
  · exact ⟨none, 0, by rw [hn]⟩
  · exact ⟨_, _, rfl⟩
set_option maxRecDepth 100000 in
set_option maxHeartbeats 4000000 in
theorem rnewest_any (F : Nat → Prop) (m : DM) (p at' : Nat) (ha : at' < m.n) (hB : m.pend.length ≤ 549755813888) (w : World) (h : RD w F p m) : Calls Try.prog 53 #[.pointer (some ⟨p, 0, none⟩), .int .i64 at'] w fun e w' => ∃ v, e = .returned v ∧ w' = w ∧ Bytes w v (m.newest at') := by
  obtain ⟨ok, ⟨lb, ps, hb, hlb, hrw, _⟩, _⟩ := h
  obtain ⟨cp, cc, rfl⟩ := hrw.slice
  have HLB := hide hlb
  have HRW := hide hrw
  have HOK := hide ok
  have HLL := hide ok.ll
  have hn2 := ok.n2
  have hc := hb.rheadC
  clear hb hlb hrw ok
  go_enter Try.func53, Try.ntmps53
  go_wp2
  go_loopw [5] (fun i W => W = w ∧ ((i = .int .i64 (-1) ∧ ∀ (j : Nat) f, m.pend[j]? = some f → f.1 ≠ at') ∨ ∃ k : Nat, k < m.pend.length ∧ i = .int .i64 k ∧ ∀ (j : Nat) f, k < j → m.pend[j]? = some f → f.1 ≠ at')) (fun i _ => ((RowKit.intOf i) + 1).toNat)
  case atStart =>
    refine ⟨rfl, ?_⟩
    by_cases h0 : m.pend.length = 0
    · left
      refine ⟨by rw [h0]; rfl, fun j f hj => ?_⟩
      have := (List.getElem?_eq_some_iff.1 hj).1
      omega
    · right
      refine ⟨m.pend.length - 1, by omega, by congr 1; omega, fun j f hk hj => ?_⟩
      have := (List.getElem?_eq_some_iff.1 hj).1
      omega
  case round =>
    obtain ⟨rfl, hrel⟩ := hrel
    rcases hrel with ⟨rfl, hno⟩ | ⟨k, hk, rfl, hno⟩
    · have HXE : Hid (m.newest at' = sector m.laid at') := by unfold Hid DM.newest; rw [find_none hno]
      have HSL := hide (sector_len HLL.out ha)
      have i1 : (0 : Int) ≤ 128 * (at' : Int) := by omega
      have i2 : 128 * (at' : Int) + 128 ≤ (m.n : Int) * 128 := by omega
      have i3 : (128 * (at' : Int)).toNat = at' * 128 := by omega
      have i4 : (128 * (at' : Int) + 128).toNat = at' * 128 + 128 := by omega
      have i5 : IntKind.i64.wrap (128 * (at' : Int)) = 128 * (at' : Int) := by rw [IntKind.wrap_i64]; omega
      have i6 : IntKind.i64.wrap (128 * (at' : Int) + 128) = 128 * (at' : Int) + 128 := by rw [IntKind.wrap_i64]; omega
      have i7 : ¬ (m.n * 128 = at' * 128) := by omega
      clear hno
      go_wp2
      go_ret
      refine ⟨_, rfl, by first | rfl | trivial, ?_⟩
      rw [HXE.out]
      refine ⟨some ⟨lb, at' * 128, none⟩, m.n * 128 - at' * 128, by rw [HSL.out]; rfl, by rw [HSL.out]; omega, .inr ⟨lb, at' * 128, rfl, fun j x hj => ?_⟩⟩
      rw [Addr.add_mid]
      exact sector_range HLB.out HLL.out ha j (bv x) (by rw [List.getElem?_map, hj]; rfl)
    · obtain ⟨e, he⟩ : ∃ e, m.pend[k]? = some e := ⟨_, List.getElem?_eq_getElem hk⟩
      obtain ⟨g, d, rfl, _, hcc, hat, hdat, hbd, _⟩ := HRW.out.ent he
      have HBD := hide hbd
      have hkI : (k : Int) < (m.pend.length : Int) := by omega
      have HE2 := hide (HOK.out.p e (List.mem_of_getElem? he)).2.1
      clear hbd
      by_cases hea : e.1 = at'
      · have HXE : Hid (m.newest at' = e.2) := by unfold Hid DM.newest; rw [find_last he hea hno]
        rw [hea] at hat
        clear hno he hea
        go_wp2
        go_ret
        refine ⟨_, rfl, by first | rfl | trivial, ?_⟩
        rw [HXE.out]
        have := HBD.out.bytes
        rw [HE2.out] at this
        exact this
      · have hne : ¬ ((e.1 : Int) = (at' : Int)) := by omega
        have HNO : Hid (∀ (j : Nat) f, k - 1 < j → m.pend[j]? = some f → f.1 ≠ at') := fun j f hj hf => by
          by_cases hjk : j = k
          · subst hjk; rw [he] at hf; cases hf; exact hea
          · exact hno j f (by omega) hf
        have HN0 : Hid (k = 0 → ∀ (j : Nat) f, m.pend[j]? = some f → f.1 ≠ at') := fun h0 j f hf => by
          by_cases hjk : j = k
          · subst hjk; rw [he] at hf; cases hf; exact hea
          · exact hno j f (by omega) hf
        clear hno he hea
        go_wp2
        go_roundw
        case rel =>
          refine ⟨by first | rfl | trivial, ?_⟩
          by_cases h0 : k = 0
          · left; exact ⟨by rw [h0]; rfl, HN0.out h0⟩
          · right; exact ⟨k - 1, by omega, by congr 1; omega, HNO.out⟩
        case measure => simp [RowKit.intOf]
set_option maxRecDepth 100000 in
set_option maxHeartbeats 4000000 in
theorem rread_any (F : Nat → Prop) (m : DM) (p : Nat) (n : Int) (hB : m.pend.length ≤ 549755813888) (w : World) (h : RD w F p m) : Calls Try.prog 35 #[.pointer (some ⟨p, 0, none⟩), .int .i64 n] w fun e w' => G w w' ∧
    ((¬ (0 ≤ n ∧ n < m.n) ∧ e = .returned (.tuple #[.slice none 0 0, .int .i64 20])) ∨ ((0 ≤ n ∧ n < m.n) ∧ m.off = true ∧ e = .returned (.tuple #[.slice none 0 0, .int .i64 2])) ∨
     ((0 ≤ n ∧ n < m.n) ∧ m.off = false ∧ ∃ g, w.heap.size ≤ g ∧ e = .returned (.tuple #[.slice (some ⟨g, 0, none⟩) 128 128, .int .i64 0]) ∧ Blk w' g 5 ((m.newest n.toNat).map bv))) := by
  have HP := hide h
  have HSE := hide (rsectors_any F m p w h)
  obtain ⟨ok, ⟨lb, ps, hb, _⟩, _⟩ := h
  have HOK := hide ok
  have hc := hb.rheadC
  clear hb ok
  by_cases h0 : n < 0
  · have HIN : Hid (¬ (0 ≤ n ∧ n < m.n)) := by unfold Hid; omega
    go_enter Try.func35, Try.ntmps35
    go_wp2
    go_ret2
    exact ⟨G.refl _, .inl ⟨HIN.out, rfl⟩⟩
  · by_cases h1 : n < m.n
    · have HIN : Hid (0 ≤ n ∧ n < m.n) := by unfold Hid; omega
      have hge : ¬ (m.n : Int) ≤ n := by omega
      cases hoff : m.off with
      | true =>
        rw [hoff] at hc
        go_enter Try.func35, Try.ntmps35
        go_wp2_with fail
        refine HSE.out.mono ?_
        rintro e w1 ⟨rfl, rfl⟩
        clear HSE
        go_wp2
        go_ret2
        exact ⟨G.refl _, .inr (.inl ⟨HIN.out, by first | rfl | trivial, rfl⟩)⟩
      | false =>
        rw [hoff] at hc
        obtain ⟨at', rfl⟩ : ∃ a : Nat, n = a := ⟨n.toNat, by omega⟩
        have ha : at' < m.n := by omega
        have HN := hide (rnewest_any F m p at' ha hB w HP.out)
        have HL := DM.newest_len HOK.out ha
        have HSM : Hid (∀ v, Bytes w v (m.newest at') → Calls Try.prog 45 #[v] w fun e w' => e = .returned (.slice (some ⟨w.heap.size, 0, none⟩) 128 128) ∧ G w w' ∧ Blk w' w.heap.size 5 ((m.newest at').map bv)) := fun v hv => by
          have := same_any v (m.newest at') (by rw [HL]; decide) w hv
          rw [HL] at this
          exact this
        go_enter Try.func35, Try.ntmps35
        go_wp2_with fail
        refine HSE.out.mono ?_
        rintro e w1 ⟨rfl, rfl⟩
        clear HSE
        go_wp2_with fail
        refine HN.out.mono ?_
        rintro e w2 ⟨v, rfl, rfl, hv⟩
        have HV := hide hv
        clear hv HN hc
        go_wp2_with fail
        refine (HSM.out v HV.out).mono ?_
        rintro e w3 ⟨rfl, hg, hbk⟩
        have HG2 := hide hg
        have HB := hide hbk
        clear hg hbk HSM
        go_wp2
        go_ret2
        exact ⟨HG2.out, .inr (.inr ⟨HIN.out, by first | rfl | trivial, _, Nat.le_refl _, rfl, HB.out⟩)⟩
    · have HIN : Hid (¬ (0 ≤ n ∧ n < m.n)) := by unfold Hid; omega
      have hge : (m.n : Int) ≤ n := by omega
      clear h1
      go_enter Try.func35, Try.ntmps35
      go_wp2_with fail
      refine HSE.out.mono ?_
      rintro e w1 ⟨rfl, rfl⟩
      clear HSE
      go_wp2
      go_ret2
      exact ⟨G.refl _, .inl ⟨HIN.out, rfl⟩⟩
set_option maxRecDepth 100000 in
set_option maxHeartbeats 4000000 in
theorem rread_nil (n : Int) (w : World) : Calls Try.prog 35 #[.pointer none, .int .i64 n] w fun e w' => e = .returned (.tuple #[.slice none 0 0, .int .i64 1]) ∧ w' = w := by
  go_enter Try.func35, Try.ntmps35
  go_wp2
  go_ret2
  exact ⟨rfl, rfl⟩
end Go.Proofs.Ytbjbphhcmmaaoaa
