/- last. -/
import Derived.Test.YtbjbphhcmmaaoaaCr2
namespace Go.Proofs.Ytbjbphhcmmaaoaa
open Go.RowKit

/-- Under way in last: m of the writes are looked at, c of them count. -/
def LK (w : World) (old : Value) (ob : List Nat) (all : Bool) (ks : List Bool) (n : Nat) (E : Nat → Pu) (L at' m : Nat) (c : Int) (x : Value) (W : World) : Prop :=
  c = ((vals n E m).length : Int) ∧ G w W ∧ Bytes W x (lastF (fun j => all || (ks[j]? == some true)) (vals n E L) at' ob (vals n E m).length) ∧ ∀ j, Value.blk x j → Value.blk old j ∨ w.heap.size ≤ j
set_option maxRecDepth 100000 in
set_option maxHeartbeats 4000000 in
theorem last_any (n at' : Nat) (all : Bool) (kv : Value) (ks : List Bool) (v : Value) (L : Nat) (hL : L ≤ 1048576) (hkl : ks.length ≤ 1073741824) (E : Nat → Pu) (old : Value) (ob : List Nat) (w : World) (hv : PuS w v L E) (hk : Keeps w kv ks) (ho : Bytes w old ob) :
    Calls Try.prog 8 #[v, .int .i64 n, .int .i64 at', .bool all, kv, old] w fun e w' => ∃ x, e = .returned x ∧ G w w' ∧ Bytes w' x (lastF (fun j => all || (ks[j]? == some true)) (vals n E L) at' ob (vals n E L).length) ∧ ∀ j, Value.blk x j → Value.blk old j ∨ w.heap.size ≤ j := by
  obtain ⟨a, cap, rfl, hv⟩ := hv
  obtain ⟨ka, kc, rfl, hkc, hkk⟩ := hk
  have HV := hide hv
  have HKK := hide hkk
  have H0 : Hid (LK w old ob all ks n E L at' 0 0 old w) := ⟨rfl, G.refl _, ho, fun j hj => .inl hj⟩
  clear hv ho hkk
  go_enter Try.func8, Try.ntmps8
  go_wp2_with fail
  go_loopw [13, 14, 15, 16] (fun c x i _ W => ∃ m : Nat, m ≤ L ∧ i = .int .i64 m ∧ ∃ ci : Int, c = .int .i64 ci ∧ LK w old ob all ks n E L at' m ci x W) (fun _ _ i _ _ => L - (RowKit.intOf i).toNat)
  case atStart => exact ⟨0, by omega, rfl, 0, rfl, H0.out⟩
  case round =>
    obtain ⟨m, hm, rfl, ci, rfl, hlk⟩ := hrel
    have HLK := hide hlk
    clear hlk H0
    by_cases hlt : m < L
    · obtain ⟨b, off, rfl, hpc⟩ := HV.out.resolve_left (by omega)
      obtain ⟨hc1, hc2⟩ := (hpc.G HLK.out.2.1) m hlt
      have HY := hide (vals_yes (n := n) (E := E) (i := m))
      have HZ := hide (vals_no (n := n) (E := E) (i := m))
      have HATF : Hid (∀ _ : 0 ≤ (E m).at' ∧ (E m).at' < n, (vals n E L)[(vals n E m).length]? = some ((E m).at'.toNat, flL (E m).fill)) := fun h => vals_at hlt h
      have hcm := vals_len n E m
      obtain rfl : ci = ((vals n E m).length : Int) := HLK.out.1
      obtain ⟨c, hc⟩ : ∃ c, (vals n E m).length = c := ⟨_, rfl⟩
      rw [hc] at hcm HATF HLK ⊢
      have HC := hide hc
      generalize (E m).at' = a at hc1 HY HZ HATF
      generalize (E m).fill = f at hc2 HY HATF
      clear hpc HV hc
      have hmI : (m : Int) < (L : Int) := by omega
      by_cases hi1 : 0 ≤ a
      · by_cases hi2 : a < n
        · have HAT := hide (HATF.out ⟨hi1, hi2⟩)
          clear HATF
          cases all with
          | true =>
            by_cases hat : a = (at' : Int)
            · have HA2 : Hid (a.toNat = at') := hide (by omega)
              go_wp2_with fail
              refine (filled_any f _).mono ?_
              rintro e' w3 ⟨x3, rfl, hg3, hb3, hf3⟩
              have HNX : Hid (LK w old ob true ks n E L at' (m + 1) ((c : Int) + 1) x3 w3) := by
                obtain ⟨l1, l2, l3, l4⟩ := HLK.out
                have hle : (vals n E (m + 1)).length = c + 1 := by rw [HY.out ⟨hi1, hi2⟩, List.length_append, HC.out]; rfl
                refine ⟨by rw [hle]; rfl, l2.trans hg3, ?_, fun j hj => .inr (Nat.le_trans l2.size (hf3 j hj))⟩
                rw [hle, lastF_step HAT.out, if_pos (⟨by simp, HA2.out⟩)]
                exact hb3
              clear HLK HAT HY HZ HC hg3 hb3 hf3
              go_wp2
              go_roundw
              case rel => exact ⟨m + 1, by omega, by go_num, (c : Int) + 1, by go_num, HNX.out⟩
              case measure => simp [RowKit.intOf]; omega
            · have HA2 : Hid (¬ a.toNat = at') := hide (by omega)
              have HNX : Hid (LK w old ob true ks n E L at' (m + 1) ((c : Int) + 1) u14 wr) := by
                obtain ⟨l1, l2, l3, l4⟩ := HLK.out
                have hle : (vals n E (m + 1)).length = c + 1 := by rw [HY.out ⟨hi1, hi2⟩, List.length_append, HC.out]; rfl
                rw [HC.out] at l3
                refine ⟨by rw [hle]; rfl, l2, ?_, l4⟩
                rw [hle, lastF_step HAT.out, if_neg (fun h => HA2.out h.2)]
                exact l3
              clear HLK HAT HY HZ HC
              go_wp2
              go_roundw
              case rel => exact ⟨m + 1, by omega, by go_num, (c : Int) + 1, by go_num, HNX.out⟩
              case measure => simp [RowKit.intOf]; omega
          | false =>
            by_cases hkl2 : c < ks.length
            · obtain ⟨kb, ko, rfl, hcells⟩ := HKK.out.resolve_left (fun e => by rw [e] at hkl2; simp at hkl2)
              have hbb : ks[c]? = some ks[c] := List.getElem?_eq_getElem hkl2
              generalize ks[c] = bb at hbb
              have hkcell : wr.cell? ⟨kb, ko + c, none⟩ = some (.bool bb) := (HLK.out.2.1.cell (World.block_lt_of_cell? _ _ (hcells c bb hbb))).trans (hcells c bb hbb)
              have HBB := hide hbb
              have hkI : (c : Int) < (ks.length : Int) := by omega
              clear hbb hcells HKK
              cases bb with
              | true =>
                by_cases hat : a = (at' : Int)
                · have HA2 : Hid (a.toNat = at') := hide (by omega)
                  go_wp2_with fail
                  refine (filled_any f _).mono ?_
                  rintro e' w3 ⟨x3, rfl, hg3, hb3, hf3⟩
                  have HNX : Hid (LK w old ob false ks n E L at' (m + 1) ((c : Int) + 1) x3 w3) := by
                    obtain ⟨l1, l2, l3, l4⟩ := HLK.out
                    have hle : (vals n E (m + 1)).length = c + 1 := by rw [HY.out ⟨hi1, hi2⟩, List.length_append, HC.out]; rfl
                    refine ⟨by rw [hle]; rfl, l2.trans hg3, ?_, fun j hj => .inr (Nat.le_trans l2.size (hf3 j hj))⟩
                    rw [hle, lastF_step HAT.out, if_pos (⟨by simp [HBB.out], HA2.out⟩)]
                    exact hb3
                  clear HLK HAT HY HZ HC hg3 hb3 hf3
                  go_wp2
                  go_roundw
                  case rel => exact ⟨m + 1, by omega, by go_num, (c : Int) + 1, by go_num, HNX.out⟩
                  case measure => simp [RowKit.intOf]; omega
                · have HA2 : Hid (¬ a.toNat = at') := hide (by omega)
                  have HNX : Hid (LK w old ob false ks n E L at' (m + 1) ((c : Int) + 1) u14 wr) := by
                    obtain ⟨l1, l2, l3, l4⟩ := HLK.out
                    have hle : (vals n E (m + 1)).length = c + 1 := by rw [HY.out ⟨hi1, hi2⟩, List.length_append, HC.out]; rfl
                    rw [HC.out] at l3
                    refine ⟨by rw [hle]; rfl, l2, ?_, l4⟩
                    rw [hle, lastF_step HAT.out, if_neg (fun h => HA2.out h.2)]
                    exact l3
                  clear HLK HAT HY HZ HC
                  go_wp2
                  go_roundw
                  case rel => exact ⟨m + 1, by omega, by go_num, (c : Int) + 1, by go_num, HNX.out⟩
                  case measure => simp [RowKit.intOf]; omega
              | false =>
                have HNX : Hid (LK w old ob false ks n E L at' (m + 1) ((c : Int) + 1) u14 wr) := by
                  obtain ⟨l1, l2, l3, l4⟩ := HLK.out
                  have hle : (vals n E (m + 1)).length = c + 1 := by rw [HY.out ⟨hi1, hi2⟩, List.length_append, HC.out]; rfl
                  rw [HC.out] at l3
                  refine ⟨by rw [hle]; rfl, l2, ?_, l4⟩
                  rw [hle, lastF_step HAT.out, if_neg (fun h => by simp [HBB.out] at h)]
                  exact l3
                clear HLK HAT HY HZ HC
                go_wp2
                go_roundw
                case rel => exact ⟨m + 1, by omega, by go_num, (c : Int) + 1, by go_num, HNX.out⟩
                case measure => simp [RowKit.intOf]; omega
            · have HBB : Hid (ks[c]? = none) := hide (List.getElem?_eq_none (by omega))
              have hkI : ¬ (c : Int) < (ks.length : Int) := by omega
              have HNX : Hid (LK w old ob false ks n E L at' (m + 1) ((c : Int) + 1) u14 wr) := by
                obtain ⟨l1, l2, l3, l4⟩ := HLK.out
                have hle : (vals n E (m + 1)).length = c + 1 := by rw [HY.out ⟨hi1, hi2⟩, List.length_append, HC.out]; rfl
                rw [HC.out] at l3
                refine ⟨by rw [hle]; rfl, l2, ?_, l4⟩
                rw [hle, lastF_step HAT.out, if_neg (fun h => by simp [HBB.out] at h)]
                exact l3
              clear HLK HAT HY HZ HC
              go_wp2
              go_roundw
              case rel => exact ⟨m + 1, by omega, by go_num, (c : Int) + 1, by go_num, HNX.out⟩
              case measure => simp [RowKit.intOf]; omega
        · clear HATF
          have HNX : Hid (LK w old ob all ks n E L at' (m + 1) (c : Int) u14 wr) := by
            obtain ⟨l1, l2, l3, l4⟩ := HLK.out
            rw [← HZ.out (fun h => hi2 h.2)] at l1 l3
            exact ⟨l1, l2, l3, l4⟩
          clear HLK HY HZ
          go_wp2
          go_roundw
          case rel => exact ⟨m + 1, by omega, by go_num, _, rfl, HNX.out⟩
          case measure => simp [RowKit.intOf]; omega
      · clear HATF
        have HNX : Hid (LK w old ob all ks n E L at' (m + 1) (c : Int) u14 wr) := by
          obtain ⟨l1, l2, l3, l4⟩ := HLK.out
          rw [← HZ.out (fun h => hi1 h.1)] at l1 l3
          exact ⟨l1, l2, l3, l4⟩
        clear HLK HY HZ
        go_wp2
        go_roundw
        case rel => exact ⟨m + 1, by omega, by go_num, _, rfl, HNX.out⟩
        case measure => simp [RowKit.intOf]; omega
    · obtain rfl : m = L := by omega
      go_wp2
      go_ret
      exact ⟨_, rfl, HLK.out.2⟩
end Go.Proofs.Ytbjbphhcmmaaoaa
