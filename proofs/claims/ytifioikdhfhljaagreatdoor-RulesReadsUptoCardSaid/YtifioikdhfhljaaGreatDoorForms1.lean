/- Storable and Name: the program's and trellisref1's. -/
import Derived.Test.YtifioikdhfhljaaGreatDoorValidSame
namespace Go.Proofs.YtifioikdhfhljaaGreatDoor
open Go.RowKit Go.PlainAid Go.Lib Go.Shelf
attribute [local go_sem] as_null_null as_null_truth as_null_whole as_null_cpx as_null_str as_null_node as_null_edge as_truth_null as_truth_truth as_truth_whole as_truth_cpx as_truth_str as_truth_node as_truth_edge as_whole_null as_whole_truth as_whole_whole as_whole_cpx as_whole_str as_whole_node as_whole_edge as_cpx_null as_cpx_truth as_cpx_whole as_cpx_cpx as_cpx_str as_cpx_node as_cpx_edge as_str_null as_str_truth as_str_whole as_str_cpx as_str_str as_str_node as_str_edge as_node_null as_node_truth as_node_whole as_node_cpx as_node_str as_node_node as_node_edge as_edge_null as_edge_truth as_edge_whole as_edge_cpx as_edge_str as_edge_node as_edge_edge

set_option maxRecDepth 100000 in
set_option maxHeartbeats 400000 in
theorem stx_null (u : Value) (w : World) : Calls Tryz.prog 173 #[.iface 215 u] w fun e w' => e = .returned (.bool false) ∧ G w w' := by
  go_enter Tryz.func173, Tryz.ntmps173
  go_wp2
  go_ret
  exact ⟨rfl, by repeat (first | exact G.refl _ | refine G.alloc ?_ _ | refine G.setCell ?_ (by simp) _)⟩
set_option maxRecDepth 100000 in
set_option maxHeartbeats 400000 in
theorem stx_truth (u : Value) (w : World) : Calls Tryz.prog 173 #[.iface 216 u] w fun e w' => e = .returned (.bool true) ∧ G w w' := by
  go_enter Tryz.func173, Tryz.ntmps173
  go_wp2
  go_ret
  exact ⟨rfl, by repeat (first | exact G.refl _ | refine G.alloc ?_ _ | refine G.setCell ?_ (by simp) _)⟩
set_option maxRecDepth 100000 in
set_option maxHeartbeats 400000 in
theorem stx_whole (u : Value) (w : World) : Calls Tryz.prog 173 #[.iface 217 u] w fun e w' => e = .returned (.bool true) ∧ G w w' := by
  go_enter Tryz.func173, Tryz.ntmps173
  go_wp2
  go_ret
  exact ⟨rfl, by repeat (first | exact G.refl _ | refine G.alloc ?_ _ | refine G.setCell ?_ (by simp) _)⟩
set_option maxRecDepth 100000 in
set_option maxHeartbeats 400000 in
theorem stx_cpx (u : Value) (w : World) : Calls Tryz.prog 173 #[.iface 219 u] w fun e w' => e = .returned (.bool true) ∧ G w w' := by
  go_enter Tryz.func173, Tryz.ntmps173
  go_wp2
  go_ret
  exact ⟨rfl, by repeat (first | exact G.refl _ | refine G.alloc ?_ _ | refine G.setCell ?_ (by simp) _)⟩
set_option maxRecDepth 100000 in
set_option maxHeartbeats 400000 in
theorem stx_str (u : Value) (w : World) : Calls Tryz.prog 173 #[.iface 221 u] w fun e w' => e = .returned (.bool true) ∧ G w w' := by
  go_enter Tryz.func173, Tryz.ntmps173
  go_wp2
  go_ret
  exact ⟨rfl, by repeat (first | exact G.refl _ | refine G.alloc ?_ _ | refine G.setCell ?_ (by simp) _)⟩
set_option maxRecDepth 100000 in
set_option maxHeartbeats 400000 in
theorem stx_node (u : Value) (w : World) : Calls Tryz.prog 173 #[.iface 222 u] w fun e w' => e = .returned (.bool false) ∧ G w w' := by
  go_enter Tryz.func173, Tryz.ntmps173
  go_wp2
  go_ret
  exact ⟨rfl, by repeat (first | exact G.refl _ | refine G.alloc ?_ _ | refine G.setCell ?_ (by simp) _)⟩
set_option maxRecDepth 100000 in
set_option maxHeartbeats 400000 in
theorem stx_edge (u : Value) (w : World) : Calls Tryz.prog 173 #[.iface 223 u] w fun e w' => e = .returned (.bool false) ∧ G w w' := by
  go_enter Tryz.func173, Tryz.ntmps173
  go_wp2
  go_ret
  exact ⟨rfl, by repeat (first | exact G.refl _ | refine G.alloc ?_ _ | refine G.setCell ?_ (by simp) _)⟩
/-- A value that a property can have. -/
def stoV (k a b : Int) (s : ByteArray) : Bool := okV k a b s && (decide (1 ≤ k) && decide (k ≤ 4))
theorem okV_kind (k a b : Int) (s : ByteArray) (h : okV k a b s = true) : 0 ≤ k ∧ k ≤ 6 := by
  by_cases hk : 0 ≤ k ∧ k ≤ 6
  · exact hk
  · exfalso
    unfold okV at h
    rw [if_neg (by omega), if_neg (by omega), if_neg (by omega), if_neg (by omega), if_neg (by omega), if_neg (by omega)] at h
    exact Bool.noConfusion h
theorem stx_any (k a b : Int) (s : ByteArray) (h : okV k a b s = true) (w : World) : Calls Tryz.prog 173 #[itemV k a b s] w fun e w' => e = .returned (.bool (stoV k a b s)) ∧ G w w' := by
  have hk := okV_kind k a b s h
  have : k = 0 ∨ k = 1 ∨ k = 2 ∨ k = 3 ∨ k = 4 ∨ k = 5 ∨ k = 6 := by omega
  unfold itemV stoV
  rw [h]
  rcases this with rfl | rfl | rfl | rfl | rfl | rfl | rfl
  · exact stx_null _ w
  · exact stx_truth _ w
  · exact stx_whole _ w
  · exact stx_cpx _ w
  · exact stx_str _ w
  · exact stx_node _ w
  · exact stx_edge _ w
set_option maxRecDepth 100000 in
set_option maxHeartbeats 400000 in
theorem Storable_any (k a b : Int) (s : ByteArray) (w : World) (hT : Tabs w) : Calls Tryz.prog 156 #[V k a b s] w fun e w' => e = .returned (.bool (stoV k a b s)) ∧ G w w' := by
  have HI : Hid (∀ w, Tabs w → Calls Tryz.prog 130 #[V k a b s] w fun e w' => e = .returned (.tuple #[itemV k a b s, .bool (okV k a b s)]) ∧ G w w') := itemOf_any k a b s
  have HS : Hid (okV k a b s = true → ∀ w, Calls Tryz.prog 173 #[itemV k a b s] w fun e w' => e = .returned (.bool (stoV k a b s)) ∧ G w w') := fun h => stx_any k a b s h
  have HN : Hid (okV k a b s = false → stoV k a b s = false) := fun h => by unfold stoV; rw [h]; rfl
  generalize itemV k a b s = x at HI HS
  generalize okV k a b s = q at HI HS HN
  generalize stoV k a b s = t at HS HN ⊢
  go_enter Tryz.func156, Tryz.ntmps156
  go_wp2_with fail
  refine (HI.out _ (by exact hT.G ((G.refl w).alloc _))).mono ?_
  rintro e w1 ⟨rfl, hb1⟩
  cases q
  · have h := HN.out rfl
    subst h
    go_wp2
    go_ret
    exact ⟨rfl, ((G.refl w).alloc _).trans hb1⟩
  · go_wp2_with fail
    refine (HS.out (by first | rfl | trivial) _).mono ?_
    rintro e w2 ⟨rfl, hb2⟩
    go_wp2
    go_ret
    exact ⟨rfl, (((G.refl w).alloc _).trans hb1).trans hb2⟩
set_option maxRecDepth 100000 in
set_option maxHeartbeats 400000 in
theorem rst_any (k a b : Int) (s : ByteArray) (hs : s.size ≤ 4611686018427387904) (w : World) : Calls Tryz.prog 90 #[V k a b s] w fun e w' => e = .returned (.bool (stoV k a b s)) ∧ G w w' := by
  have HI : Hid (∀ w, Calls Tryz.prog 98 #[V k a b s] w fun e w' => e = .returned (.bool (okV k a b s)) ∧ G w w') := rv_any k a b s hs
  unfold stoV
  generalize okV k a b s = q at HI ⊢
  go_enter Tryz.func90, Tryz.ntmps90
  go_wp2_with fail
  refine (HI.out _).mono ?_
  rintro e w1 ⟨rfl, hb1⟩
  have hc' := G.cells hb1 (b := w.heap.size) (f := fun o => [Value.int IntKind.i64 k, Value.int IntKind.i64 a, Value.int IntKind.i64 b, Value.string s][o]?) (by simp) (by simp)
  cases q
  · go_wp2
    go_ret
    exact ⟨ret_b (by simp), ((G.refl w).alloc _).trans hb1⟩
  · by_cases h1 : 1 ≤ k
    · go_wp2
      all_goals (go_ret; exact ⟨ret_b (by simp [*]), ((G.refl w).alloc _).trans hb1⟩)
    · have h' : decide (1 ≤ k) = false := by simp; omega
      go_wp2
      all_goals (go_ret; exact ⟨ret_b (by simp [*]), ((G.refl w).alloc _).trans hb1⟩)
/-- A byte of a name. -/
def chP (x : Int) : Prop := (97 ≤ x ∧ x ≤ 122) ∨ (48 ≤ x ∧ x ≤ 57)
def NameP (s : ByteArray) : Prop := 1 ≤ s.size ∧ s.size ≤ 8 ∧ 97 ≤ bt s 0 ∧ ∀ j, j < s.size → chP (bt s j)
noncomputable def nameB (s : ByteArray) : Bool := @decide (NameP s) (Classical.propDecidable _)
theorem nameB_yes {s : ByteArray} (h : NameP s) : Ending.returned (.bool true) = .returned (.bool (nameB s)) := by
  have : nameB s = true := @decide_eq_true _ (Classical.propDecidable _) h
  rw [this]
theorem nameB_no {s : ByteArray} (h : ¬ NameP s) : Ending.returned (.bool false) = .returned (.bool (nameB s)) := by
  have : nameB s = false := @decide_eq_false _ (Classical.propDecidable _) h
  rw [this]
theorem nameB_true {s : ByteArray} (h : nameB s = true) : NameP s := @of_decide_eq_true _ (Classical.propDecidable _) h
theorem nameB_iff (s : ByteArray) : nameB s = true ↔ NameP s := ⟨nameB_true, @decide_eq_true _ (Classical.propDecidable _)⟩
set_option maxRecDepth 100000 in
set_option maxHeartbeats 1000000 in
theorem rnm_any (s : ByteArray) (w : World) : Calls Tryz.prog 37 #[.string s] w fun e w' => e = .returned (.bool (nameB s)) ∧ w' = w := by
  have hb := get_bt s
  by_cases h : 1 ≤ s.size ∧ s.size ≤ 8 ∧ 97 ≤ bt s 0
  · obtain ⟨h1, h2, h3⟩ := h
    have h0 := bt_le s 0
    go_enter Tryz.func37, Tryz.ntmps37
    go_wp2
    go_loop [3] (fun i => ∃ n : Nat, n ≤ s.size ∧ i = .int .i64 n ∧ ∀ j, j < n → chP (bt s j)) (fun i => s.size - (RowKit.intOf i).toNat)
    case atStart => exact ⟨0, Nat.zero_le _, rfl, fun j hj => absurd hj (Nat.not_lt_zero j)⟩
    case round =>
      obtain ⟨n, hn, rfl, hv⟩ := hrel
      have HV : Hid (∀ j, j < n → chP (bt s j)) := hv
      clear hv
      by_cases hlt : n < s.size
      · have hI : (n : Int) < (s.size : Int) := by omega
        have x0 := bt_nonneg s n
        have x1 := bt_le s n
        by_cases hc : chP (bt s n)
        · have HC : Hid (chP (bt s n)) := hc
          rcases hc with ⟨c1, c2⟩ | ⟨c1, c2⟩
          all_goals
            go_wp2
            go_round
            case rel => exact ⟨n + 1, by omega, by go_num, fun j hj => by
              rcases Nat.lt_succ_iff_lt_or_eq.1 hj with h | h
              · exact HV.out j h
              · rw [h]; exact HC.out⟩
            case measure => simp [RowKit.intOf]; omega
        · have HC : Hid (¬ chP (bt s n)) := hc
          unfold chP at hc
          by_cases c1 : 97 ≤ bt s n
          · have c2 : ¬ bt s n ≤ 122 := by omega
            have c3 : 48 ≤ bt s n := by omega
            have c4 : ¬ bt s n ≤ 57 := by omega
            go_wp2
            go_ret
            exact ⟨nameB_no (fun h => HC.out (h.2.2.2 n hlt)), rfl⟩
          · by_cases c2 : 48 ≤ bt s n
            · have c3 : ¬ bt s n ≤ 57 := by omega
              go_wp2
              go_ret
              exact ⟨nameB_no (fun h => HC.out (h.2.2.2 n hlt)), rfl⟩
            · go_wp2
              go_ret
              exact ⟨nameB_no (fun h => HC.out (h.2.2.2 n hlt)), rfl⟩
      · have hI : ¬ (n : Int) < (s.size : Int) := by omega
        go_wp2
        go_ret
        exact ⟨nameB_yes ⟨h1, h2, h3, fun j hj => HV.out j (by omega)⟩, rfl⟩
  · have HN : Hid (¬ NameP s) := fun hh => h ⟨hh.1, hh.2.1, hh.2.2.1⟩
    by_cases h1 : 1 ≤ s.size
    · by_cases h2 : s.size ≤ 8
      · have h3 : ¬ 97 ≤ bt s 0 := fun h3 => h ⟨h1, h2, h3⟩
        clear h
        have x0 := bt_nonneg s 0
        go_enter Tryz.func37, Tryz.ntmps37
        go_wp2
        go_ret
        exact ⟨nameB_no HN.out, rfl⟩
      · clear h
        go_enter Tryz.func37, Tryz.ntmps37
        go_wp2
        go_ret
        exact ⟨nameB_no HN.out, rfl⟩
    · clear h
      go_enter Tryz.func37, Tryz.ntmps37
      go_wp2
      go_ret
      exact ⟨nameB_no HN.out, rfl⟩
set_option maxRecDepth 100000 in
set_option maxHeartbeats 400000 in
theorem isLetter_yes (n : Int) (h1 : 97 ≤ n) (h2 : n ≤ 122) (w : World) : Calls Tryz.prog 123 #[.int .u8 n] w fun e w' => e = .returned (.bool true) ∧ w' = w := by
  go_enter Tryz.func123, Tryz.ntmps123
  go_wp2
  go_ret
  exact ⟨rfl, rfl⟩
set_option maxRecDepth 100000 in
set_option maxHeartbeats 400000 in
theorem isLetter_no (n : Int) (h0 : 0 ≤ n) (h255 : n ≤ 255) (h : n < 97 ∨ 122 < n) (w : World) : Calls Tryz.prog 123 #[.int .u8 n] w fun e w' => e = .returned (.bool false) ∧ w' = w := by
  by_cases h1 : 97 ≤ n
  · have h2 : ¬ n ≤ 122 := by omega
    clear h
    go_enter Tryz.func123, Tryz.ntmps123
    go_wp2
    go_ret
    exact ⟨rfl, rfl⟩
  · clear h
    go_enter Tryz.func123, Tryz.ntmps123
    go_wp2
    go_ret
    exact ⟨rfl, rfl⟩
set_option maxRecDepth 100000 in
set_option maxHeartbeats 400000 in
theorem isDigit_yes (n : Int) (h1 : 48 ≤ n) (h2 : n ≤ 57) (w : World) : Calls Tryz.prog 124 #[.int .u8 n] w fun e w' => e = .returned (.bool true) ∧ w' = w := by
  go_enter Tryz.func124, Tryz.ntmps124
  go_wp2
  go_ret
  exact ⟨rfl, rfl⟩
set_option maxRecDepth 100000 in
set_option maxHeartbeats 400000 in
theorem isDigit_no (n : Int) (h0 : 0 ≤ n) (h255 : n ≤ 255) (h : n < 48 ∨ 57 < n) (w : World) : Calls Tryz.prog 124 #[.int .u8 n] w fun e w' => e = .returned (.bool false) ∧ w' = w := by
  by_cases h1 : 48 ≤ n
  · have h2 : ¬ n ≤ 57 := by omega
    clear h
    go_enter Tryz.func124, Tryz.ntmps124
    go_wp2
    go_ret
    exact ⟨rfl, rfl⟩
  · clear h
    go_enter Tryz.func124, Tryz.ntmps124
    go_wp2
    go_ret
    exact ⟨rfl, rfl⟩
set_option maxRecDepth 100000 in
set_option maxHeartbeats 1000000 in
theorem Name_any (s : ByteArray) (w : World) : Calls Tryz.prog 83 #[.string s] w fun e w' => e = .returned (.bool (nameB s)) ∧ w' = w := by
  have hb := get_bt s
  by_cases h : 1 ≤ s.size ∧ s.size ≤ 8
  · obtain ⟨h1, h2⟩ := h
    have h0 := bt_nonneg s 0
    have h00 := bt_le s 0
    by_cases h3 : 97 ≤ bt s 0 ∧ bt s 0 ≤ 122
    · have HL : Hid _ := isLetter_yes (bt s 0) h3.1 h3.2
      obtain ⟨h3, _⟩ := h3
      go_enter Tryz.func83, Tryz.ntmps83
      go_wp2_with fail
      refine (HL.out _).mono ?_
      rintro e w1 ⟨rfl, rfl⟩
      go_wp2
      go_loop [3, 20] (fun _ i => ∃ n : Nat, n ≤ s.size ∧ i = .int .i64 n ∧ ∀ j, j < n → chP (bt s j)) (fun _ i => s.size - (RowKit.intOf i).toNat)
      case atStart => exact ⟨0, Nat.zero_le _, rfl, fun j hj => absurd hj (Nat.not_lt_zero j)⟩
      case round =>
        obtain ⟨n, hn, rfl, hv⟩ := hrel
        have HV : Hid (∀ j, j < n → chP (bt s j)) := hv
        clear hv
        by_cases hlt : n < s.size
        · have hI : (n : Int) < (s.size : Int) := by omega
          have x0 := bt_nonneg s n
          have x1 := bt_le s n
          by_cases c1 : 97 ≤ bt s n ∧ bt s n ≤ 122
          · have HC : Hid (chP (bt s n)) := Or.inl c1
            have HX : Hid _ := isLetter_yes (bt s n) c1.1 c1.2
            clear c1
            go_wp2_with fail
            refine (HX.out _).mono ?_
            rintro e w1 ⟨rfl, rfl⟩
            go_wp2
            go_round
            case rel => exact ⟨n + 1, by omega, by go_num, fun j hj => by
              rcases Nat.lt_succ_iff_lt_or_eq.1 hj with h | h
              · exact HV.out j h
              · rw [h]; exact HC.out⟩
            case measure => simp [RowKit.intOf]; omega
          · have HX : Hid _ := isLetter_no (bt s n) x0 x1 (by omega)
            by_cases c2 : 48 ≤ bt s n ∧ bt s n ≤ 57
            · have HC : Hid (chP (bt s n)) := Or.inr c2
              have HY : Hid _ := isDigit_yes (bt s n) c2.1 c2.2
              clear c1 c2
              go_wp2_with fail
              refine (HX.out _).mono ?_
              rintro e w1 ⟨rfl, rfl⟩
              go_wp2_with fail
              refine (HY.out _).mono ?_
              rintro e w1 ⟨rfl, rfl⟩
              go_wp2
              go_round
              case rel => exact ⟨n + 1, by omega, by go_num, fun j hj => by
                rcases Nat.lt_succ_iff_lt_or_eq.1 hj with h | h
                · exact HV.out j h
                · rw [h]; exact HC.out⟩
              case measure => simp [RowKit.intOf]; omega
            · have HC : Hid (¬ chP (bt s n)) := fun h => h.elim c1 c2
              have HY : Hid _ := isDigit_no (bt s n) x0 x1 (by omega)
              clear c1 c2
              go_wp2_with fail
              refine (HX.out _).mono ?_
              rintro e w1 ⟨rfl, rfl⟩
              go_wp2_with fail
              refine (HY.out _).mono ?_
              rintro e w1 ⟨rfl, rfl⟩
              go_wp2
              go_ret
              exact ⟨nameB_no (fun h => HC.out (h.2.2.2 n hlt)), rfl⟩
        · have hI : ¬ (n : Int) < (s.size : Int) := by omega
          go_wp2
          go_ret
          exact ⟨nameB_yes ⟨h1, h2, h3, fun j hj => HV.out j (by omega)⟩, rfl⟩
    · have HL : Hid _ := isLetter_no (bt s 0) h0 h00 (by omega)
      have HN : Hid (¬ NameP s) := fun hh => by
        have := hh.2.2.2 0 (by omega)
        have := hh.2.2.1
        unfold chP at *
        omega
      clear h3
      go_enter Tryz.func83, Tryz.ntmps83
      go_wp2_with fail
      refine (HL.out _).mono ?_
      rintro e w1 ⟨rfl, rfl⟩
      go_wp2
      go_ret
      exact ⟨nameB_no HN.out, rfl⟩
  · have HN : Hid (¬ NameP s) := fun hh => h ⟨hh.1, hh.2.1⟩
    by_cases h1 : 1 ≤ s.size
    · have h2 : ¬ s.size ≤ 8 := fun h2 => h ⟨h1, h2⟩
      clear h
      go_enter Tryz.func83, Tryz.ntmps83
      go_wp2
      go_ret
      exact ⟨nameB_no HN.out, rfl⟩
    · clear h
      go_enter Tryz.func83, Tryz.ntmps83
      go_wp2
      go_ret
      exact ⟨nameB_no HN.out, rfl⟩
end Go.Proofs.YtifioikdhfhljaaGreatDoor
