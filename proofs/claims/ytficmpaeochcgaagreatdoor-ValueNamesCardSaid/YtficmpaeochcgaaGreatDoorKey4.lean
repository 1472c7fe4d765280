/- trellisref1.KeyOf: what is refused. -/
import Derived.Test.YtficmpaeochcgaaGreatDoorKey3
import Derived.Test.YtficmpaeochcgaaGreatDoorEnc9
namespace Go.Proofs.YtficmpaeochcgaaGreatDoor
open Go.RowKit Go.Shelf Go.PlainAid Go.Lib

theorem ret_rkey (tmps : Array Value) (W : World) (rb : Nat) (cs : List Value) (c : Int) (hp : tmps.getD 8 undef = .pointer (some ⟨rb, 0, none⟩)) (hc : tmps.getD 9 undef = .int .i64 c) (hr : W.rangeAt rb 0 cs) (hl : cs.length = 24) :
    (results Tryz.f74 tmps).run Tryz.prog W = .ok (.tuple #[.agg cs.toArray, .int .i64 c]) W := by
  rw [results_cell_tmp Tryz.results74, hp, hc]
  have h := run_loadVar_mid (P := Tryz.prog) W rb 0 92 cs _ hr Tryz.underlying92 rfl (by rw [hl]; kernel_rfl)
  simp only [asAddr, Sem.run_pure, Result.andThen_ok, h]
theorem rkey_two (w : World) (k a b : Int) (s : ByteArray) : let w1 := (w.alloc (.cells #[I k, I a, I b, .string s] 31)).alloc (.cells #[.int .u8 0, .int .u8 0, .int .u8 0, .int .u8 0, .int .u8 0, .int .u8 0, .int .u8 0, .int .u8 0, .int .u8 0, .int .u8 0, .int .u8 0, .int .u8 0, .int .u8 0, .int .u8 0, .int .u8 0, .int .u8 0, .int .u8 0, .int .u8 0, .int .u8 0, .int .u8 0, .int .u8 0, .int .u8 0, .int .u8 0, .int .u8 0] 92)
    G w w1 ∧ w1.there (w.heap.size + 1) 0 24 ∧ w1.rangeAt (w.heap.size + 1) 0 Z24 ∧ (∀ o, w1.cell? { block := w.heap.size, off := o } = [I k, I a, I b, .string s][o]?) ∧ w1.heap.size = w.heap.size + 2 := by
  intro w1
  have hr : w1.rangeAt (w.heap.size + 1) 0 Z24 := fun j u hj => by
    have e : w1.cell? ⟨w.heap.size + 1, j, none⟩ = (#[.int .u8 0, .int .u8 0, .int .u8 0, .int .u8 0, .int .u8 0, .int .u8 0, .int .u8 0, .int .u8 0, .int .u8 0, .int .u8 0, .int .u8 0, .int .u8 0, .int .u8 0, .int .u8 0, .int .u8 0, .int .u8 0, .int .u8 0, .int .u8 0, .int .u8 0, .int .u8 0, .int .u8 0, .int .u8 0, .int .u8 0, .int .u8 0] : Array Value)[j]? := by
      show (World.alloc _ _).cell? _ = _
      simp
    rw [Nat.zero_add, e]
    simpa [Z24] using hj
  refine ⟨((G.refl w).alloc _).alloc _, fun j hj => ⟨?_, ?_⟩, hr, fun o => by simp [w1], by simp [w1]⟩
  · obtain ⟨u, hu⟩ : ∃ u, Z24[j]? = some u := ⟨_, List.getElem?_eq_getElem hj⟩
    rw [hr j u hu]; rfl
  · simp [w1]
theorem rkey_alloc {w w3 : World} (hG : G w w3) (ht : w3.there (w.heap.size + 1) 0 24) (hsz : w.heap.size + 2 ≤ w3.heap.size) : KW w w3.heap.size (fun _ => 0) (w3.alloc (.cells #[.int .u8 0, .int .u8 0, .int .u8 0, .int .u8 0, .int .u8 0, .int .u8 0, .int .u8 0, .int .u8 0, .int .u8 0, .int .u8 0, .int .u8 0, .int .u8 0, .int .u8 0, .int .u8 0, .int .u8 0, .int .u8 0, .int .u8 0, .int .u8 0, .int .u8 0, .int .u8 0, .int .u8 0, .int .u8 0, .int .u8 0, .int .u8 0] 92)) := by
  refine ⟨hG.alloc _, there_G ((G.refl w3).alloc _) (by omega) ht, fun j hj => ?_, fun j hj => by simp, by omega, by simp⟩
  have e : (w3.alloc (.cells #[.int .u8 0, .int .u8 0, .int .u8 0, .int .u8 0, .int .u8 0, .int .u8 0, .int .u8 0, .int .u8 0, .int .u8 0, .int .u8 0, .int .u8 0, .int .u8 0, .int .u8 0, .int .u8 0, .int .u8 0, .int .u8 0, .int .u8 0, .int .u8 0, .int .u8 0, .int .u8 0, .int .u8 0, .int .u8 0, .int .u8 0, .int .u8 0] 92)).cell? ⟨w3.heap.size, j, none⟩ = (#[.int .u8 0, .int .u8 0, .int .u8 0, .int .u8 0, .int .u8 0, .int .u8 0, .int .u8 0, .int .u8 0, .int .u8 0, .int .u8 0, .int .u8 0, .int .u8 0, .int .u8 0, .int .u8 0, .int .u8 0, .int .u8 0, .int .u8 0, .int .u8 0, .int .u8 0, .int .u8 0, .int .u8 0, .int .u8 0, .int .u8 0, .int .u8 0] : Array Value)[j]? := by simp
  rw [e, z24_at j hj]
theorem rkey_start (w : World) (k a b : Int) (s : ByteArray) : let w1 := ((w.alloc (.cells #[I k, I a, I b, .string s] 31)).alloc (.cells #[.int .u8 0, .int .u8 0, .int .u8 0, .int .u8 0, .int .u8 0, .int .u8 0, .int .u8 0, .int .u8 0, .int .u8 0, .int .u8 0, .int .u8 0, .int .u8 0, .int .u8 0, .int .u8 0, .int .u8 0, .int .u8 0, .int .u8 0, .int .u8 0, .int .u8 0, .int .u8 0, .int .u8 0, .int .u8 0, .int .u8 0, .int .u8 0] 92)).alloc (.cells #[.int .u8 0, .int .u8 0, .int .u8 0, .int .u8 0, .int .u8 0, .int .u8 0, .int .u8 0, .int .u8 0, .int .u8 0, .int .u8 0, .int .u8 0, .int .u8 0, .int .u8 0, .int .u8 0, .int .u8 0, .int .u8 0, .int .u8 0, .int .u8 0, .int .u8 0, .int .u8 0, .int .u8 0, .int .u8 0, .int .u8 0, .int .u8 0] 92)
    KW w (w.heap.size + 2) (fun _ => 0) w1 ∧ (∀ o, w1.cell? { block := w.heap.size, off := o } = [I k, I a, I b, .string s][o]?) ∧ w1.heap.size = w.heap.size + 3 := by
  obtain ⟨h1, h2, _, h4, h5⟩ := rkey_two w k a b s
  revert h1 h2 h4 h5
  generalize (w.alloc (.cells #[I k, I a, I b, .string s] 31)).alloc (.cells #[.int .u8 0, .int .u8 0, .int .u8 0, .int .u8 0, .int .u8 0, .int .u8 0, .int .u8 0, .int .u8 0, .int .u8 0, .int .u8 0, .int .u8 0, .int .u8 0, .int .u8 0, .int .u8 0, .int .u8 0, .int .u8 0, .int .u8 0, .int .u8 0, .int .u8 0, .int .u8 0, .int .u8 0, .int .u8 0, .int .u8 0, .int .u8 0] 92) = w0
  intro h1 h2 h4 h5
  have h := rkey_alloc h1 h2 (by omega)
  rw [h5] at h
  exact ⟨h, G.cells ((G.refl w0).alloc _) h4 (by omega), by simp [h5]⟩
theorem z24_cells : cellsOf (fun _ => 0) = Z24 := rfl
set_option maxRecDepth 100000 in
set_option maxHeartbeats 16000000 in
theorem rko_n1 (l m : ByteArray) (k a b : Int) (s : ByteArray) (id : Int) (h1 : nameB l = false) (h2 : NameP m) (w : World) : Calls Tryz.prog 74 #[.string l, .string m, V k a b s, .int .i64 id] w fun e w' => e = .returned (.tuple #[.agg Z24.toArray, .int .i64 73]) ∧ G w w' := by
  have HN : Hid (∀ w, Calls Tryz.prog 70 #[.string l] w fun e w' => e = .returned (.tuple #[.int .i64 0, .int .i64 73]) ∧ w' = w) := rPk_no l h1
  have HM : Hid (∀ w, Calls Tryz.prog 70 #[.string m] w fun e w' => e = .returned (.tuple #[.int .i64 (packK m 8), .int .i64 0]) ∧ w' = w) := rPk_yes m h2
  generalize packK m 8 = pm at HM
  clear h1 h2
  have hst := rkey_start w k a b s
  go_enter Tryz.func74, Tryz.ntmps74
  go_wp2_with fail
  generalize ((w.alloc (.cells #[I k, I a, I b, .string s] 31)).alloc (.cells #[.int .u8 0, .int .u8 0, .int .u8 0, .int .u8 0, .int .u8 0, .int .u8 0, .int .u8 0, .int .u8 0, .int .u8 0, .int .u8 0, .int .u8 0, .int .u8 0, .int .u8 0, .int .u8 0, .int .u8 0, .int .u8 0, .int .u8 0, .int .u8 0, .int .u8 0, .int .u8 0, .int .u8 0, .int .u8 0, .int .u8 0, .int .u8 0] 92)).alloc (.cells #[.int .u8 0, .int .u8 0, .int .u8 0, .int .u8 0, .int .u8 0, .int .u8 0, .int .u8 0, .int .u8 0, .int .u8 0, .int .u8 0, .int .u8 0, .int .u8 0, .int .u8 0, .int .u8 0, .int .u8 0, .int .u8 0, .int .u8 0, .int .u8 0, .int .u8 0, .int .u8 0, .int .u8 0, .int .u8 0, .int .u8 0, .int .u8 0] 92) = w1 at hst ⊢
  obtain ⟨hk, hbx, hsz⟩ := hst
  have HK : Hid (KW w (w.heap.size + 2) (fun _ => 0) w1) := hk
  clear hk
  refine (HN.out _).mono ?_
  rintro e w2 ⟨rfl, hw⟩
  rw [hw]
  clear hw
  go_wp2_with fail
  refine (HM.out _).mono ?_
  rintro e w2 ⟨rfl, hw⟩
  rw [hw]
  clear hw
  go_wp2_with (first | refine wpList_load_mid rfl 92 _ rfl (w.heap.size + 2) 0 rfl Z24 _ HK.out.range Tryz.underlying92 rfl (by rw [z24_len]; kernel_rfl) ?_ | refine wpList_store_mid rfl 92 _ _ rfl (w.heap.size + 1) 0 Z24.toArray rfl rfl HK.out.rb (by kernel_rfl) z24_one ?_)
  refine bodyPost_ret_by (v := .tuple #[.agg Z24.toArray, .int .i64 73]) (ret_rkey _ _ (w.heap.size + 1) Z24 73 rfl rfl (World.rangeAt_setCells_same _ _ _ _ HK.out.rb) z24_len) rfl ⟨rfl, G.setCells _ HK.out.gg (by omega)⟩
set_option maxRecDepth 100000 in
set_option maxHeartbeats 16000000 in
theorem rko_n2 (l m : ByteArray) (k a b : Int) (s : ByteArray) (id : Int) (h1 : NameP l) (h2 : nameB m = false) (w : World) : Calls Tryz.prog 74 #[.string l, .string m, V k a b s, .int .i64 id] w fun e w' => e = .returned (.tuple #[.agg Z24.toArray, .int .i64 73]) ∧ G w w' := by
  have HN : Hid (∀ w, Calls Tryz.prog 70 #[.string l] w fun e w' => e = .returned (.tuple #[.int .i64 (packK l 8), .int .i64 0]) ∧ w' = w) := rPk_yes l h1
  generalize packK l 8 = pl at HN
  have HM : Hid (∀ w, Calls Tryz.prog 70 #[.string m] w fun e w' => e = .returned (.tuple #[.int .i64 0, .int .i64 73]) ∧ w' = w) := rPk_no m h2
  clear h1 h2
  have hst := rkey_start w k a b s
  go_enter Tryz.func74, Tryz.ntmps74
  go_wp2_with fail
  generalize ((w.alloc (.cells #[I k, I a, I b, .string s] 31)).alloc (.cells #[.int .u8 0, .int .u8 0, .int .u8 0, .int .u8 0, .int .u8 0, .int .u8 0, .int .u8 0, .int .u8 0, .int .u8 0, .int .u8 0, .int .u8 0, .int .u8 0, .int .u8 0, .int .u8 0, .int .u8 0, .int .u8 0, .int .u8 0, .int .u8 0, .int .u8 0, .int .u8 0, .int .u8 0, .int .u8 0, .int .u8 0, .int .u8 0] 92)).alloc (.cells #[.int .u8 0, .int .u8 0, .int .u8 0, .int .u8 0, .int .u8 0, .int .u8 0, .int .u8 0, .int .u8 0, .int .u8 0, .int .u8 0, .int .u8 0, .int .u8 0, .int .u8 0, .int .u8 0, .int .u8 0, .int .u8 0, .int .u8 0, .int .u8 0, .int .u8 0, .int .u8 0, .int .u8 0, .int .u8 0, .int .u8 0, .int .u8 0] 92) = w1 at hst ⊢
  obtain ⟨hk, hbx, hsz⟩ := hst
  have HK : Hid (KW w (w.heap.size + 2) (fun _ => 0) w1) := hk
  clear hk
  refine (HN.out _).mono ?_
  rintro e w2 ⟨rfl, hw⟩
  rw [hw]
  clear hw
  go_wp2_with fail
  refine (HM.out _).mono ?_
  rintro e w2 ⟨rfl, hw⟩
  rw [hw]
  clear hw
  go_wp2_with (first | refine wpList_load_mid rfl 92 _ rfl (w.heap.size + 2) 0 rfl Z24 _ HK.out.range Tryz.underlying92 rfl (by rw [z24_len]; kernel_rfl) ?_ | refine wpList_store_mid rfl 92 _ _ rfl (w.heap.size + 1) 0 Z24.toArray rfl rfl HK.out.rb (by kernel_rfl) z24_one ?_)
  refine bodyPost_ret_by (v := .tuple #[.agg Z24.toArray, .int .i64 73]) (ret_rkey _ _ (w.heap.size + 1) Z24 73 rfl rfl (World.rangeAt_setCells_same _ _ _ _ HK.out.rb) z24_len) rfl ⟨rfl, G.setCells _ HK.out.gg (by omega)⟩
set_option maxRecDepth 100000 in
set_option maxHeartbeats 16000000 in
theorem rko_n3 (l m : ByteArray) (k a b : Int) (s : ByteArray) (id : Int) (h1 : nameB l = false) (h2 : nameB m = false) (w : World) : Calls Tryz.prog 74 #[.string l, .string m, V k a b s, .int .i64 id] w fun e w' => e = .returned (.tuple #[.agg Z24.toArray, .int .i64 73]) ∧ G w w' := by
  have HN : Hid (∀ w, Calls Tryz.prog 70 #[.string l] w fun e w' => e = .returned (.tuple #[.int .i64 0, .int .i64 73]) ∧ w' = w) := rPk_no l h1
  have HM : Hid (∀ w, Calls Tryz.prog 70 #[.string m] w fun e w' => e = .returned (.tuple #[.int .i64 0, .int .i64 73]) ∧ w' = w) := rPk_no m h2
  clear h1 h2
  have hst := rkey_start w k a b s
  go_enter Tryz.func74, Tryz.ntmps74
  go_wp2_with fail
  generalize ((w.alloc (.cells #[I k, I a, I b, .string s] 31)).alloc (.cells #[.int .u8 0, .int .u8 0, .int .u8 0, .int .u8 0, .int .u8 0, .int .u8 0, .int .u8 0, .int .u8 0, .int .u8 0, .int .u8 0, .int .u8 0, .int .u8 0, .int .u8 0, .int .u8 0, .int .u8 0, .int .u8 0, .int .u8 0, .int .u8 0, .int .u8 0, .int .u8 0, .int .u8 0, .int .u8 0, .int .u8 0, .int .u8 0] 92)).alloc (.cells #[.int .u8 0, .int .u8 0, .int .u8 0, .int .u8 0, .int .u8 0, .int .u8 0, .int .u8 0, .int .u8 0, .int .u8 0, .int .u8 0, .int .u8 0, .int .u8 0, .int .u8 0, .int .u8 0, .int .u8 0, .int .u8 0, .int .u8 0, .int .u8 0, .int .u8 0, .int .u8 0, .int .u8 0, .int .u8 0, .int .u8 0, .int .u8 0] 92) = w1 at hst ⊢
  obtain ⟨hk, hbx, hsz⟩ := hst
  have HK : Hid (KW w (w.heap.size + 2) (fun _ => 0) w1) := hk
  clear hk
  refine (HN.out _).mono ?_
  rintro e w2 ⟨rfl, hw⟩
  rw [hw]
  clear hw
  go_wp2_with fail
  refine (HM.out _).mono ?_
  rintro e w2 ⟨rfl, hw⟩
  rw [hw]
  clear hw
  go_wp2_with (first | refine wpList_load_mid rfl 92 _ rfl (w.heap.size + 2) 0 rfl Z24 _ HK.out.range Tryz.underlying92 rfl (by rw [z24_len]; kernel_rfl) ?_ | refine wpList_store_mid rfl 92 _ _ rfl (w.heap.size + 1) 0 Z24.toArray rfl rfl HK.out.rb (by kernel_rfl) z24_one ?_)
  refine bodyPost_ret_by (v := .tuple #[.agg Z24.toArray, .int .i64 73]) (ret_rkey _ _ (w.heap.size + 1) Z24 73 rfl rfl (World.rangeAt_setCells_same _ _ _ _ HK.out.rb) z24_len) rfl ⟨rfl, G.setCells _ HK.out.gg (by omega)⟩
set_option maxRecDepth 100000 in
set_option maxHeartbeats 16000000 in
theorem rko_val (l m : ByteArray) (k a b : Int) (s : ByteArray) (id : Int) (h1 : NameP l) (h2 : NameP m) (h3 : okV k a b s = false) (hs : s.size ≤ 4611686018427387904) (w : World) : Calls Tryz.prog 74 #[.string l, .string m, V k a b s, .int .i64 id] w fun e w' => e = .returned (.tuple #[.agg Z24.toArray, .int .i64 16]) ∧ G w w' := by
  have HN : Hid (∀ w, Calls Tryz.prog 70 #[.string l] w fun e w' => e = .returned (.tuple #[.int .i64 (packK l 8), .int .i64 0]) ∧ w' = w) := rPk_yes l h1
  generalize packK l 8 = pl at HN
  have HM : Hid (∀ w, Calls Tryz.prog 70 #[.string m] w fun e w' => e = .returned (.tuple #[.int .i64 (packK m 8), .int .i64 0]) ∧ w' = w) := rPk_yes m h2
  generalize packK m 8 = pm at HM
  clear h1 h2
  have HV : Hid (∀ w, Calls Tryz.prog 29 #[V k a b s] w fun e w' => e = .returned (.bool (okV k a b s)) ∧ G w w') := rv_any k a b s hs
  rw [h3] at HV
  have hst := rkey_start w k a b s
  go_enter Tryz.func74, Tryz.ntmps74
  go_wp2_with fail
  generalize ((w.alloc (.cells #[I k, I a, I b, .string s] 31)).alloc (.cells #[.int .u8 0, .int .u8 0, .int .u8 0, .int .u8 0, .int .u8 0, .int .u8 0, .int .u8 0, .int .u8 0, .int .u8 0, .int .u8 0, .int .u8 0, .int .u8 0, .int .u8 0, .int .u8 0, .int .u8 0, .int .u8 0, .int .u8 0, .int .u8 0, .int .u8 0, .int .u8 0, .int .u8 0, .int .u8 0, .int .u8 0, .int .u8 0] 92)).alloc (.cells #[.int .u8 0, .int .u8 0, .int .u8 0, .int .u8 0, .int .u8 0, .int .u8 0, .int .u8 0, .int .u8 0, .int .u8 0, .int .u8 0, .int .u8 0, .int .u8 0, .int .u8 0, .int .u8 0, .int .u8 0, .int .u8 0, .int .u8 0, .int .u8 0, .int .u8 0, .int .u8 0, .int .u8 0, .int .u8 0, .int .u8 0, .int .u8 0] 92) = w1 at hst ⊢
  obtain ⟨hk, hbx, hsz⟩ := hst
  have HK : Hid (KW w (w.heap.size + 2) (fun _ => 0) w1) := hk
  clear hk
  refine (HN.out _).mono ?_
  rintro e w2 ⟨rfl, hw⟩
  rw [hw]
  clear hw
  go_wp2_with fail
  refine (HM.out _).mono ?_
  rintro e w2 ⟨rfl, hw⟩
  rw [hw]
  clear hw
  go_wp2_with fail
  refine (HV.out _).mono ?_
  rintro e w2 ⟨rfl, hb⟩
  replace HK : Hid (KW w (w.heap.size + 2) (fun _ => 0) w2) := KW.keep HK.out hb
  replace hbx : ∀ o, w2.cell? { block := w.heap.size, off := o } = [I k, I a, I b, .string s][o]? := G.cells hb hbx (by omega)
  replace hsz : w.heap.size + 3 ≤ w2.heap.size := Nat.le_trans (by omega) hb.size
  clear hb
  go_wp2_with (first | refine wpList_load_mid rfl 92 _ rfl (w.heap.size + 2) 0 rfl Z24 _ HK.out.range Tryz.underlying92 rfl (by rw [z24_len]; kernel_rfl) ?_ | refine wpList_store_mid rfl 92 _ _ rfl (w.heap.size + 1) 0 Z24.toArray rfl rfl HK.out.rb (by kernel_rfl) z24_one ?_)
  refine bodyPost_ret_by (v := .tuple #[.agg Z24.toArray, .int .i64 16]) (ret_rkey _ _ (w.heap.size + 1) Z24 16 rfl rfl (World.rangeAt_setCells_same _ _ _ _ HK.out.rb) z24_len) rfl ⟨rfl, G.setCells _ HK.out.gg (by omega)⟩
set_option maxRecDepth 100000 in
set_option maxHeartbeats 16000000 in
theorem rko_kind (l m : ByteArray) (k a b : Int) (s : ByteArray) (id : Int) (h1 : NameP l) (h2 : NameP m) (h3 : okV k a b s = true) (h4 : stoV k a b s = false) (hs : s.size ≤ 4611686018427387904) (w : World) : Calls Tryz.prog 74 #[.string l, .string m, V k a b s, .int .i64 id] w fun e w' => e = .returned (.tuple #[.agg Z24.toArray, .int .i64 10]) ∧ G w w' := by
  have HN : Hid (∀ w, Calls Tryz.prog 70 #[.string l] w fun e w' => e = .returned (.tuple #[.int .i64 (packK l 8), .int .i64 0]) ∧ w' = w) := rPk_yes l h1
  generalize packK l 8 = pl at HN
  have HM : Hid (∀ w, Calls Tryz.prog 70 #[.string m] w fun e w' => e = .returned (.tuple #[.int .i64 (packK m 8), .int .i64 0]) ∧ w' = w) := rPk_yes m h2
  generalize packK m 8 = pm at HM
  clear h1 h2
  have HV : Hid (∀ w, Calls Tryz.prog 29 #[V k a b s] w fun e w' => e = .returned (.bool (okV k a b s)) ∧ G w w') := rv_any k a b s hs
  rw [h3] at HV
  have HS : Hid (∀ w, Calls Tryz.prog 35 #[V k a b s] w fun e w' => e = .returned (.bool (stoV k a b s)) ∧ G w w') := rst_any k a b s hs
  rw [h4] at HS
  have hst := rkey_start w k a b s
  go_enter Tryz.func74, Tryz.ntmps74
  go_wp2_with fail
  generalize ((w.alloc (.cells #[I k, I a, I b, .string s] 31)).alloc (.cells #[.int .u8 0, .int .u8 0, .int .u8 0, .int .u8 0, .int .u8 0, .int .u8 0, .int .u8 0, .int .u8 0, .int .u8 0, .int .u8 0, .int .u8 0, .int .u8 0, .int .u8 0, .int .u8 0, .int .u8 0, .int .u8 0, .int .u8 0, .int .u8 0, .int .u8 0, .int .u8 0, .int .u8 0, .int .u8 0, .int .u8 0, .int .u8 0] 92)).alloc (.cells #[.int .u8 0, .int .u8 0, .int .u8 0, .int .u8 0, .int .u8 0, .int .u8 0, .int .u8 0, .int .u8 0, .int .u8 0, .int .u8 0, .int .u8 0, .int .u8 0, .int .u8 0, .int .u8 0, .int .u8 0, .int .u8 0, .int .u8 0, .int .u8 0, .int .u8 0, .int .u8 0, .int .u8 0, .int .u8 0, .int .u8 0, .int .u8 0] 92) = w1 at hst ⊢
  obtain ⟨hk, hbx, hsz⟩ := hst
  have HK : Hid (KW w (w.heap.size + 2) (fun _ => 0) w1) := hk
  clear hk
  refine (HN.out _).mono ?_
  rintro e w2 ⟨rfl, hw⟩
  rw [hw]
  clear hw
  go_wp2_with fail
  refine (HM.out _).mono ?_
  rintro e w2 ⟨rfl, hw⟩
  rw [hw]
  clear hw
  go_wp2_with fail
  refine (HV.out _).mono ?_
  rintro e w2 ⟨rfl, hb⟩
  replace HK : Hid (KW w (w.heap.size + 2) (fun _ => 0) w2) := KW.keep HK.out hb
  replace hbx : ∀ o, w2.cell? { block := w.heap.size, off := o } = [I k, I a, I b, .string s][o]? := G.cells hb hbx (by omega)
  replace hsz : w.heap.size + 3 ≤ w2.heap.size := Nat.le_trans (by omega) hb.size
  clear hb
  go_wp2_with fail
  refine (HS.out _).mono ?_
  rintro e w3 ⟨rfl, hb⟩
  replace HK : Hid (KW w (w.heap.size + 2) (fun _ => 0) w3) := KW.keep HK.out hb
  replace hbx : ∀ o, w3.cell? { block := w.heap.size, off := o } = [I k, I a, I b, .string s][o]? := G.cells hb hbx (by omega)
  replace hsz : w.heap.size + 3 ≤ w3.heap.size := Nat.le_trans (by omega) hb.size
  clear hb
  go_wp2_with (first | refine wpList_load_mid rfl 92 _ rfl (w.heap.size + 2) 0 rfl Z24 _ HK.out.range Tryz.underlying92 rfl (by rw [z24_len]; kernel_rfl) ?_ | refine wpList_store_mid rfl 92 _ _ rfl (w.heap.size + 1) 0 Z24.toArray rfl rfl HK.out.rb (by kernel_rfl) z24_one ?_)
  refine bodyPost_ret_by (v := .tuple #[.agg Z24.toArray, .int .i64 10]) (ret_rkey _ _ (w.heap.size + 1) Z24 10 rfl rfl (World.rangeAt_setCells_same _ _ _ _ HK.out.rb) z24_len) rfl ⟨rfl, G.setCells _ HK.out.gg (by omega)⟩
set_option maxRecDepth 100000 in
set_option maxHeartbeats 16000000 in
theorem rko_lo (l m : ByteArray) (k a b : Int) (s : ByteArray) (id : Int) (h1 : NameP l) (h2 : NameP m) (h3 : okV k a b s = true) (h4 : stoV k a b s = true) (h5 : id < 1) (hs : s.size ≤ 4611686018427387904) (w : World) : Calls Tryz.prog 74 #[.string l, .string m, V k a b s, .int .i64 id] w fun e w' => e = .returned (.tuple #[.agg Z24.toArray, .int .i64 1]) ∧ G w w' := by
  have HN : Hid (∀ w, Calls Tryz.prog 70 #[.string l] w fun e w' => e = .returned (.tuple #[.int .i64 (packK l 8), .int .i64 0]) ∧ w' = w) := rPk_yes l h1
  generalize packK l 8 = pl at HN
  have HM : Hid (∀ w, Calls Tryz.prog 70 #[.string m] w fun e w' => e = .returned (.tuple #[.int .i64 (packK m 8), .int .i64 0]) ∧ w' = w) := rPk_yes m h2
  generalize packK m 8 = pm at HM
  clear h1 h2
  have HV : Hid (∀ w, Calls Tryz.prog 29 #[V k a b s] w fun e w' => e = .returned (.bool (okV k a b s)) ∧ G w w') := rv_any k a b s hs
  rw [h3] at HV
  have HS : Hid (∀ w, Calls Tryz.prog 35 #[V k a b s] w fun e w' => e = .returned (.bool (stoV k a b s)) ∧ G w w') := rst_any k a b s hs
  rw [h4] at HS
  have hst := rkey_start w k a b s
  go_enter Tryz.func74, Tryz.ntmps74
  go_wp2_with fail
  generalize ((w.alloc (.cells #[I k, I a, I b, .string s] 31)).alloc (.cells #[.int .u8 0, .int .u8 0, .int .u8 0, .int .u8 0, .int .u8 0, .int .u8 0, .int .u8 0, .int .u8 0, .int .u8 0, .int .u8 0, .int .u8 0, .int .u8 0, .int .u8 0, .int .u8 0, .int .u8 0, .int .u8 0, .int .u8 0, .int .u8 0, .int .u8 0, .int .u8 0, .int .u8 0, .int .u8 0, .int .u8 0, .int .u8 0] 92)).alloc (.cells #[.int .u8 0, .int .u8 0, .int .u8 0, .int .u8 0, .int .u8 0, .int .u8 0, .int .u8 0, .int .u8 0, .int .u8 0, .int .u8 0, .int .u8 0, .int .u8 0, .int .u8 0, .int .u8 0, .int .u8 0, .int .u8 0, .int .u8 0, .int .u8 0, .int .u8 0, .int .u8 0, .int .u8 0, .int .u8 0, .int .u8 0, .int .u8 0] 92) = w1 at hst ⊢
  obtain ⟨hk, hbx, hsz⟩ := hst
  have HK : Hid (KW w (w.heap.size + 2) (fun _ => 0) w1) := hk
  clear hk
  refine (HN.out _).mono ?_
  rintro e w2 ⟨rfl, hw⟩
  rw [hw]
  clear hw
  go_wp2_with fail
  refine (HM.out _).mono ?_
  rintro e w2 ⟨rfl, hw⟩
  rw [hw]
  clear hw
  go_wp2_with fail
  refine (HV.out _).mono ?_
  rintro e w2 ⟨rfl, hb⟩
  replace HK : Hid (KW w (w.heap.size + 2) (fun _ => 0) w2) := KW.keep HK.out hb
  replace hbx : ∀ o, w2.cell? { block := w.heap.size, off := o } = [I k, I a, I b, .string s][o]? := G.cells hb hbx (by omega)
  replace hsz : w.heap.size + 3 ≤ w2.heap.size := Nat.le_trans (by omega) hb.size
  clear hb
  go_wp2_with fail
  refine (HS.out _).mono ?_
  rintro e w3 ⟨rfl, hb⟩
  replace HK : Hid (KW w (w.heap.size + 2) (fun _ => 0) w3) := KW.keep HK.out hb
  replace hbx : ∀ o, w3.cell? { block := w.heap.size, off := o } = [I k, I a, I b, .string s][o]? := G.cells hb hbx (by omega)
  replace hsz : w.heap.size + 3 ≤ w3.heap.size := Nat.le_trans (by omega) hb.size
  clear hb
  go_wp2_with (first | refine wpList_load_mid rfl 92 _ rfl (w.heap.size + 2) 0 rfl Z24 _ HK.out.range Tryz.underlying92 rfl (by rw [z24_len]; kernel_rfl) ?_ | refine wpList_store_mid rfl 92 _ _ rfl (w.heap.size + 1) 0 Z24.toArray rfl rfl HK.out.rb (by kernel_rfl) z24_one ?_)
  refine bodyPost_ret_by (v := .tuple #[.agg Z24.toArray, .int .i64 1]) (ret_rkey _ _ (w.heap.size + 1) Z24 1 rfl rfl (World.rangeAt_setCells_same _ _ _ _ HK.out.rb) z24_len) rfl ⟨rfl, G.setCells _ HK.out.gg (by omega)⟩
set_option maxRecDepth 100000 in
set_option maxHeartbeats 16000000 in
theorem rko_hi (l m : ByteArray) (k a b : Int) (s : ByteArray) (id : Int) (h1 : NameP l) (h2 : NameP m) (h3 : okV k a b s = true) (h4 : stoV k a b s = true) (h5 : 4294967295 < id) (hs : s.size ≤ 4611686018427387904) (w : World) : Calls Tryz.prog 74 #[.string l, .string m, V k a b s, .int .i64 id] w fun e w' => e = .returned (.tuple #[.agg Z24.toArray, .int .i64 1]) ∧ G w w' := by
  have HN : Hid (∀ w, Calls Tryz.prog 70 #[.string l] w fun e w' => e = .returned (.tuple #[.int .i64 (packK l 8), .int .i64 0]) ∧ w' = w) := rPk_yes l h1
  generalize packK l 8 = pl at HN
  have HM : Hid (∀ w, Calls Tryz.prog 70 #[.string m] w fun e w' => e = .returned (.tuple #[.int .i64 (packK m 8), .int .i64 0]) ∧ w' = w) := rPk_yes m h2
  generalize packK m 8 = pm at HM
  clear h1 h2
  have HV : Hid (∀ w, Calls Tryz.prog 29 #[V k a b s] w fun e w' => e = .returned (.bool (okV k a b s)) ∧ G w w') := rv_any k a b s hs
  rw [h3] at HV
  have HS : Hid (∀ w, Calls Tryz.prog 35 #[V k a b s] w fun e w' => e = .returned (.bool (stoV k a b s)) ∧ G w w') := rst_any k a b s hs
  rw [h4] at HS
  have hst := rkey_start w k a b s
  go_enter Tryz.func74, Tryz.ntmps74
  go_wp2_with fail
  generalize ((w.alloc (.cells #[I k, I a, I b, .string s] 31)).alloc (.cells #[.int .u8 0, .int .u8 0, .int .u8 0, .int .u8 0, .int .u8 0, .int .u8 0, .int .u8 0, .int .u8 0, .int .u8 0, .int .u8 0, .int .u8 0, .int .u8 0, .int .u8 0, .int .u8 0, .int .u8 0, .int .u8 0, .int .u8 0, .int .u8 0, .int .u8 0, .int .u8 0, .int .u8 0, .int .u8 0, .int .u8 0, .int .u8 0] 92)).alloc (.cells #[.int .u8 0, .int .u8 0, .int .u8 0, .int .u8 0, .int .u8 0, .int .u8 0, .int .u8 0, .int .u8 0, .int .u8 0, .int .u8 0, .int .u8 0, .int .u8 0, .int .u8 0, .int .u8 0, .int .u8 0, .int .u8 0, .int .u8 0, .int .u8 0, .int .u8 0, .int .u8 0, .int .u8 0, .int .u8 0, .int .u8 0, .int .u8 0] 92) = w1 at hst ⊢
  obtain ⟨hk, hbx, hsz⟩ := hst
  have HK : Hid (KW w (w.heap.size + 2) (fun _ => 0) w1) := hk
  clear hk
  refine (HN.out _).mono ?_
  rintro e w2 ⟨rfl, hw⟩
  rw [hw]
  clear hw
  go_wp2_with fail
  refine (HM.out _).mono ?_
  rintro e w2 ⟨rfl, hw⟩
  rw [hw]
  clear hw
  go_wp2_with fail
  refine (HV.out _).mono ?_
  rintro e w2 ⟨rfl, hb⟩
  replace HK : Hid (KW w (w.heap.size + 2) (fun _ => 0) w2) := KW.keep HK.out hb
  replace hbx : ∀ o, w2.cell? { block := w.heap.size, off := o } = [I k, I a, I b, .string s][o]? := G.cells hb hbx (by omega)
  replace hsz : w.heap.size + 3 ≤ w2.heap.size := Nat.le_trans (by omega) hb.size
  clear hb
  go_wp2_with fail
  refine (HS.out _).mono ?_
  rintro e w3 ⟨rfl, hb⟩
  replace HK : Hid (KW w (w.heap.size + 2) (fun _ => 0) w3) := KW.keep HK.out hb
  replace hbx : ∀ o, w3.cell? { block := w.heap.size, off := o } = [I k, I a, I b, .string s][o]? := G.cells hb hbx (by omega)
  replace hsz : w.heap.size + 3 ≤ w3.heap.size := Nat.le_trans (by omega) hb.size
  clear hb
  go_wp2_with (first | refine wpList_load_mid rfl 92 _ rfl (w.heap.size + 2) 0 rfl Z24 _ HK.out.range Tryz.underlying92 rfl (by rw [z24_len]; kernel_rfl) ?_ | refine wpList_store_mid rfl 92 _ _ rfl (w.heap.size + 1) 0 Z24.toArray rfl rfl HK.out.rb (by kernel_rfl) z24_one ?_)
  refine bodyPost_ret_by (v := .tuple #[.agg Z24.toArray, .int .i64 1]) (ret_rkey _ _ (w.heap.size + 1) Z24 1 rfl rfl (World.rangeAt_setCells_same _ _ _ _ HK.out.rb) z24_len) rfl ⟨rfl, G.setCells _ HK.out.gg (by omega)⟩
end Go.Proofs.YtficmpaeochcgaaGreatDoor
