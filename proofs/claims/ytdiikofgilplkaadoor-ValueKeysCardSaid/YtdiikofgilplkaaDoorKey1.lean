/- value.KeyOf: what is refused. -/
import Derived.Test.YtdiikofgilplkaaDoorNam2
import Derived.Test.YtdiikofgilplkaaDoorEnc5
import Derived.Deep.MidRow
import Derived.Laws.ResultCell
namespace Go.Proofs.YtdiikofgilplkaaDoor
open Go.RowKit Go.Shelf Go.PlainAid Go.Lib

theorem G.setCells {a : World} : ∀ (vs : List Value) {w : World} {b o : Nat}, G a w → a.heap.size ≤ b → G a (w.setCells b o vs)
  | [], _, _, _, h, _ => h
  | v :: vs, _, b, o, h, hb => G.setCells vs (h.setCell (p := ⟨b, o, none⟩) hb v) hb
/-- The key of nothing. -/
def Z24 : List Value := [.int .u8 0, .int .u8 0, .int .u8 0, .int .u8 0, .int .u8 0, .int .u8 0, .int .u8 0, .int .u8 0, .int .u8 0, .int .u8 0, .int .u8 0, .int .u8 0, .int .u8 0, .int .u8 0, .int .u8 0, .int .u8 0, .int .u8 0, .int .u8 0, .int .u8 0, .int .u8 0, .int .u8 0, .int .u8 0, .int .u8 0, .int .u8 0]
theorem ret_key (tmps : Array Value) (W : World) (rb : Nat) (cs : List Value) (c : Int) (hp : tmps.getD 8 undef = .pointer (some ⟨rb, 0, none⟩)) (hc : tmps.getD 9 undef = .int .i64 c) (hr : W.rangeAt rb 0 cs) (hl : cs.length = 24) :
    (results Tryd.f12 tmps).run Tryd.prog W = .ok (.tuple #[.agg cs.toArray, .int .i64 c]) W := by
  rw [results_cell_tmp Tryd.results12, hp, hc]
  have h := run_loadVar_mid (P := Tryd.prog) W rb 0 37 cs _ hr Tryd.underlying37 rfl (by rw [hl]; kernel_rfl)
  simp only [asAddr, Sem.run_pure, Result.andThen_ok, h]
theorem there_G {a w : World} {b n : Nat} (h : G a w) (hb : b < a.heap.size) (ht : a.there b 0 n) : w.there b 0 n := fun j hj => by
  rw [h.cell hb, h.frozen hb]; exact ht j hj
theorem z24_len : Z24.length = 24 := rfl
theorem z24_one : (#[.int .u8 0, .int .u8 0, .int .u8 0, .int .u8 0, .int .u8 0, .int .u8 0, .int .u8 0, .int .u8 0, .int .u8 0, .int .u8 0, .int .u8 0, .int .u8 0, .int .u8 0, .int .u8 0, .int .u8 0, .int .u8 0, .int .u8 0, .int .u8 0, .int .u8 0, .int .u8 0, .int .u8 0, .int .u8 0, .int .u8 0, .int .u8 0] : Array Value).all (·.oneCell') = true := all_oneCell_toArray (cs := Z24) (by decide)
theorem key_start (w : World) (k a b : Int) (s : ByteArray) : let w1 := (w.alloc (.cells #[I k, I a, I b, .string s] 30)).alloc (.cells #[.int .u8 0, .int .u8 0, .int .u8 0, .int .u8 0, .int .u8 0, .int .u8 0, .int .u8 0, .int .u8 0, .int .u8 0, .int .u8 0, .int .u8 0, .int .u8 0, .int .u8 0, .int .u8 0, .int .u8 0, .int .u8 0, .int .u8 0, .int .u8 0, .int .u8 0, .int .u8 0, .int .u8 0, .int .u8 0, .int .u8 0, .int .u8 0] 37)
    G w w1 ∧ w1.there (w.heap.size + 1) 0 24 ∧ w1.rangeAt (w.heap.size + 1) 0 Z24 ∧ (∀ o, w1.cell? { block := w.heap.size, off := o } = [I k, I a, I b, .string s][o]?) ∧ w1.heap.size = w.heap.size + 2 := by
  intro w1
  have hr : w1.rangeAt (w.heap.size + 1) 0 Z24 := fun j u hj => by
    have e : w1.cell? ⟨w.heap.size + 1, j, none⟩ = (#[.int .u8 0, .int .u8 0, .int .u8 0, .int .u8 0, .int .u8 0, .int .u8 0, .int .u8 0, .int .u8 0, .int .u8 0, .int .u8 0, .int .u8 0, .int .u8 0, .int .u8 0, .int .u8 0, .int .u8 0, .int .u8 0, .int .u8 0, .int .u8 0, .int .u8 0, .int .u8 0, .int .u8 0, .int .u8 0, .int .u8 0, .int .u8 0] : Array Value)[j]? := by
      show (World.alloc _ _).cell? _ = _
      simp
    rw [Nat.zero_add, e]
    simpa [Z24] using hj
  refine ⟨((G.refl w).alloc _).alloc _, fun j hj => ⟨?_, ?_⟩, hr, fun o => by simp [w1], by simp [w1]⟩
  · obtain ⟨u, hu⟩ : ∃ u, Z24[j]? = some u := ⟨_, List.getElem?_eq_getElem hj⟩
    rw [hr j u hu]; rfl
  · simp [w1]
set_option maxRecDepth 100000 in
set_option maxHeartbeats 16000000 in
theorem ko_n1 (l m : ByteArray) (k a b : Int) (s : ByteArray) (id : Int) (h1 : nameB l = false) (w : World) : Calls Tryd.prog 12 #[.string l, .string m, V k a b s, .int .i64 id] w fun e w' => e = .returned (.tuple #[.agg Z24.toArray, .int .i64 73]) ∧ G w w' := by
  have HN : Hid _ := Name_any l
  rw [h1] at HN
  clear h1
  have hst := key_start w k a b s
  go_enter Tryd.func12, Tryd.ntmps12
  go_wp2_with fail
  generalize (w.alloc (.cells #[I k, I a, I b, .string s] 30)).alloc (.cells #[.int .u8 0, .int .u8 0, .int .u8 0, .int .u8 0, .int .u8 0, .int .u8 0, .int .u8 0, .int .u8 0, .int .u8 0, .int .u8 0, .int .u8 0, .int .u8 0, .int .u8 0, .int .u8 0, .int .u8 0, .int .u8 0, .int .u8 0, .int .u8 0, .int .u8 0, .int .u8 0, .int .u8 0, .int .u8 0, .int .u8 0, .int .u8 0] 37) = w1 at hst ⊢
  obtain ⟨hG, hth, hra, hbx, hsz⟩ := hst
  have HT : Hid _ := hth
  have HG : Hid (G w w1) := hG
  clear hth hra hG
  refine (HN.out _).mono ?_
  rintro e w2 ⟨rfl, hw⟩
  rw [hw]
  clear hw
  go_wp2_with (refine wpList_store_mid rfl 37 _ _ rfl (w.heap.size + 1) 0 #[.int .u8 0, .int .u8 0, .int .u8 0, .int .u8 0, .int .u8 0, .int .u8 0, .int .u8 0, .int .u8 0, .int .u8 0, .int .u8 0, .int .u8 0, .int .u8 0, .int .u8 0, .int .u8 0, .int .u8 0, .int .u8 0, .int .u8 0, .int .u8 0, .int .u8 0, .int .u8 0, .int .u8 0, .int .u8 0, .int .u8 0, .int .u8 0] rfl rfl HT.out (by kernel_rfl) z24_one ?_)
  refine bodyPost_ret_by (v := .tuple #[.agg Z24.toArray, .int .i64 73]) (ret_key _ _ (w.heap.size + 1) Z24 73 rfl rfl (World.rangeAt_setCells_same _ _ _ _ HT.out) z24_len) rfl ⟨rfl, G.setCells _ HG.out (by omega)⟩
set_option maxRecDepth 100000 in
set_option maxHeartbeats 16000000 in
theorem ko_n2 (l m : ByteArray) (k a b : Int) (s : ByteArray) (id : Int) (h1 : nameB l = true) (h2 : nameB m = false) (w : World) : Calls Tryd.prog 12 #[.string l, .string m, V k a b s, .int .i64 id] w fun e w' => e = .returned (.tuple #[.agg Z24.toArray, .int .i64 73]) ∧ G w w' := by
  have HN : Hid _ := Name_any l
  rw [h1] at HN
  clear h1
  have HM : Hid _ := Name_any m
  rw [h2] at HM
  clear h2
  have hst := key_start w k a b s
  go_enter Tryd.func12, Tryd.ntmps12
  go_wp2_with fail
  generalize (w.alloc (.cells #[I k, I a, I b, .string s] 30)).alloc (.cells #[.int .u8 0, .int .u8 0, .int .u8 0, .int .u8 0, .int .u8 0, .int .u8 0, .int .u8 0, .int .u8 0, .int .u8 0, .int .u8 0, .int .u8 0, .int .u8 0, .int .u8 0, .int .u8 0, .int .u8 0, .int .u8 0, .int .u8 0, .int .u8 0, .int .u8 0, .int .u8 0, .int .u8 0, .int .u8 0, .int .u8 0, .int .u8 0] 37) = w1 at hst ⊢
  obtain ⟨hG, hth, hra, hbx, hsz⟩ := hst
  have HT : Hid _ := hth
  have HG : Hid (G w w1) := hG
  clear hth hra hG
  refine (HN.out _).mono ?_
  rintro e w2 ⟨rfl, hw⟩
  rw [hw]
  clear hw
  go_wp2_with fail
  refine (HM.out _).mono ?_
  rintro e w2 ⟨rfl, hw⟩
  rw [hw]
  clear hw
  go_wp2_with (refine wpList_store_mid rfl 37 _ _ rfl (w.heap.size + 1) 0 #[.int .u8 0, .int .u8 0, .int .u8 0, .int .u8 0, .int .u8 0, .int .u8 0, .int .u8 0, .int .u8 0, .int .u8 0, .int .u8 0, .int .u8 0, .int .u8 0, .int .u8 0, .int .u8 0, .int .u8 0, .int .u8 0, .int .u8 0, .int .u8 0, .int .u8 0, .int .u8 0, .int .u8 0, .int .u8 0, .int .u8 0, .int .u8 0] rfl rfl HT.out (by kernel_rfl) z24_one ?_)
  refine bodyPost_ret_by (v := .tuple #[.agg Z24.toArray, .int .i64 73]) (ret_key _ _ (w.heap.size + 1) Z24 73 rfl rfl (World.rangeAt_setCells_same _ _ _ _ HT.out) z24_len) rfl ⟨rfl, G.setCells _ HG.out (by omega)⟩
set_option maxRecDepth 100000 in
set_option maxHeartbeats 16000000 in
theorem ko_val (l m : ByteArray) (k a b : Int) (s : ByteArray) (id : Int) (h1 : nameB l = true) (h2 : nameB m = true) (h3 : okV k a b s = false)   (w : World) (hT : Tabs w) : Calls Tryd.prog 12 #[.string l, .string m, V k a b s, .int .i64 id] w fun e w' => e = .returned (.tuple #[.agg Z24.toArray, .int .i64 16]) ∧ G w w' := by
  have HN : Hid _ := Name_any l
  rw [h1] at HN
  clear h1
  have HM : Hid _ := Name_any m
  rw [h2] at HM
  clear h2
  have HT0 : Hid (Tabs w) := hT
  have HI : Hid (∀ w, Tabs w → Calls Tryd.prog 21 #[V k a b s] w fun e w' => e = .returned (.tuple #[itemV k a b s, .bool (okV k a b s)]) ∧ G w w') := itemOf_any k a b s
  rw [h3] at HI
  generalize itemV k a b s = x at HI
  clear hT h3
  have hst := key_start w k a b s
  go_enter Tryd.func12, Tryd.ntmps12
  go_wp2_with fail
  generalize (w.alloc (.cells #[I k, I a, I b, .string s] 30)).alloc (.cells #[.int .u8 0, .int .u8 0, .int .u8 0, .int .u8 0, .int .u8 0, .int .u8 0, .int .u8 0, .int .u8 0, .int .u8 0, .int .u8 0, .int .u8 0, .int .u8 0, .int .u8 0, .int .u8 0, .int .u8 0, .int .u8 0, .int .u8 0, .int .u8 0, .int .u8 0, .int .u8 0, .int .u8 0, .int .u8 0, .int .u8 0, .int .u8 0] 37) = w1 at hst ⊢
  obtain ⟨hG, hth, hra, hbx, hsz⟩ := hst
  have HT : Hid _ := hth
  have HG : Hid (G w w1) := hG
  clear hth hra hG
  refine (HN.out _).mono ?_
  rintro e w2 ⟨rfl, hw⟩
  rw [hw]
  clear hw
  go_wp2_with fail
  refine (HM.out _).mono ?_
  rintro e w2 ⟨rfl, hw⟩
  rw [hw]
  clear hw
  go_wp2_with fail
  refine (HI.out _ (Tabs.G HT0.out HG.out)).mono ?_
  rintro e w2 ⟨rfl, hb⟩
  replace HT : Hid _ := there_G hb (by omega) HT.out
  replace HG : Hid (G w w2) := G.trans HG.out hb
  have hsz2 : w.heap.size + 2 ≤ w2.heap.size := hsz ▸ hb.size
  clear hb hbx hsz
  go_wp2_with (refine wpList_store_mid rfl 37 _ _ rfl (w.heap.size + 1) 0 #[.int .u8 0, .int .u8 0, .int .u8 0, .int .u8 0, .int .u8 0, .int .u8 0, .int .u8 0, .int .u8 0, .int .u8 0, .int .u8 0, .int .u8 0, .int .u8 0, .int .u8 0, .int .u8 0, .int .u8 0, .int .u8 0, .int .u8 0, .int .u8 0, .int .u8 0, .int .u8 0, .int .u8 0, .int .u8 0, .int .u8 0, .int .u8 0] rfl rfl HT.out (by kernel_rfl) z24_one ?_)
  refine bodyPost_ret_by (v := .tuple #[.agg Z24.toArray, .int .i64 16]) (ret_key _ _ (w.heap.size + 1) Z24 16 rfl rfl (World.rangeAt_setCells_same _ _ _ _ HT.out) z24_len) rfl ⟨rfl, G.setCells _ HG.out (by omega)⟩
set_option maxRecDepth 100000 in
set_option maxHeartbeats 16000000 in
theorem ko_kind (l m : ByteArray) (k a b : Int) (s : ByteArray) (id : Int) (h1 : nameB l = true) (h2 : nameB m = true) (h3 : okV k a b s = true) (h4 : stoV k a b s = false) (w : World) (hT : Tabs w) : Calls Tryd.prog 12 #[.string l, .string m, V k a b s, .int .i64 id] w fun e w' => e = .returned (.tuple #[.agg Z24.toArray, .int .i64 10]) ∧ G w w' := by
  have HN : Hid _ := Name_any l
  rw [h1] at HN
  clear h1
  have HM : Hid _ := Name_any m
  rw [h2] at HM
  clear h2
  have HT0 : Hid (Tabs w) := hT
  have HI : Hid (∀ w, Tabs w → Calls Tryd.prog 21 #[V k a b s] w fun e w' => e = .returned (.tuple #[itemV k a b s, .bool (okV k a b s)]) ∧ G w w') := itemOf_any k a b s
  rw [h3] at HI
  have HS : Hid (∀ w, Calls Tryd.prog 22 #[itemV k a b s] w fun e w' => e = .returned (.bool (stoV k a b s)) ∧ G w w') := stx_any k a b s h3
  rw [h4] at HS
  generalize itemV k a b s = x at HI HS
  clear hT h3 h4
  have hst := key_start w k a b s
  go_enter Tryd.func12, Tryd.ntmps12
  go_wp2_with fail
  generalize (w.alloc (.cells #[I k, I a, I b, .string s] 30)).alloc (.cells #[.int .u8 0, .int .u8 0, .int .u8 0, .int .u8 0, .int .u8 0, .int .u8 0, .int .u8 0, .int .u8 0, .int .u8 0, .int .u8 0, .int .u8 0, .int .u8 0, .int .u8 0, .int .u8 0, .int .u8 0, .int .u8 0, .int .u8 0, .int .u8 0, .int .u8 0, .int .u8 0, .int .u8 0, .int .u8 0, .int .u8 0, .int .u8 0] 37) = w1 at hst ⊢
  obtain ⟨hG, hth, hra, hbx, hsz⟩ := hst
  have HT : Hid _ := hth
  have HG : Hid (G w w1) := hG
  clear hth hra hG
  refine (HN.out _).mono ?_
  rintro e w2 ⟨rfl, hw⟩
  rw [hw]
  clear hw
  go_wp2_with fail
  refine (HM.out _).mono ?_
  rintro e w2 ⟨rfl, hw⟩
  rw [hw]
  clear hw
  go_wp2_with fail
  refine (HI.out _ (Tabs.G HT0.out HG.out)).mono ?_
  rintro e w2 ⟨rfl, hb⟩
  replace HT : Hid _ := there_G hb (by omega) HT.out
  replace HG : Hid (G w w2) := G.trans HG.out hb
  have hsz2 : w.heap.size + 2 ≤ w2.heap.size := hsz ▸ hb.size
  clear hb hbx hsz
  go_wp2_with fail
  refine (HS.out _).mono ?_
  rintro e w3 ⟨rfl, hb⟩
  replace HT : Hid _ := there_G hb (by omega) HT.out
  replace HG : Hid (G w w3) := G.trans HG.out hb
  clear hb
  go_wp2_with (refine wpList_store_mid rfl 37 _ _ rfl (w.heap.size + 1) 0 #[.int .u8 0, .int .u8 0, .int .u8 0, .int .u8 0, .int .u8 0, .int .u8 0, .int .u8 0, .int .u8 0, .int .u8 0, .int .u8 0, .int .u8 0, .int .u8 0, .int .u8 0, .int .u8 0, .int .u8 0, .int .u8 0, .int .u8 0, .int .u8 0, .int .u8 0, .int .u8 0, .int .u8 0, .int .u8 0, .int .u8 0, .int .u8 0] rfl rfl HT.out (by kernel_rfl) z24_one ?_)
  refine bodyPost_ret_by (v := .tuple #[.agg Z24.toArray, .int .i64 10]) (ret_key _ _ (w.heap.size + 1) Z24 10 rfl rfl (World.rangeAt_setCells_same _ _ _ _ HT.out) z24_len) rfl ⟨rfl, G.setCells _ HG.out (by omega)⟩
set_option maxRecDepth 100000 in
set_option maxHeartbeats 16000000 in
theorem ko_lo (l m : ByteArray) (k a b : Int) (s : ByteArray) (id : Int) (h1 : nameB l = true) (h2 : nameB m = true) (h3 : okV k a b s = true) (h4 : stoV k a b s = true) (h5 : id < 1) (w : World) (hT : Tabs w) : Calls Tryd.prog 12 #[.string l, .string m, V k a b s, .int .i64 id] w fun e w' => e = .returned (.tuple #[.agg Z24.toArray, .int .i64 1]) ∧ G w w' := by
  have HN : Hid _ := Name_any l
  rw [h1] at HN
  clear h1
  have HM : Hid _ := Name_any m
  rw [h2] at HM
  clear h2
  have HT0 : Hid (Tabs w) := hT
  have HI : Hid (∀ w, Tabs w → Calls Tryd.prog 21 #[V k a b s] w fun e w' => e = .returned (.tuple #[itemV k a b s, .bool (okV k a b s)]) ∧ G w w') := itemOf_any k a b s
  rw [h3] at HI
  have HS : Hid (∀ w, Calls Tryd.prog 22 #[itemV k a b s] w fun e w' => e = .returned (.bool (stoV k a b s)) ∧ G w w') := stx_any k a b s h3
  rw [h4] at HS
  generalize itemV k a b s = x at HI HS
  clear hT h3 h4
  have hst := key_start w k a b s
  go_enter Tryd.func12, Tryd.ntmps12
  go_wp2_with fail
  generalize (w.alloc (.cells #[I k, I a, I b, .string s] 30)).alloc (.cells #[.int .u8 0, .int .u8 0, .int .u8 0, .int .u8 0, .int .u8 0, .int .u8 0, .int .u8 0, .int .u8 0, .int .u8 0, .int .u8 0, .int .u8 0, .int .u8 0, .int .u8 0, .int .u8 0, .int .u8 0, .int .u8 0, .int .u8 0, .int .u8 0, .int .u8 0, .int .u8 0, .int .u8 0, .int .u8 0, .int .u8 0, .int .u8 0] 37) = w1 at hst ⊢
  obtain ⟨hG, hth, hra, hbx, hsz⟩ := hst
  have HT : Hid _ := hth
  have HG : Hid (G w w1) := hG
  clear hth hra hG
  refine (HN.out _).mono ?_
  rintro e w2 ⟨rfl, hw⟩
  rw [hw]
  clear hw
  go_wp2_with fail
  refine (HM.out _).mono ?_
  rintro e w2 ⟨rfl, hw⟩
  rw [hw]
  clear hw
  go_wp2_with fail
  refine (HI.out _ (Tabs.G HT0.out HG.out)).mono ?_
  rintro e w2 ⟨rfl, hb⟩
  replace HT : Hid _ := there_G hb (by omega) HT.out
  replace HG : Hid (G w w2) := G.trans HG.out hb
  have hsz2 : w.heap.size + 2 ≤ w2.heap.size := hsz ▸ hb.size
  clear hb hbx hsz
  go_wp2_with fail
  refine (HS.out _).mono ?_
  rintro e w3 ⟨rfl, hb⟩
  replace HT : Hid _ := there_G hb (by omega) HT.out
  replace HG : Hid (G w w3) := G.trans HG.out hb
  clear hb
  go_wp2_with (refine wpList_store_mid rfl 37 _ _ rfl (w.heap.size + 1) 0 #[.int .u8 0, .int .u8 0, .int .u8 0, .int .u8 0, .int .u8 0, .int .u8 0, .int .u8 0, .int .u8 0, .int .u8 0, .int .u8 0, .int .u8 0, .int .u8 0, .int .u8 0, .int .u8 0, .int .u8 0, .int .u8 0, .int .u8 0, .int .u8 0, .int .u8 0, .int .u8 0, .int .u8 0, .int .u8 0, .int .u8 0, .int .u8 0] rfl rfl HT.out (by kernel_rfl) z24_one ?_)
  refine bodyPost_ret_by (v := .tuple #[.agg Z24.toArray, .int .i64 1]) (ret_key _ _ (w.heap.size + 1) Z24 1 rfl rfl (World.rangeAt_setCells_same _ _ _ _ HT.out) z24_len) rfl ⟨rfl, G.setCells _ HG.out (by omega)⟩
set_option maxRecDepth 100000 in
set_option maxHeartbeats 16000000 in
theorem ko_hi (l m : ByteArray) (k a b : Int) (s : ByteArray) (id : Int) (h1 : nameB l = true) (h2 : nameB m = true) (h3 : okV k a b s = true) (h4 : stoV k a b s = true) (h5 : 4294967295 < id) (w : World) (hT : Tabs w) : Calls Tryd.prog 12 #[.string l, .string m, V k a b s, .int .i64 id] w fun e w' => e = .returned (.tuple #[.agg Z24.toArray, .int .i64 1]) ∧ G w w' := by
  have HN : Hid _ := Name_any l
  rw [h1] at HN
  clear h1
  have HM : Hid _ := Name_any m
  rw [h2] at HM
  clear h2
  have HT0 : Hid (Tabs w) := hT
  have HI : Hid (∀ w, Tabs w → Calls Tryd.prog 21 #[V k a b s] w fun e w' => e = .returned (.tuple #[itemV k a b s, .bool (okV k a b s)]) ∧ G w w') := itemOf_any k a b s
  rw [h3] at HI
  have HS : Hid (∀ w, Calls Tryd.prog 22 #[itemV k a b s] w fun e w' => e = .returned (.bool (stoV k a b s)) ∧ G w w') := stx_any k a b s h3
  rw [h4] at HS
  generalize itemV k a b s = x at HI HS
  clear hT h3 h4
  have hst := key_start w k a b s
  go_enter Tryd.func12, Tryd.ntmps12
  go_wp2_with fail
  generalize (w.alloc (.cells #[I k, I a, I b, .string s] 30)).alloc (.cells #[.int .u8 0, .int .u8 0, .int .u8 0, .int .u8 0, .int .u8 0, .int .u8 0, .int .u8 0, .int .u8 0, .int .u8 0, .int .u8 0, .int .u8 0, .int .u8 0, .int .u8 0, .int .u8 0, .int .u8 0, .int .u8 0, .int .u8 0, .int .u8 0, .int .u8 0, .int .u8 0, .int .u8 0, .int .u8 0, .int .u8 0, .int .u8 0] 37) = w1 at hst ⊢
  obtain ⟨hG, hth, hra, hbx, hsz⟩ := hst
  have HT : Hid _ := hth
  have HG : Hid (G w w1) := hG
  clear hth hra hG
  refine (HN.out _).mono ?_
  rintro e w2 ⟨rfl, hw⟩
  rw [hw]
  clear hw
  go_wp2_with fail
  refine (HM.out _).mono ?_
  rintro e w2 ⟨rfl, hw⟩
  rw [hw]
  clear hw
  go_wp2_with fail
  refine (HI.out _ (Tabs.G HT0.out HG.out)).mono ?_
  rintro e w2 ⟨rfl, hb⟩
  replace HT : Hid _ := there_G hb (by omega) HT.out
  replace HG : Hid (G w w2) := G.trans HG.out hb
  have hsz2 : w.heap.size + 2 ≤ w2.heap.size := hsz ▸ hb.size
  clear hb hbx hsz
  go_wp2_with fail
  refine (HS.out _).mono ?_
  rintro e w3 ⟨rfl, hb⟩
  replace HT : Hid _ := there_G hb (by omega) HT.out
  replace HG : Hid (G w w3) := G.trans HG.out hb
  clear hb
  go_wp2_with (refine wpList_store_mid rfl 37 _ _ rfl (w.heap.size + 1) 0 #[.int .u8 0, .int .u8 0, .int .u8 0, .int .u8 0, .int .u8 0, .int .u8 0, .int .u8 0, .int .u8 0, .int .u8 0, .int .u8 0, .int .u8 0, .int .u8 0, .int .u8 0, .int .u8 0, .int .u8 0, .int .u8 0, .int .u8 0, .int .u8 0, .int .u8 0, .int .u8 0, .int .u8 0, .int .u8 0, .int .u8 0, .int .u8 0] rfl rfl HT.out (by kernel_rfl) z24_one ?_)
  refine bodyPost_ret_by (v := .tuple #[.agg Z24.toArray, .int .i64 1]) (ret_key _ _ (w.heap.size + 1) Z24 1 rfl rfl (World.rangeAt_setCells_same _ _ _ _ HT.out) z24_len) rfl ⟨rfl, G.setCells _ HG.out (by omega)⟩
end Go.Proofs.YtdiikofgilplkaaDoor
