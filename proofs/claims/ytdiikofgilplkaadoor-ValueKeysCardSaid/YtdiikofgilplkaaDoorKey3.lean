/- value.KeyOf: the key. -/
import Derived.Test.YtdiikofgilplkaaDoorKey2
import Derived.Deep.RegionHeld3
namespace Go.Proofs.YtdiikofgilplkaaDoor
open Go.RowKit Go.Shelf Go.PlainAid Go.Lib

theorem z24_at : ∀ j, j < 24 → (#[.int .u8 0, .int .u8 0, .int .u8 0, .int .u8 0, .int .u8 0, .int .u8 0, .int .u8 0, .int .u8 0, .int .u8 0, .int .u8 0, .int .u8 0, .int .u8 0, .int .u8 0, .int .u8 0, .int .u8 0, .int .u8 0, .int .u8 0, .int .u8 0, .int .u8 0, .int .u8 0, .int .u8 0, .int .u8 0, .int .u8 0, .int .u8 0] : Array Value)[j]? = some (bv 0) := fun j hj => by
  show (List.replicate 24 (bv 0)).toArray[j]? = _
  rw [List.getElem?_toArray, List.getElem?_replicate, if_pos hj]
theorem key_alloc {w w3 : World} (hG : G w w3) (ht : w3.there (w.heap.size + 1) 0 24) (hsz : w.heap.size + 2 ≤ w3.heap.size) : KW w w3.heap.size (fun _ => 0) (w3.alloc (.cells #[.int .u8 0, .int .u8 0, .int .u8 0, .int .u8 0, .int .u8 0, .int .u8 0, .int .u8 0, .int .u8 0, .int .u8 0, .int .u8 0, .int .u8 0, .int .u8 0, .int .u8 0, .int .u8 0, .int .u8 0, .int .u8 0, .int .u8 0, .int .u8 0, .int .u8 0, .int .u8 0, .int .u8 0, .int .u8 0, .int .u8 0, .int .u8 0] 37)) := by
  refine ⟨hG.alloc _, there_G ((G.refl w3).alloc _) (by omega) ht, fun j hj => ?_, fun j hj => by simp, by omega, by simp⟩
  have e : (w3.alloc (.cells #[.int .u8 0, .int .u8 0, .int .u8 0, .int .u8 0, .int .u8 0, .int .u8 0, .int .u8 0, .int .u8 0, .int .u8 0, .int .u8 0, .int .u8 0, .int .u8 0, .int .u8 0, .int .u8 0, .int .u8 0, .int .u8 0, .int .u8 0, .int .u8 0, .int .u8 0, .int .u8 0, .int .u8 0, .int .u8 0, .int .u8 0, .int .u8 0] 37)).cell? ⟨w3.heap.size, j, none⟩ = (#[.int .u8 0, .int .u8 0, .int .u8 0, .int .u8 0, .int .u8 0, .int .u8 0, .int .u8 0, .int .u8 0, .int .u8 0, .int .u8 0, .int .u8 0, .int .u8 0, .int .u8 0, .int .u8 0, .int .u8 0, .int .u8 0, .int .u8 0, .int .u8 0, .int .u8 0, .int .u8 0, .int .u8 0, .int .u8 0, .int .u8 0, .int .u8 0] : Array Value)[j]? := by simp
  rw [e, z24_at j hj]
def putF (off len x : Nat) (f : Nat → Nat) : Nat → Nat := fun j => if off ≤ j ∧ j < off + len then x / 256 ^ (len - 1 - (j - off)) % 256 else f j
def layF (off : Nat) (ys : List Nat) (f : Nat → Nat) : Nat → Nat := fun j => if off ≤ j ∧ j < off + ys.length then ys.getD (j - off) 0 else f j
theorem KW.Put {w : World} {g : Nat} {f : Nat → Nat} {W : World} (h : KW w g f W) (off len cap x : Nat) (hl : off + len ≤ 24) (hcap : len ≤ cap) :
    Calls Tryd.prog 23 #[.slice (some ⟨g, off, none⟩) len cap, .int .u64 x] W fun e w' => e = .returned (.tuple #[]) ∧ KW w g (putF off len x f) w' := by
  refine (put_any g off len cap x (by omega) hcap W (fun j hj => ⟨_, h.c (off + j) (by omega)⟩) (fun j hj => h.fz (off + j) (by omega))).mono ?_
  rintro e w' ⟨rfl, hp⟩
  exact ⟨rfl, h.put hp⟩
theorem Bw.cells {w W : World} {x : Value} {ys : List Nat} (h : Bw w W x ys) (hp : 0 < ys.length) : ∃ g cap, x = .slice (some ⟨g, 0, none⟩) ys.length cap ∧ ∀ (j : Nat) (u : Value), ((ys.take 8).map bv)[j]? = some u → W.cell? ((⟨g, 0, none⟩ : Addr).add j) = some u := by
  rcases h.at with ⟨_, rfl⟩ | ⟨g, cap, rfl, _, _, _, hc⟩
  · simp at hp
  · refine ⟨g, cap, rfl, fun j u hj => ?_⟩
    rw [Addr.add_mid, Nat.zero_add]
    rw [List.getElem?_map, Option.map_eq_some_iff] at hj
    obtain ⟨d, hd, rfl⟩ := hj
    exact hc j d (by rw [List.getElem?_take] at hd; split at hd <;> simp_all)
theorem encV_pos (k a b : Int) (s : ByteArray) : 0 < (encV k a b s).length := by
  unfold encV
  repeat' split
  all_goals (simp only [List.length_append, List.length_cons, List.length_nil]; omega)
theorem wrap_nat (n : Nat) (h : n < 18446744073709551616) : IntKind.u64.wrap (n : Int) = n := by rw [IntKind.wrap_u64]; omega
/-- What a key holds. -/
def keyF (pl pm : Nat) (ys : List Nat) (id : Nat) : Nat → Nat := putF 20 4 id (layF 12 (ys.take 8) (putF 6 6 pm (putF 0 6 pl fun _ => 0)))
set_option maxRecDepth 100000 in
set_option maxHeartbeats 16000000 in
theorem ko_yes (l m : ByteArray) (k a b : Int) (s : ByteArray) (id : Nat) (h1 : NameP l) (h2 : NameP m) (h3 : okV k a b s = true) (h4 : stoV k a b s = true) (h5 : 1 ≤ id) (h6 : id ≤ 4294967295) (ha : R64 a) (w : World) (hT : Tabs w) :
    Calls Tryd.prog 12 #[.string l, .string m, V k a b s, .int .i64 id] w fun e w' => ∃ pl pm : Nat, (pl : Int) = packK l 8 ∧ (pm : Int) = packK m 8 ∧ e = .returned (.tuple #[.agg (cellsOf (keyF pl pm (encV k a b s) id)).toArray, .int .i64 0]) ∧ G w w' := by
  have HN : Hid _ := Name_any l
  rw [(nameB_iff l).2 h1] at HN
  have HM : Hid _ := Name_any m
  rw [(nameB_iff m).2 h2] at HM
  have HI : Hid (∀ w, Tabs w → Calls Tryd.prog 21 #[V k a b s] w fun e w' => e = .returned (.tuple #[itemV k a b s, .bool (okV k a b s)]) ∧ G w w') := itemOf_any k a b s
  rw [h3] at HI
  have HS : Hid (∀ w, Calls Tryd.prog 22 #[itemV k a b s] w fun e w' => e = .returned (.bool (stoV k a b s)) ∧ G w w') := stx_any k a b s h3
  rw [h4] at HS
  have HP : Hid (∀ w, Calls Tryd.prog 24 #[.string l] w fun e w' => e = .returned (.int .i64 (packK l 8)) ∧ w' = w) := pk_any l h1
  have HQ : Hid (∀ w, Calls Tryd.prog 24 #[.string m] w fun e w' => e = .returned (.int .i64 (packK m 8)) ∧ w' = w) := pk_any m h2
  obtain ⟨pl, hpl⟩ : ∃ n : Nat, packK l 8 = n := ⟨(packK l 8).toNat, by have := (packK_bd l h1 8).1; omega⟩
  have bl : pl < 3512479453921 := by have := (packK_bd l h1 8).2; rw [hpl] at this; omega
  obtain ⟨pm, hpm⟩ : ∃ n : Nat, packK m 8 = n := ⟨(packK m 8).toNat, by have := (packK_bd m h2 8).1; omega⟩
  have bm : pm < 3512479453921 := by have := (packK_bd m h2 8).2; rw [hpm] at this; omega
  rw [hpl] at HP
  rw [hpm] at HQ
  refine (?_ : Calls Tryd.prog 12 #[.string l, .string m, V k a b s, .int .i64 id] w fun e w' => e = .returned (.tuple #[.agg (cellsOf (keyF pl pm (encV k a b s) id)).toArray, .int .i64 0]) ∧ G w w').mono (fun e w' h => ⟨pl, pm, hpl.symm, hpm.symm, h⟩)
  have hne := encV_pos k a b s
  have wl := wrap_nat pl (by omega)
  have wm := wrap_nat pm (by omega)
  have wi := wrap_nat id (by omega)
  have HC : Hid (ICode (itemV k a b s) (encV k a b s)) := icode_any k a b s h3 ha
  generalize encV k a b s = ys at HC hne ⊢
  generalize itemV k a b s = x at HI HS HC
  have HT0 : Hid (Tabs w) := hT
  clear hT h1 h2 h3 h4 ha hpl hpm
  obtain ⟨t, f, v, rfl, hmt, hcf, hcd⟩ := HC.out
  clear HC
  have hst := key_start w k a b s
  go_enter Tryd.func12, Tryd.ntmps12
  go_wp2_with fail
  generalize (w.alloc (.cells #[I k, I a, I b, .string s] 30)).alloc (.cells #[.int .u8 0, .int .u8 0, .int .u8 0, .int .u8 0, .int .u8 0, .int .u8 0, .int .u8 0, .int .u8 0, .int .u8 0, .int .u8 0, .int .u8 0, .int .u8 0, .int .u8 0, .int .u8 0, .int .u8 0, .int .u8 0, .int .u8 0, .int .u8 0, .int .u8 0, .int .u8 0, .int .u8 0, .int .u8 0, .int .u8 0, .int .u8 0] 37) = w1 at hst ⊢
  obtain ⟨hG, hth, hra, hbx, hsz⟩ := hst
  have HT : Hid _ := hth
  have HG : Hid (G w w1) := hG
  clear hth hra hG
  refine (HN.out _).mono ?_
  rintro e w2 ⟨rfl, hw⟩
  rw [hw]
  clear hw
  go_wp2_with fail
  refine (HM.out _).mono ?_
  rintro e w2 ⟨rfl, hw⟩
  rw [hw]
  clear hw
  go_wp2_with fail
  refine (HI.out _ (Tabs.G HT0.out HG.out)).mono ?_
  rintro e w2 ⟨rfl, hb⟩
  replace HT : Hid _ := there_G hb (by omega) HT.out
  replace HG : Hid (G w w2) := G.trans HG.out hb
  have hsz2 : w.heap.size + 2 ≤ w2.heap.size := hsz ▸ hb.size
  clear hb hbx hsz
  go_wp2_with fail
  refine (HS.out _).mono ?_
  rintro e w3 ⟨rfl, hb⟩
  have hsz3 : w.heap.size + 2 ≤ w3.heap.size := Nat.le_trans hsz2 hb.size
  have hk := key_alloc (G.trans HG.out hb) (there_G hb (by omega) HT.out) hsz3
  clear hb hsz2 HT HG hsz3
  go_wp2_with fail
  generalize w3.alloc (.cells #[.int .u8 0, .int .u8 0, .int .u8 0, .int .u8 0, .int .u8 0, .int .u8 0, .int .u8 0, .int .u8 0, .int .u8 0, .int .u8 0, .int .u8 0, .int .u8 0, .int .u8 0, .int .u8 0, .int .u8 0, .int .u8 0, .int .u8 0, .int .u8 0, .int .u8 0, .int .u8 0, .int .u8 0, .int .u8 0, .int .u8 0, .int .u8 0] 37) = w4 at hk ⊢
  generalize w3.heap.size = g at hk ⊢
  have HK : Hid _ := hk
  clear hk
  go_region_held3 (fun _ => True) (trivial) (first | (go_at_call 24; refine (HP.out _).mono ?_; rintro e w5 ⟨rfl, hw5⟩; rw [hw5]; clear hw5) | (go_at_call 23; refine (KW.Put (KW.keep HK.out (by repeat (first | exact G.refl _ | refine G.drew ?_))) 0 6 24 pl (by omega) (by omega)).mono ?_; rintro e w6 ⟨rfl, hk⟩) | fail)
  clear HK HP wl
  have HK : Hid _ := hk
  clear hk
  go_wp2_with fail
  go_region_held3 (fun _ => True) (trivial) (first | (go_at_call 24; refine (HQ.out _).mono ?_; rintro e w5 ⟨rfl, hw5⟩; rw [hw5]; clear hw5) | (go_at_call 23; refine (KW.Put (KW.keep HK.out (by repeat (first | exact G.refl _ | refine G.drew ?_))) 6 6 18 pm (by omega) (by omega)).mono ?_; rintro e w7 ⟨rfl, hk⟩) | fail)
  clear HK HQ wm
  have HK : Hid _ := hk
  clear hk
  go_wp2_with fail
  go_region_held3 (fun _ => True) (trivial) (first | (refine (hcd _).mono ?_; rintro e w8 ⟨x8, rfl, hB⟩; obtain ⟨g8, cap8, rfl, hc8⟩ := hB.cells hne; have hk := KW.keep (KW.keep HK.out (by repeat (first | exact G.refl _ | refine G.drew ?_))) hB.g; clear hB) | (refine step_copy_there rfl (.tmp 51) (.tmp 53) 23 23 rfl 5 Tryd.underlying23 (by kernel_rfl) g 12 8 12 _ ys.length cap8 rfl rfl ((ys.take 8).map bv) (by rw [List.length_map, List.length_take]; exact Nat.min_comm _ _) hc8 (fun j hj => ⟨by rw [hk.c (12 + j) (by simp at hj; omega)]; rfl, hk.fz (12 + j) (by simp at hj; omega)⟩) (fun u hu => by simp only [List.mem_map] at hu; obtain ⟨d, _, rfl⟩ := hu; rfl) ?_; replace hk : KW w g (layF 12 (ys.take 8) _) _ := hk.cells (off := 12) (ys.take 8) (by simp; omega)) | fail)
  clear hc8 HK
  generalize w8.setCells g 12 (List.map bv (List.take 8 ys)) = w9 at hk ⊢
  have HK : Hid _ := hk
  clear hk
  go_wp2_with fail
  refine (KW.Put (KW.keep HK.out (by repeat (first | exact G.refl _ | refine G.drew ?_))) 20 4 4 id (by omega) (by omega)).mono ?_
  rintro e w10 ⟨rfl, hk⟩
  change KW w g (keyF pl pm ys id) w10 at hk
  clear HK
  obtain ⟨F, hF⟩ : ∃ F, F = keyF pl pm ys id := ⟨_, rfl⟩
  rw [← hF] at hk
  have HF : Hid _ := hF
  clear hF
  have HK : Hid _ := hk
  clear hk
  have hcl : (cellsOf F).toArray.size = 24 := by simp [cellsOf]
  have HL : Hid _ := hcl
  clear hcl
  go_wp2_with (first | refine wpList_load_mid rfl 37 _ rfl g 0 rfl (cellsOf F) _ HK.out.range Tryd.underlying37 rfl (by rw [cellsOf_len]; kernel_rfl) ?_ | refine wpList_store_mid rfl 37 _ _ rfl (w.heap.size + 1) 0 (cellsOf F).toArray rfl rfl (by rw [HL.out]; exact HK.out.rb) (by rw [HL.out]; kernel_rfl) (cellsOf_one F) ?_)
  refine bodyPost_ret_by (v := .tuple #[.agg (cellsOf F).toArray, .int .i64 0]) (ret_key _ _ (w.heap.size + 1) (cellsOf F) 0 rfl rfl (World.rangeAt_setCells_same _ _ _ _ (by rw [cellsOf_len]; exact HK.out.rb)) (cellsOf_len F)) rfl ⟨by rw [HF.out], G.setCells _ HK.out.gg (by omega)⟩
end Go.Proofs.YtdiikofgilplkaaDoor
