/- The reader: an item, a list of one. -/
import Derived.Test.YthpflfkgbapbnaaGreatDoorRd8
import Derived.Maps.AppendAt
import Derived.OwnWalk
import Derived.Test.YthpflfkgbapbnaaGreatDoorSx13
namespace Go.Proofs.YthpflfkgbapbnaaGreatDoor
section
open Go.RowKit

set_option maxRecDepth 100000 in
set_option maxHeartbeats 1000000 in
theorem so_no {rb g : Nat} {ts : List Tok} {i : Nat} {W : World} (h : Rd rb g ts i W) {x : Tok} (hx : ts[i]? = some x) (tl : List ByteArray) (hn : ∀ t ∈ tl, seB x t = false) {sb : Nat} (hs : ∀ o, W.cell? ⟨sb, o, none⟩ = (tl.map Value.string)[o]?) (hl : tl.length ≤ 100) : Calls Tryz.prog 69 #[ptr rb, .slice (some ⟨sb, 0, none⟩) tl.length tl.length] W fun e W' => e = .returned (.bool false) ∧ G W W' := by
  have HR := xh h
  have HX := xh hx
  have HN := xh hn
  have HS := xh hs
  obtain ⟨n, hnn⟩ : ∃ n, n = tl.length := ⟨_, rfl⟩
  rw [← hnn] at hl ⊢
  have HNN := xh hnn
  clear h hx hn hs hnn
  go_enter Tryz.func69, Tryz.ntmps69
  go_wp2_with fail
  go_loopw [9] (fun p W' => ∃ k : Nat, k ≤ n ∧ p = .int .i64 (k : Int) ∧ G W W') (fun p _ => n - (RowKit.intOf p).toNat)
  case atStart => exact ⟨0, by omega, rfl, G.refl _⟩
  case round =>
    obtain ⟨k, hk, rfl, hg⟩ := hrel
    have HG := xh hg
    by_cases hlt : k < n
    · have hltI : (k : Int) < (n : Int) := by omega
      obtain ⟨t, ht⟩ : ∃ t, tl[k]? = some t := ⟨_, List.getElem?_eq_getElem (by rw [← HNN.out]; exact hlt)⟩
      have hc0 : W.cell? ⟨sb, k, none⟩ = some (.string t) := by rw [HS.out k]; simp [ht]
      have hc := (hg.cell (cell_lt hc0)).trans hc0
      have HSE := xh (sees_any (HR.out.G hg) HX.out t)
      rw [HN.out t (List.mem_of_getElem? ht)] at HSE
      clear hc0 ht hg
      go_wp2_with (first | (go_at_call 26; refine Hid.out ?_) | fail)
      unfold Hid
      refine HSE.out.mono ?_
      rintro e w2 ⟨rfl, hg⟩
      have HG2 := xh (HG.out.trans hg)
      clear hg HSE hc
      go_wp2
      go_roundw
      case rel => exact ⟨k + 1, by omega, by go_num, HG2.out⟩
      case measure => simp [RowKit.intOf]; omega
    · have hltI : ¬ (k : Int) < (n : Int) := by omega
      clear hg
      go_wp2
      go_ret
      exact ⟨rfl, HG.out⟩
set_option maxRecDepth 100000 in
set_option maxHeartbeats 1000000 in
theorem am_no {rb g : Nat} {ts : List Tok} {i : Nat} {W : World} (h : Rd rb g ts i W) {x : Tok} (hx : ts[i]? = some x) (hn : ∀ t ∈ ([⟨#[111, 112, 116, 105, 111, 110, 97, 108]⟩, ⟨#[109, 97, 116, 99, 104]⟩] : List ByteArray), seB x t = false) : Calls Tryz.prog 40 #[ptr rb] W fun e W' => e = .returned (.bool false) ∧ G W W' := by
  have HS := xh (so_no (h.G ((G.refl W).alloc (.cells #[.string ⟨#[111, 112, 116, 105, 111, 110, 97, 108]⟩, .string ⟨#[109, 97, 116, 99, 104]⟩] 9))) hx [⟨#[111, 112, 116, 105, 111, 110, 97, 108]⟩, ⟨#[109, 97, 116, 99, 104]⟩] hn (sb := W.heap.size) (fun o => by simp) (by decide))
  have HG := xh ((G.refl W).alloc (.cells #[.string ⟨#[111, 112, 116, 105, 111, 110, 97, 108]⟩, .string ⟨#[109, 97, 116, 99, 104]⟩] 9))
  clear h hx hn
  go_enter Tryz.func40, Tryz.ntmps40
  go_wp2_with (first | (go_at_call 69; refine Hid.out ?_) | fail)
  unfold Hid
  refine HS.out.mono ?_
  rintro e w2 ⟨rfl, hg⟩
  have HG2 := xh (HG.out.trans hg)
  clear hg HS HG
  go_wp2
  go_ret
  exact ⟨rfl, HG2.out⟩
set_option maxRecDepth 100000 in
set_option maxHeartbeats 1000000 in
theorem ac_no {rb g : Nat} {ts : List Tok} {i : Nat} {W : World} (h : Rd rb g ts i W) {x : Tok} (hx : ts[i]? = some x) (hn : ∀ t ∈ ([⟨#[99, 114, 101, 97, 116, 101]⟩, ⟨#[109, 101, 114, 103, 101]⟩, ⟨#[115, 101, 116]⟩, ⟨#[114, 101, 109, 111, 118, 101]⟩, ⟨#[100, 101, 116, 97, 99, 104]⟩, ⟨#[100, 101, 108, 101, 116, 101]⟩, ⟨#[97, 98, 111, 114, 116]⟩] : List ByteArray), seB x t = false) : Calls Tryz.prog 42 #[ptr rb] W fun e W' => e = .returned (.bool false) ∧ G W W' := by
  have HS := xh (so_no (h.G ((G.refl W).alloc (.cells #[.string ⟨#[99, 114, 101, 97, 116, 101]⟩, .string ⟨#[109, 101, 114, 103, 101]⟩, .string ⟨#[115, 101, 116]⟩, .string ⟨#[114, 101, 109, 111, 118, 101]⟩, .string ⟨#[100, 101, 116, 97, 99, 104]⟩, .string ⟨#[100, 101, 108, 101, 116, 101]⟩, .string ⟨#[97, 98, 111, 114, 116]⟩] 9))) hx [⟨#[99, 114, 101, 97, 116, 101]⟩, ⟨#[109, 101, 114, 103, 101]⟩, ⟨#[115, 101, 116]⟩, ⟨#[114, 101, 109, 111, 118, 101]⟩, ⟨#[100, 101, 116, 97, 99, 104]⟩, ⟨#[100, 101, 108, 101, 116, 101]⟩, ⟨#[97, 98, 111, 114, 116]⟩] hn (sb := W.heap.size) (fun o => by simp) (by decide))
  have HG := xh ((G.refl W).alloc (.cells #[.string ⟨#[99, 114, 101, 97, 116, 101]⟩, .string ⟨#[109, 101, 114, 103, 101]⟩, .string ⟨#[115, 101, 116]⟩, .string ⟨#[114, 101, 109, 111, 118, 101]⟩, .string ⟨#[100, 101, 116, 97, 99, 104]⟩, .string ⟨#[100, 101, 108, 101, 116, 101]⟩, .string ⟨#[97, 98, 111, 114, 116]⟩] 9))
  clear h hx hn
  go_enter Tryz.func42, Tryz.ntmps42
  go_wp2_with (first | (go_at_call 69; refine Hid.out ?_) | fail)
  unfold Hid
  refine HS.out.mono ?_
  rintro e w2 ⟨rfl, hg⟩
  have HG2 := xh (HG.out.trans hg)
  clear hg HS HG
  go_wp2
  go_ret
  exact ⟨rfl, HG2.out⟩
set_option maxRecDepth 100000 in
set_option maxHeartbeats 1000000 in
theorem ax_num {rb g : Nat} {ts : List Tok} {i : Nat} {W : World} (h : Rd rb g ts i W) {x : Tok} (hx : ts[i]? = some x) (hn : NumT x) (hN : decN x.t.data.toList ≤ 9223372036854775807) : Calls Tryz.prog 82 #[ptr rb] W fun e W' => e = .returned (.bool true) ∧ G W W' := by
  have HA := xh (aa_num h hx hn)
  rw [decide_eq_true hN] at HA
  clear h hx hn hN
  go_enter Tryz.func82, Tryz.ntmps82
  go_wp2_with (first | (go_at_call 108; refine HA.out.mono ?_; rintro e w1 ⟨rfl, hg⟩) | fail)
  go_ret
  exact ⟨rfl, hg⟩
set_option maxRecDepth 100000 in
set_option maxHeartbeats 1000000 in
theorem nb_no {rb g : Nat} {ts : List Tok} {i : Nat} {W : World} (h : Rd rb g ts i W) {x : Tok} (hx : ts[i]? = some x) (t : ByteArray) (hn : seB x t = false) : Calls Tryz.prog 87 #[ptr rb, .string t] W fun e W' => e = .returned (.string E0) ∧ G W W' := by
  have HT := xh (took_no h hx t hn)
  clear h hx hn
  go_enter Tryz.func87, Tryz.ntmps87
  go_wp2_with (first | (go_at_call 44; refine HT.out.mono ?_; rintro e w1 ⟨rfl, hg⟩) | fail)
  go_ret
  exact ⟨rfl, hg⟩
set_option maxRecDepth 100000 in
set_option maxHeartbeats 1000000 in
theorem room_ok {rb : Nat} (n m : Int) (h : ¬ m ≤ n) (W : World) : Calls Tryz.prog 28 #[ptr rb, .int .i64 n, .int .i64 m] W fun e W' => e = .returned (.tuple #[]) ∧ W' = W := by
  go_enter Tryz.func28, Tryz.ntmps28
  go_wp2
  go_end0
  exact ⟨rfl, rfl⟩
/-- A result's cell, while a call of the reader's is under way. -/
structure Ry (rb : Nat) (vs : List Value) (n : Nat) (W : World) : Prop where
  c : ∀ o, W.cell? ⟨n, o, none⟩ = vs[o]?
  f : ∀ o, W.frozen? ⟨n, o, none⟩ = false
  z : n < W.heap.size
  n : n ≠ rb
theorem Ry.Q {rb n : Nat} {vs : List Value} {W W' : World} (h : Ry rb vs n W) (q : Qr rb W W') : Ry rb vs n W' :=
  ⟨fun o => (World.cell?_of_block (q.block _ h.z h.n)).trans (h.c o), fun o => (World.frozen?_of_block (q.block _ h.z h.n)).trans (h.f o), Nat.lt_of_lt_of_le h.z q.size, h.n⟩
theorem Ry.G {rb n : Nat} {vs : List Value} {W W' : World} (h : Ry rb vs n W) (g : G W W') : Ry rb vs n W' := h.Q (Qr.of g)
theorem Ry.new {rb : Nat} {w : World} (h : rb < w.heap.size) (vs : List Value) (t : Nat) : Ry rb vs w.heap.size (w.alloc (.cells vs.toArray t)) := ⟨fun o => by simp, fun o => by simp, by simp, by omega⟩
theorem Rd.many {rb g : Nat} {ts : List Tok} {i : Nat} {b : Nat} (n1 : b ≠ rb) (n2 : b ≠ g) (vs : List Value) : ∀ (o : Nat) (W : World), Rd rb g ts i W → Rd rb g ts i (W.setCells b o vs) := by
  induction vs with
  | nil => exact fun o W h => h
  | cons v vs ih => exact fun o W h => ih (o + 1) _ (h.set o v n1 n2)
set_option maxRecDepth 100000 in
set_option maxHeartbeats 1000000 in
theorem num_yes {rb g : Nat} {ts : List Tok} {i : Nat} {W : World} (h : Rd rb g ts i W) {x : Tok} (hx : ts[i]? = some x) (hn : NumT x) (hN : decN x.t.data.toList ≤ 9223372036854775807) (hl : i + 1 < ts.length) : Calls Tryz.prog 86 #[ptr rb, .int .u64 0, .int .u64 9223372036854775807] W fun e W' => e = .returned (.int .i64 (decN x.t.data.toList : Nat)) ∧ Rd rb g ts (i + 1) W' ∧ Qr rb W W' := by
  have HR := xh h
  have HX := xh hx
  have HS := xh (sn_yes h hx hn 0 9223372036854775807)
  have HW := xh (whole_any x.t hn.d hn.z (by have := hn.s; omega) (by have := hn.n; omega))
  have hw := w64 (decN x.t.data.toList) hN
  rw [decide_eq_true hN, decide_eq_true (Nat.zero_le _)] at HS
  generalize decN x.t.data.toList = N at HW hw ⊢
  have hfe : ∀ w : World, (Instr.field 60 (.agg #[I x.k, .string x.t, I x.p]) 1).run Tryz.prog w = .ok (.string x.t) w := fun _ => by kernel_rfl
  clear h hx hn hN
  go_enter Tryz.func86, Tryz.ntmps86
  go_wp2_with (first | (go_at_call 109; refine Hid.out ?_) | fail)
  unfold Hid
  refine HS.out.mono ?_
  rintro e w1 ⟨rfl, hg⟩
  have HR1 := xh (HR.out.G hg)
  have HQ1 : Hid (Qr rb W w1) := Qr.of hg
  clear hg HS HR
  go_wp2_with (first | (go_at_call 32; refine Hid.out ?_) | fail)
  unfold Hid
  refine (must_yes _).mono ?_
  rintro e ww ⟨rfl, rfl⟩
  go_wp2_with (first | (go_at_call 65; refine Hid.out ?_) | fail)
  unfold Hid
  refine (pass_any HR1.out HX.out hl).mono ?_
  rintro e w3 ⟨rfl, hrd, hq⟩
  have HR3 := xh hrd
  have HQ3 := xh (HQ1.out.trans hq)
  clear hrd hq HR1 HQ1
  simp only [tkA]
  go_wp2_with (first | (go_at_call 101; refine Hid.out ?_) | fail)
  unfold Hid
  refine (HW.out _).mono ?_
  rintro e w4 ⟨rfl, hg⟩
  have HR4 := xh (HR3.out.G hg)
  have HQ4 := xh (HQ3.out.trans (Qr.of hg))
  clear hg HW HR3 HQ3
  go_wp2
  go_ret
  exact ⟨by first | rfl | (rw [hw]; rfl), HR4.out, HQ4.out⟩
set_option maxRecDepth 100000 in
set_option maxHeartbeats 1000000 in
theorem num_no {rb g : Nat} {ts : List Tok} {i : Nat} {W : World} (h : Rd rb g ts i W) {x : Tok} (hx : ts[i]? = some x) (hk : ¬ x.k = 3) (hs : x.t.size ≤ 4096) (hE : Env W) : Calls Tryz.prog 86 #[ptr rb, .int .u64 0, .int .u64 9223372036854775807] W fun e W' => e = .panicked [{ v := .iface 55 (.agg #[I 101, I x.p]), recovered := false }] ∧ Qr rb W W' := by
  have HR := xh h
  have HX := xh hx
  have HS := xh (sn_no h hx hk hs hE 0 9223372036854775807)
  clear h hx hk hs hE
  go_enter Tryz.func86, Tryz.ntmps86
  go_wp2_with (first | (go_at_call 109; refine Hid.out ?_) | fail)
  unfold Hid
  refine HS.out.mono ?_
  rintro e w1 ⟨rfl, hg⟩
  have HR1 := xh (HR.out.G hg)
  have HG1 := xh hg
  clear hg HS HR
  go_wp2_with (first | (go_at_call 32; refine Hid.out ?_) | fail)
  unfold Hid
  refine (must_no HR1.out HX.out).mono ?_
  rintro e w2 ⟨rfl, hg⟩
  have HG2 := xh (HG1.out.trans hg)
  clear hg
  go_wp2
  exact ⟨rfl, rfl, Qr.of HG2.out⟩
end
open Go.RowKit

theorem Rd.el {rb g : Nat} {ts : List Tok} {i : Nat} {W : World} (h : Rd rb g ts i W) {b : Nat} (n1 : b ≠ rb) (n2 : b ≠ g) (v0 v1 v2 v3 v4 v5 v6 v7 v8 v9 v10 : Value) : Rd rb g ts i (((((((((((W.setCell ⟨b, 0, none⟩ v0).setCell ⟨b, 1, none⟩ v1).setCell ⟨b, 2, none⟩ v2).setCell ⟨b, 3, none⟩ v3).setCell ⟨b, 4, none⟩ v4).setCell ⟨b, 5, none⟩ v5).setCell ⟨b, 6, none⟩ v6).setCell ⟨b, 7, none⟩ v7).setCell ⟨b, 8, none⟩ v8).setCell ⟨b, 9, none⟩ v9).setCell ⟨b, 10, none⟩ v10) :=
  (((((((((((h).set 0 v0 n1 n2).set 1 v1 n1 n2).set 2 v2 n1 n2).set 3 v3 n1 n2).set 4 v4 n1 n2).set 5 v5 n1 n2).set 6 v6 n1 n2).set 7 v7 n1 n2).set 8 v8 n1 n2).set 9 v9 n1 n2).set 10 v10 n1 n2
theorem Qr.el {rb : Nat} {w W : World} (h : Qr rb w W) {b : Nat} (hb : w.heap.size ≤ b) (v0 v1 v2 v3 v4 v5 v6 v7 v8 v9 v10 : Value) : Qr rb w (((((((((((W.setCell ⟨b, 0, none⟩ v0).setCell ⟨b, 1, none⟩ v1).setCell ⟨b, 2, none⟩ v2).setCell ⟨b, 3, none⟩ v3).setCell ⟨b, 4, none⟩ v4).setCell ⟨b, 5, none⟩ v5).setCell ⟨b, 6, none⟩ v6).setCell ⟨b, 7, none⟩ v7).setCell ⟨b, 8, none⟩ v8).setCell ⟨b, 9, none⟩ v9).setCell ⟨b, 10, none⟩ v10) :=
  (((((((((((h).set 0 v0 hb).set 1 v1 hb).set 2 v2 hb).set 3 v3 hb).set 4 v4 hb).set 5 v5 hb).set 6 v6 hb).set 7 v7 hb).set 8 v8 hb).set 9 v9 hb).set 10 v10 hb
theorem Rd.ni {rb g : Nat} {ts : List Tok} {i : Nat} {W : World} (h : Rd rb g ts i W) {b : Nat} (n1 : b ≠ rb) (n2 : b ≠ g) (v0 v1 v2 v3 v4 v5 v6 v7 v8 : Value) : Rd rb g ts i (((((((((W.setCell ⟨b, 0, none⟩ v0).setCell ⟨b, 1, none⟩ v1).setCell ⟨b, 2, none⟩ v2).setCell ⟨b, 3, none⟩ v3).setCell ⟨b, 4, none⟩ v4).setCell ⟨b, 5, none⟩ v5).setCell ⟨b, 6, none⟩ v6).setCell ⟨b, 7, none⟩ v7).setCell ⟨b, 8, none⟩ v8) :=
  (((((((((h).set 0 v0 n1 n2).set 1 v1 n1 n2).set 2 v2 n1 n2).set 3 v3 n1 n2).set 4 v4 n1 n2).set 5 v5 n1 n2).set 6 v6 n1 n2).set 7 v7 n1 n2).set 8 v8 n1 n2
theorem Qr.ni {rb : Nat} {w W : World} (h : Qr rb w W) {b : Nat} (hb : w.heap.size ≤ b) (v0 v1 v2 v3 v4 v5 v6 v7 v8 : Value) : Qr rb w (((((((((W.setCell ⟨b, 0, none⟩ v0).setCell ⟨b, 1, none⟩ v1).setCell ⟨b, 2, none⟩ v2).setCell ⟨b, 3, none⟩ v3).setCell ⟨b, 4, none⟩ v4).setCell ⟨b, 5, none⟩ v5).setCell ⟨b, 6, none⟩ v6).setCell ⟨b, 7, none⟩ v7).setCell ⟨b, 8, none⟩ v8) :=
  (((((((((h).set 0 v0 hb).set 1 v1 hb).set 2 v2 hb).set 3 v3 hb).set 4 v4 hb).set 5 v5 hb).set 6 v6 hb).set 7 v7 hb).set 8 v8 hb
set_option maxRecDepth 100000 in
set_option maxHeartbeats 1000000 in
theorem item_num {rb g : Nat} {ts : List Tok} {i j : Nat} {W : World} (h : Rd rb g ts i W) {w0 : World} (g0 : G w0 W) {k a b : Int} {x : Tok} (hx : ts[j]? = some x) (ha : seB x ⟨#[97, 115]⟩ = false) (HC : ∀ W, Rd rb g ts i W → G w0 W → Calls Tryz.prog 9 #[ptr rb] W fun e W' => e = .returned (litE k a b E0) ∧ Rd rb g ts j W' ∧ Qr rb W W') : Calls Tryz.prog 46 #[ptr rb] W fun e W' => e = .returned (.agg #[I 1, I 0, I k, I a, I b, .string E0, .string E0, .string E0, .bool false, .slice none 0 0, .string E0]) ∧ Rd rb g ts j W' ∧ Qr rb W W' := by
  have HX0 := xh (Ry.new h.Q0.1 [I 0, I 0, I 0, I 0, I 0, .string E0, .string E0, .string E0, .bool false, .slice none 0 0, .string E0] 128)
  have HGN := xh h.Q0.2
  have HR0 := xh (h.G ((G.refl W).alloc (.cells #[I 0, I 0, I 0, I 0, I 0, .string E0, .string E0, .string E0, .bool false, .slice none 0 0, .string E0] 128)))
  have HQ0 : Hid (Qr rb W (W.alloc (.cells #[I 0, I 0, I 0, I 0, I 0, .string E0, .string E0, .string E0, .bool false, .slice none 0 0, .string E0] 128))) := Qr.of ((G.refl W).alloc _)
  have HGA := xh (g0.trans ((G.refl W).alloc (.cells #[I 0, I 0, I 0, I 0, I 0, .string E0, .string E0, .string E0, .bool false, .slice none 0 0, .string E0] 128)))
  have HCC := xh HC
  have HXX := xh hx
  have HAS := xh ha
  clear h g0 HC hx ha
  go_enter Tryz.func46, Tryz.ntmps46
  go_wp2_with (first | (go_at_call 9; refine Hid.out ?_) | fail)
  unfold Hid
  generalize W.alloc (.cells #[I 0, I 0, I 0, I 0, I 0, .string E0, .string E0, .string E0, .bool false, .slice none 0 0, .string E0] 128) = wa at HX0 HR0 HQ0 HGA ⊢
  refine (HCC.out _ HR0.out HGA.out).mono ?_
  rintro e w1 ⟨rfl, hrd, hq⟩
  have HR1 := xh hrd
  have HX1 := xh (HX0.out.Q hq)
  have HQ1 := xh (HQ0.out.trans hq)
  clear hrd hq HR0 HX0 HQ0 HGA HCC
  go_wp2_with (first | (go_at_call 87; refine Hid.out ?_) | fail)
  unfold Hid
  refine (nb_no HR1.out HXX.out ⟨#[97, 115]⟩ HAS.out).mono ?_
  rintro e w2 ⟨rfl, hg⟩
  have HR2 := xh (HR1.out.G hg)
  have HX2 := xh (HX1.out.G hg)
  have HQ2 := xh (HQ1.out.trans (Qr.of hg))
  clear hg HR1 HX1 HQ1
  have hcr := HX2.out.c
  have hfr := HX2.out.f
  simp only [litE]
  go_wp2
  refine bodyPost_ret (v := .agg #[I 1, I 0, I k, I a, I b, .string E0, .string E0, .string E0, .bool false, .slice none 0 0, .string E0]) (by simp [results, Tryz.results46, go_sem, hcr]) rfl ⟨rfl, HR2.out.el HX2.out.n HGN.out _ _ _ _ _ _ _ _ _ _ _, HQ2.out.el (Nat.le_refl _) _ _ _ _ _ _ _ _ _ _ _⟩
theorem app_item (k a b : Int) (W : World) : ∃ g cap W3, (Builtin.append_ #[39, 39] 39 #[.slice none 0 0, .slice (some ⟨W.heap.size, 0, none⟩) 1 1]).run Tryz.prog (W.alloc (.cells #[I 1, I 0, I k, I a, I b, .string E0, .string E0, .string E0, .bool false, .slice none 0 0, .string E0] 128)) = .ok (.slice (some ⟨g, 0, none⟩) 1 cap) W3 ∧ G W W3 := by
  obtain ⟨i0, hi, hz0, hz1, hz2⟩ := info_parts (show (Tryz.prog.info? 128).map (fun i => (i.zero, i.size, i.bytes)) = some (some (.agg #[.int .i64 0, .int .i64 0, .int .i64 0, .int .i64 0, .int .i64 0, .string ByteArray.empty, .string ByteArray.empty, .string ByteArray.empty, .bool false, .slice none 0 0, .string ByteArray.empty]), 11, 136) from by kernel_rfl)
  have g3 : G W (W.alloc (.cells #[I 1, I 0, I k, I a, I b, .string E0, .string E0, .string E0, .bool false, .slice none 0 0, .string E0] 128)) := (G.refl W).alloc _
  have hmx : (1099511627776 : Nat) ≤ maxLen := of_decide_eq_true (by kernel_rfl)
  obtain ⟨v', W3, q1, q2, q3, -, -⟩ := run_append_own_at (P := Tryz.prog) (w := W.alloc (.cells #[I 1, I 0, I k, I a, I b, .string E0, .string E0, .string E0, .bool false, .slice none 0 0, .string E0] 128)) W.heap.size 39 39 128 i0 _ 11 136 Tryz.underlying39 hi hz0 hz1 hz2 rfl (by decide) (.slice none 0 0) 0 [] (World.ownsRow_nil _ _ _ _) ⟨W.heap.size, 0, none⟩ 1 1 [I 1, I 0, I k, I a, I b, .string E0, .string E0, .string E0, .bool false, .slice none 0 0, .string E0] rfl (fun j u hj => by
    have h1 : (W.alloc (.cells #[I 1, I 0, I k, I a, I b, .string E0, .string E0, .string E0, .bool false, .slice none 0 0, .string E0] 128)).cell? ⟨W.heap.size, j, none⟩ = ([I 1, I 0, I k, I a, I b, .string E0, .string E0, .string E0, .bool false, .slice none 0 0, .string E0] : List Value)[j]? := by simp
    rw [hj] at h1
    by_cases hj0 : j = 0
    · subst hj0; simpa [Addr.add] using h1
    · simpa [Addr.add, hj0] using h1) (by simp [Value.oneCell']) (by omega) (by omega) g3.size
  rcases q2.2 with ⟨-, hn⟩ | ⟨g, cap, cur, rfl, -⟩
  · simp at hn
  · exact ⟨g, cap, W3, q1, ⟨q3.os.trans g3.os, q3.tape.trans g3.tape, q3.output.trans g3.output, Nat.le_trans g3.size q3.size, fun k hk => by
      rw [q3.block k (Nat.lt_of_lt_of_le hk g3.size) (by simp [Value.ownBlock]), g3.block k hk]⟩⟩
set_option maxRecDepth 100000 in
set_option maxHeartbeats 1000000 in
theorem list_num {rb g : Nat} {ts : List Tok} {i j : Nat} {W : World} (h : Rd rb g ts i W) {w0 : World} (g0 : G w0 W) {k a b : Int} {y : Tok} (hy : ts[i]? = some y) (hn : NumT y) (hN : decN y.t.data.toList ≤ 9223372036854775807) {x : Tok} (hx : ts[j]? = some x) (hc : seB x ⟨#[44]⟩ = false) (_hr : w0.heap.size ≤ rb) (HI : ∀ W, Rd rb g ts i W → G w0 W → Calls Tryz.prog 46 #[ptr rb] W fun e W' => e = .returned (.agg #[I 1, I 0, I k, I a, I b, .string E0, .string E0, .string E0, .bool false, .slice none 0 0, .string E0]) ∧ Rd rb g ts j W' ∧ Qr rb W W') : Calls Tryz.prog 81 #[ptr rb, .slice none 0 0, .int .i64 12, .func (.func 82) #[] #[], .func (.func 46) #[] #[]] W fun e W' => (∃ gb cap, e = .returned (.slice (some ⟨gb, 0, none⟩) 1 cap)) ∧ Rd rb g ts j W' ∧ Qr rb W W' := by
  have HR := xh h
  have HA := xh (ax_num h hy hn hN)
  have HG0 := xh g0
  have HII := xh HI
  have HXX := xh hx
  have HCM := xh hc
  clear h g0 hy hn hN HI hx hc
  go_enter Tryz.func81, Tryz.ntmps81
  go_wp2_with fail
  go_loopw [1] (fun p W' => p = .slice none 0 0 ∧ W' = W) (fun _ _ => 0)
  case atStart => exact ⟨rfl, rfl⟩
  case round =>
    obtain ⟨rfl, hw⟩ := hrel
    subst hw
    go_wp2_with (first | (go_at_call 82; refine Hid.out ?_) | fail)
    unfold Hid
    refine HA.out.mono ?_
    rintro e w1 ⟨rfl, hg⟩
    have HR1 := xh (HR.out.G hg)
    have HG1 := xh (HG0.out.trans hg)
    have HQ1 : Hid (Qr rb wr w1) := Qr.of hg
    clear hg HA HR HG0
    go_wp2_with (first | (go_at_call 32; refine Hid.out ?_) | fail)
    unfold Hid
    refine (must_yes _).mono ?_
    rintro e ww ⟨rfl, rfl⟩
    go_wp2_with (first | (go_at_call 28; refine Hid.out ?_) | fail)
    unfold Hid
    refine (room_ok 0 12 (by decide) _).mono ?_
    rintro e ww2 ⟨rfl, rfl⟩
    go_wp2_with (first | (go_at_call 46; refine Hid.out ?_) | fail)
    unfold Hid
    refine (HII.out _ HR1.out HG1.out).mono ?_
    rintro e w3 ⟨rfl, hrd, hq⟩
    have HR3 := xh hrd
    have HQ3 := xh (HQ1.out.trans hq)
    clear hrd hq HR1 HQ1 HG1 HII
    obtain ⟨gb, cap, W4, r1, r2⟩ := app_item k a b w3
    have HAP := xh r1
    have HR4 := xh (HR3.out.G r2)
    have HQ4 := xh (HQ3.out.trans (Qr.of r2))
    have HTK := xh (took_no HR4.out HXX.out ⟨#[44]⟩ HCM.out)
    clear r1 r2 HR3 HQ3
    go_wp2_with (first | (at_builtin; refine wpList_append_run rfl _ _ 39 rfl _ _ rfl rfl HAP.out ?_) | (go_at_call 44; refine Hid.out ?_) | fail)
    unfold Hid
    refine HTK.out.mono ?_
    rintro e w5 ⟨rfl, hg⟩
    have HR5 := xh (HR4.out.G hg)
    have HQ5 := xh (HQ4.out.trans (Qr.of hg))
    clear hg HTK HR4 HQ4
    go_wp2
    go_ret
    exact ⟨⟨gb, cap, rfl⟩, HR5.out, HQ5.out⟩
end Go.Proofs.YthpflfkgbapbnaaGreatDoor
