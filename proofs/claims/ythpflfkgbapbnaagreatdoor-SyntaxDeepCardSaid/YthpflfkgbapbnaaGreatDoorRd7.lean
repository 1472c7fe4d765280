/- The reader: a number as a whole. -/
import Derived.Test.YthpflfkgbapbnaaGreatDoorRd1
import Derived.Test.YthpflfkgbapbnaaGreatDoorSx6
import Derived.Test.YthpflfkgbapbnaaGreatDoorBk1
import Derived.Test.YthpflfkgbapbnaaGreatDoorShX2
import Derived.Shelf.Pu.ErrVarParseUint
import Derived.Deep.MidRow
import Derived.Defers
import Derived.Recover
namespace Go.Proofs.YthpflfkgbapbnaaGreatDoor
section
section
section
section
section
open Go.RowKit

/-- An expression that is a literal. -/
def litE (k a b : Int) (t : ByteArray) : Value := .agg #[I 1, I 0, I k, I a, I b, .string t, .string E0, .string E0, .bool false, .slice none 0 0]
set_option maxRecDepth 100000 in
set_option maxHeartbeats 1000000 in
theorem lit_any (k a b : Int) (t : ByteArray) (W : World) : Calls Tryz.prog 100 #[V k a b t] W fun e W' => e = .returned (litE k a b t) ∧ G W W' := by
  go_enter Tryz.func100, Tryz.ntmps100
  go_wp2
  refine bodyPost_ret (v := litE k a b t) (by simp [results, Tryz.results100, go_sem, litE]) rfl ⟨rfl, ((G.refl W).alloc _).alloc _⟩
theorem whole_any (t : ByteArray) (hd : isDs t.data.toList) (h0 : 0 < t.size) (hs : t.size ≤ 140737488351232) (hN : decN t.data.toList ≤ 18446744073709551615) (W : World) : Calls Tryz.prog 101 #[.string t] W fun e W' => e = .returned (.int .u64 (decN t.data.toList : Nat)) ∧ G W W' := by
  have hne : t.data.toList ≠ [] := fun h => by
    have := congrArg List.length h
    rw [Array.length_toList, List.length_nil] at this
    have h1 : t.size = 0 := this
    omega
  have hp := pu_dec t.data.toList hd hne
  rw [if_pos hN] at hp
  have HP := xh (Any.strconv_ParseUint_10_at64_ok Tryz.laysParseUint t (by omega) _ hp W)
  clear hp hne hd h0 hN
  go_enter Tryz.func101, Tryz.ntmps101
  go_wp2_with (first | (go_at_call 58; refine Hid.out ?_) | fail)
  unfold Hid
  refine HP.out.mono ?_
  rintro e w1 ⟨rfl, hw⟩
  have HG : Hid (G W w1) := by
    rcases hw with rfl | rfl
    · exact G.refl _
    · exact ⟨rfl, rfl, rfl, by rw [Lib.bytesWorld_size]; omega, fun j hj => Lib.bytesWorld_at_old W 5 _ j hj⟩
  clear hw HP
  go_wp2
  go_ret
  exact ⟨rfl, HG.out⟩
theorem Rd.ten {rb g : Nat} {ts : List Tok} {i : Nat} {W : World} (h : Rd rb g ts i W) {b : Nat} (n1 : b ≠ rb) (n2 : b ≠ g) (v0 v1 v2 v3 v4 v5 v6 v7 v8 v9 : Value) : Rd rb g ts i ((((((((((W.setCell ⟨b, 0, none⟩ v0).setCell ⟨b, 1, none⟩ v1).setCell ⟨b, 2, none⟩ v2).setCell ⟨b, 3, none⟩ v3).setCell ⟨b, 4, none⟩ v4).setCell ⟨b, 5, none⟩ v5).setCell ⟨b, 6, none⟩ v6).setCell ⟨b, 7, none⟩ v7).setCell ⟨b, 8, none⟩ v8).setCell ⟨b, 9, none⟩ v9) :=
  ((((((((((h).set 0 v0 n1 n2).set 1 v1 n1 n2).set 2 v2 n1 n2).set 3 v3 n1 n2).set 4 v4 n1 n2).set 5 v5 n1 n2).set 6 v6 n1 n2).set 7 v7 n1 n2).set 8 v8 n1 n2).set 9 v9 n1 n2
theorem Qr.ten {rb : Nat} {w W : World} (h : Qr rb w W) {b : Nat} (hb : w.heap.size ≤ b) (v0 v1 v2 v3 v4 v5 v6 v7 v8 v9 : Value) : Qr rb w ((((((((((W.setCell ⟨b, 0, none⟩ v0).setCell ⟨b, 1, none⟩ v1).setCell ⟨b, 2, none⟩ v2).setCell ⟨b, 3, none⟩ v3).setCell ⟨b, 4, none⟩ v4).setCell ⟨b, 5, none⟩ v5).setCell ⟨b, 6, none⟩ v6).setCell ⟨b, 7, none⟩ v7).setCell ⟨b, 8, none⟩ v8).setCell ⟨b, 9, none⟩ v9) :=
  ((((((((((h).set 0 v0 hb).set 1 v1 hb).set 2 v2 hb).set 3 v3 hb).set 4 v4 hb).set 5 v5 hb).set 6 v6 hb).set 7 v7 hb).set 8 v8 hb).set 9 v9 hb
/-- The result's cell, while an expression is read. -/
structure Rx (rb : Nat) (w W : World) : Prop where
  q : Qr rb w W
  c : ∀ o, W.cell? ⟨w.heap.size, o, none⟩ = [I 0, I 0, I 0, I 0, I 0, .string E0, .string E0, .string E0, .bool false, .slice none 0 0][o]?
  f : ∀ o, W.frozen? ⟨w.heap.size, o, none⟩ = false
  z : w.heap.size < W.heap.size
  n : w.heap.size ≠ rb
theorem Rx.new {rb : Nat} {w : World} (h : rb < w.heap.size) : Rx rb w (w.alloc (.cells #[I 0, I 0, I 0, I 0, I 0, .string E0, .string E0, .string E0, .bool false, .slice none 0 0] 26)) := ⟨Qr.of ((G.refl w).alloc _), fun o => by simp, fun o => by simp, by simp, by omega⟩
theorem Rx.Q {rb : Nat} {w W W' : World} (h : Rx rb w W) (q : Qr rb W W') : Rx rb w W' :=
  ⟨h.q.trans q, fun o => (World.cell?_of_block (q.block _ h.z h.n)).trans (h.c o), fun o => (World.frozen?_of_block (q.block _ h.z h.n)).trans (h.f o), Nat.lt_of_lt_of_le h.z q.size, h.n⟩
theorem Rx.G {rb : Nat} {w W W' : World} (h : Rx rb w W) (g : G W W') : Rx rb w W' := h.Q (Qr.of g)
theorem Rd.Q0 {rb g : Nat} {ts : List Tok} {i : Nat} {w : World} (h : Rd rb g ts i w) : rb < w.heap.size ∧ w.heap.size ≠ g := ⟨blk_lt h.c, by have := h.gl; omega⟩
theorem wholeG (t : ByteArray) (hs : t.size ≤ 140737488351232) (W : World) (hE : Env W) : Calls Tryz.prog 101 #[.string t] W fun e W' => (∃ n : Int, e = .returned (.int .u64 n)) ∧ G W W' := by
  have HP : Hid (Calls Tryz.prog 58 #[.string t, .int .i64 10, .int .i64 64] W fun e W' => (∃ (n : Int) (v : Value), e = .returned (.tuple #[.int .u64 n, v])) ∧ G W W') := by
    cases hp : Lib.parseUintB 64 t.data.toList with
    | ok u =>
      refine (Any.strconv_ParseUint_10_at64_ok Tryz.laysParseUint t (by omega) u hp W).mono ?_
      rintro e w' ⟨he, hw⟩
      refine ⟨⟨_, _, he⟩, ?_⟩
      rcases hw with rfl | rfl
      · exact G.refl _
      · exact ⟨rfl, rfl, rfl, by rw [Lib.bytesWorld_size]; omega, fun j hj => Lib.bytesWorld_at_old W 5 _ j hj⟩
    | «syntax» =>
      obtain ⟨tp, p, hv⟩ := hE.s
      refine (Any.strconv_ParseUint_10_at64_syntax_var Tryz.laysParseUint t (by omega) hp tp p W hv).mono ?_
      rintro e w' ⟨N, he, _, _, hb⟩
      exact ⟨⟨_, _, he⟩, hb⟩
    | range =>
      obtain ⟨tp, p, hv⟩ := hE.r
      refine (Any.strconv_ParseUint_10_at64_range_var Tryz.laysParseUint t (by omega) hp tp p W hv).mono ?_
      rintro e w' ⟨N, he, _, _, hb⟩
      exact ⟨⟨_, _, he⟩, hb⟩
  clear hs hE
  go_enter Tryz.func101, Tryz.ntmps101
  go_wp2_with (first | (go_at_call 58; refine Hid.out ?_) | fail)
  unfold Hid
  refine HP.out.mono ?_
  rintro e w1 ⟨⟨n, v, rfl⟩, hg⟩
  have HG := xh hg
  clear hg HP
  go_wp2
  go_ret
  exact ⟨⟨n, rfl⟩, HG.out⟩
def numB (x : Tok) (lo hi : Nat) : Bool := (x.k == 3) && (decide (lo ≤ decN x.t.data.toList) && decide (decN x.t.data.toList ≤ hi))
/-- A number's token. -/
structure NumT (x : Tok) : Prop where
  k : x.k = 3
  d : isDs x.t.data.toList
  z : 0 < x.t.size
  s : x.t.size ≤ 4096
  n : decN x.t.data.toList ≤ 9223372036854775808
set_option maxRecDepth 100000 in
set_option maxHeartbeats 1000000 in
theorem sn_yes {rb g : Nat} {ts : List Tok} {i : Nat} {W : World} (h : Rd rb g ts i W) {x : Tok} (hx : ts[i]? = some x) (hn : NumT x) (lo hi : Nat) : Calls Tryz.prog 109 #[ptr rb, .int .u64 lo, .int .u64 hi] W fun e W' => e = .returned (.bool (decide (lo ≤ decN x.t.data.toList) && decide (decN x.t.data.toList ≤ hi))) ∧ G W W' := by
  have HR := xh h
  have HX := xh hx
  have HN := xh (next_any h hx)
  have HW := xh (whole_any x.t hn.d hn.z (by have := hn.s; omega) (by have := hn.n; omega))
  have HK := xh hn.k
  generalize decN x.t.data.toList = N at HW ⊢
  have hfd : ∀ w : World, (Instr.field 60 (.agg #[I x.k, .string x.t, I x.p]) 1).run Tryz.prog w = .ok (.string x.t) w := fun _ => by kernel_rfl
  clear h hx hn
  go_enter Tryz.func109, Tryz.ntmps109
  go_wp2_with (first | (go_at_call 16; refine Hid.out ?_) | fail)
  unfold Hid
  refine HN.out.mono ?_
  rintro e w1 ⟨rfl, hg⟩
  have HG1 := xh hg
  clear hg HN
  simp only [tkA]
  go_wp2_with (first | (go_at_call 101; refine Hid.out ?_) | fail)
  unfold Hid
  refine (HW.out _).mono ?_
  rintro e w2 ⟨rfl, hg⟩
  have HG2 := xh (HG1.out.trans hg)
  have HA := xh (atNum_any (HR.out.G HG2.out) HX.out)
  rw [HK.out] at HA
  clear hg HW HG1
  by_cases h1 : lo ≤ N
  · have h1I : (lo : Int) ≤ (N : Int) := by omega
    by_cases h2 : N ≤ hi
    · have h2I : (N : Int) ≤ (hi : Int) := by omega
      go_wp2_with (first | (go_at_call 125; refine HA.out.mono ?_; rintro e w3 ⟨rfl, hg3⟩) | fail)
      go_ret
      exact ⟨by simp [h1, h2], HG2.out.trans hg3⟩
    · have h2I : ¬ (N : Int) ≤ (hi : Int) := by omega
      go_wp2_with (first | (go_at_call 125; refine HA.out.mono ?_; rintro e w3 ⟨rfl, hg3⟩) | fail)
      go_ret
      exact ⟨by simp [h1, h2], HG2.out.trans hg3⟩
  · have h1I : ¬ (lo : Int) ≤ (N : Int) := by omega
    go_wp2_with (first | (go_at_call 125; refine HA.out.mono ?_; rintro e w3 ⟨rfl, hg3⟩) | fail)
    go_ret
    exact ⟨by simp [h1], HG2.out.trans hg3⟩
set_option maxRecDepth 100000 in
set_option maxHeartbeats 1000000 in
theorem sn_no {rb g : Nat} {ts : List Tok} {i : Nat} {W : World} (h : Rd rb g ts i W) {x : Tok} (hx : ts[i]? = some x) (hk : ¬ x.k = 3) (hs : x.t.size ≤ 4096) (hE : Env W) (lo hi : Nat) : Calls Tryz.prog 109 #[ptr rb, .int .u64 lo, .int .u64 hi] W fun e W' => e = .returned (.bool false) ∧ G W W' := by
  have HR := xh h
  have HX := xh hx
  have HN := xh (next_any h hx)
  have HE := xh hE
  have HW := xh (fun W h => wholeG x.t (by omega) W h)
  have hk3 : (x.k == 3) = false := beq_false_of_ne hk
  have hfd : ∀ w : World, (Instr.field 60 (.agg #[I x.k, .string x.t, I x.p]) 1).run Tryz.prog w = .ok (.string x.t) w := fun _ => by kernel_rfl
  clear h hx hE hs hk
  go_enter Tryz.func109, Tryz.ntmps109
  go_wp2_with (first | (go_at_call 16; refine Hid.out ?_) | fail)
  unfold Hid
  refine HN.out.mono ?_
  rintro e w1 ⟨rfl, hg⟩
  have HG1 := xh hg
  clear hg HN
  simp only [tkA]
  go_wp2_with (first | (go_at_call 101; refine Hid.out ?_) | fail)
  unfold Hid
  refine (HW.out _ (HE.out.G HG1.out)).mono ?_
  rintro e w2 ⟨⟨n, rfl⟩, hg⟩
  have HG2 := xh (HG1.out.trans hg)
  have HA := xh (atNum_any (HR.out.G HG2.out) HX.out)
  rw [hk3] at HA
  clear hg HW HG1
  go_wp2_with (first | (go_at_call 125; refine HA.out.mono ?_; rintro e w3 ⟨rfl, hg3⟩) | fail)
  go_ret
  exact ⟨rfl, HG2.out.trans hg3⟩
end
open Go.RowKit

/-- An imaginary number's token. -/
structure ImT (x : Tok) (ds : List UInt8) : Prop where
  k : x.k = 4
  t : x.t.data.toList = ds ++ [105]
  d : isDs ds
  z : ds ≠ []
  s : x.t.size ≤ 4096
  n : decN ds ≤ 33554432
theorem im_cut {x : Tok} {ds : List UInt8} (h : ImT x ds) : x.t.size = ds.length + 1 ∧ x.t.extract 0 (x.t.size - 1) = sU ds := by
  have h1 : x.t.size = ds.length + 1 := by
    have := congrArg List.length h.t
    rw [Array.length_toList, List.length_append] at this
    exact this
  refine ⟨h1, ?_⟩
  have := sU_ext x.t 0 (x.t.size - 1)
  rw [Nat.zero_add] at this
  rw [this, List.drop_zero, h.t, h1]
  simp
theorem w64 (N : Nat) (h : N ≤ 9223372036854775807) : IntKind.i64.wrap (N : Int) = N := by rw [IntKind.wrap_i64]; omega
theorem w64n (N : Nat) (h : N ≤ 9223372036854775808) : IntKind.i64.wrap (-(IntKind.i64.wrap (N : Int))) = -(N : Int) := by
  rw [IntKind.wrap_i64, IntKind.wrap_i64]; omega
set_option maxRecDepth 100000 in
set_option maxHeartbeats 1000000 in
theorem aa_num {rb g : Nat} {ts : List Tok} {i : Nat} {W : World} (h : Rd rb g ts i W) {x : Tok} (hx : ts[i]? = some x) (hn : NumT x) : Calls Tryz.prog 108 #[ptr rb] W fun e W' => e = .returned (.bool (decide (decN x.t.data.toList ≤ 9223372036854775807))) ∧ G W W' := by
  have HR := xh h
  have HX := xh hx
  have HNT := xh hn
  have HN := xh (next_any h hx)
  have HS := xh (fun W (h : Rd rb g ts i W) => sn_yes h hx hn 0 9223372036854775807)
  have HK := xh hn.k
  clear h hx hn
  go_enter Tryz.func108, Tryz.ntmps108
  go_wp2_with (first | (go_at_call 16; refine Hid.out ?_) | fail)
  unfold Hid
  refine HN.out.mono ?_
  rintro e w1 ⟨rfl, hg⟩
  have HG1 := xh hg
  clear hg HN
  simp only [tkA]
  rw [HK.out]
  have hfd : ∀ w : World, (Instr.field 60 (.agg #[I 3, .string x.t, I x.p]) 0).run Tryz.prog w = .ok (I 3) w := fun _ => by kernel_rfl
  go_wp2_with (first | (go_at_call 109; refine Hid.out ?_) | fail)
  unfold Hid
  refine (HS.out _ (HR.out.G HG1.out)).mono ?_
  rintro e w2 ⟨rfl, hg⟩
  have HG2 := xh (HG1.out.trans hg)
  clear hg HS
  go_wp2
  go_ret
  exact ⟨by simp, HG2.out⟩
set_option maxRecDepth 100000 in
set_option maxHeartbeats 1000000 in
theorem aa_im {rb g : Nat} {ts : List Tok} {i : Nat} {W : World} (h : Rd rb g ts i W) {x : Tok} (hx : ts[i]? = some x) (hk : x.k = 4) : Calls Tryz.prog 108 #[ptr rb] W fun e W' => e = .returned (.bool true) ∧ G W W' := by
  have HN := xh (next_any h hx)
  have HK := xh hk
  clear h hx hk
  go_enter Tryz.func108, Tryz.ntmps108
  go_wp2_with (first | (go_at_call 16; refine Hid.out ?_) | fail)
  unfold Hid
  refine HN.out.mono ?_
  rintro e w1 ⟨rfl, hg⟩
  have HG1 := xh hg
  clear hg HN
  simp only [tkA]
  rw [HK.out]
  have hfd : ∀ w : World, (Instr.field 60 (.agg #[I 4, .string x.t, I x.p]) 0).run Tryz.prog w = .ok (I 4) w := fun _ => by kernel_rfl
  go_wp2
  go_ret
  exact ⟨rfl, HG1.out⟩
set_option maxRecDepth 100000 in
set_option maxHeartbeats 1000000 in
theorem imag_any {rb g : Nat} {ts : List Tok} {i : Nat} {W : World} (h : Rd rb g ts i W) {x : Tok} (hx : ts[i]? = some x) {ds : List UInt8} (hm : ImT x ds) (hl : i + 1 < ts.length) : Calls Tryz.prog 102 #[ptr rb] W fun e W' => e = .returned (.int .i64 (decN ds : Nat)) ∧ Rd rb g ts (i + 1) W' ∧ Qr rb W W' := by
  have HP := xh (pass_any h hx hl)
  obtain ⟨hsz, hex⟩ := im_cut hm
  have HW := xh (whole_any (sU ds) (by rw [sU_list]; exact hm.d) (by have := List.length_pos_iff.2 hm.z; simp [sU, ByteArray.size]; exact this) (by have := hm.s; simp [sU, ByteArray.size]; omega) (by rw [sU_list]; have := hm.n; omega))
  rw [sU_list] at HW
  have hw := w64 (decN ds) (by have := hm.n; omega)
  have hzI : (1 : Int) ≤ (x.t.size : Int) := by omega
  have hs2 := hm.s
  generalize decN ds = N at HW hw ⊢
  have hfd : ∀ w : World, (Instr.field 60 (.agg #[I x.k, .string x.t, I x.p]) 1).run Tryz.prog w = .ok (.string x.t) w := fun _ => by kernel_rfl
  clear h hx hm hsz
  go_enter Tryz.func102, Tryz.ntmps102
  go_wp2_with (first | (go_at_call 65; refine Hid.out ?_) | fail)
  unfold Hid
  refine HP.out.mono ?_
  rintro e w1 ⟨rfl, hrd, hq⟩
  have HRD := xh hrd
  have HQ := xh hq
  clear hrd hq HP
  simp only [tkA]
  go_wp2_with (first | (go_at_call 101; refine Hid.out ?_) | fail)
  unfold Hid
  refine (HW.out _).mono ?_
  rintro e w2 ⟨rfl, hg⟩
  have HR2 := xh (HRD.out.G hg)
  have HQ2 := xh (HQ.out.trans (Qr.of hg))
  clear hg HW HRD HQ
  go_wp2
  go_ret
  exact ⟨by first | rfl | (rw [hw]; rfl), HR2.out, HQ2.out⟩
set_option maxRecDepth 100000 in
set_option maxHeartbeats 1000000 in
theorem atom_num {rb g : Nat} {ts : List Tok} {i : Nat} {W : World} (h : Rd rb g ts i W) {x : Tok} (hx : ts[i]? = some x) (hn : NumT x) (hN : decN x.t.data.toList ≤ 9223372036854775807) (hl : i + 1 < ts.length) : Calls Tryz.prog 99 #[ptr rb] W fun e W' => e = .returned (litE 2 (decN x.t.data.toList : Nat) 0 E0) ∧ Rd rb g ts (i + 1) W' ∧ Qr rb W W' := by
  have HX0 := xh (Rx.new (w := W) h.Q0.1)
  have HGN := xh h.Q0.2
  have HR0 := xh (h.G ((G.refl W).alloc (.cells #[I 0, I 0, I 0, I 0, I 0, .string E0, .string E0, .string E0, .bool false, .slice none 0 0] 26)))
  have HXX := xh hx
  have HK := xh hn.k
  have HAA := xh (fun W (h : Rd rb g ts i W) => aa_num h hx hn)
  rw [decide_eq_true hN] at HAA
  have HW := xh (whole_any x.t hn.d hn.z (by have := hn.s; omega) (by have := hn.n; omega))
  have hw := w64 (decN x.t.data.toList) hN
  generalize decN x.t.data.toList = N at HW hw ⊢
  clear h hx hn hN
  go_enter Tryz.func99, Tryz.ntmps99
  go_wp2_with (first | (go_at_call 108; refine Hid.out ?_) | fail)
  unfold Hid
  generalize W.alloc (.cells #[I 0, I 0, I 0, I 0, I 0, .string E0, .string E0, .string E0, .bool false, .slice none 0 0] 26) = wa at HX0 HR0 ⊢
  refine (HAA.out _ HR0.out).mono ?_
  rintro e w1 ⟨rfl, hg⟩
  have HR1 := xh (HR0.out.G hg)
  have HX1 := xh (HX0.out.G hg)
  clear hg HAA HR0 HX0
  go_wp2_with (first | (go_at_call 32; refine Hid.out ?_) | fail)
  unfold Hid
  refine (must_yes _).mono ?_
  rintro e w1' ⟨rfl, rfl⟩
  go_wp2_with (first | (go_at_call 16; refine Hid.out ?_) | fail)
  unfold Hid
  refine (next_any HR1.out HXX.out).mono ?_
  rintro e w2 ⟨rfl, hg⟩
  have HR2 := xh (HR1.out.G hg)
  have HX2 := xh (HX1.out.G hg)
  clear hg HR1 HX1
  simp only [tkA]
  rw [HK.out]
  have hfd : ∀ w : World, (Instr.field 60 (.agg #[I 3, .string x.t, I x.p]) 0).run Tryz.prog w = .ok (I 3) w := fun _ => by kernel_rfl
  have hfe : ∀ w : World, (Instr.field 60 (.agg #[I 3, .string x.t, I x.p]) 1).run Tryz.prog w = .ok (.string x.t) w := fun _ => by kernel_rfl
  go_wp2_with (first | (go_at_call 65; refine Hid.out ?_) | fail)
  unfold Hid
  refine (pass_any HR2.out HXX.out hl).mono ?_
  rintro e w3 ⟨rfl, hrd, hq⟩
  have HR3 := xh hrd
  have HX4 := xh (HX2.out.Q hq)
  clear hrd hq HR2 HX2
  simp only [tkA]
  rw [HK.out]
  go_wp2_with (first | (go_at_call 101; refine Hid.out ?_) | fail)
  unfold Hid
  refine (HW.out _).mono ?_
  rintro e w4 ⟨rfl, hg⟩
  have HR5 := xh (HR3.out.G hg)
  have HX5 := xh (HX4.out.G hg)
  clear hg HW HR3 HX4
  go_wp2_with (first | (go_at_call 100; refine Hid.out ?_) | fail)
  unfold Hid
  refine (lit_any _ _ _ _ _).mono ?_
  rintro e w5 ⟨rfl, hg⟩
  have HRE := xh (HR5.out.G hg)
  have HX3 := xh (HX5.out.G hg)
  clear hg HR5 HX5
  have hcr := HX3.out.c
  have hfr := HX3.out.f
  simp only [litE]
  go_wp2
  refine bodyPost_ret (v := litE 2 N 0 E0) (by simp [results, Tryz.results99, go_sem, hcr, litE]) rfl ⟨rfl, HRE.out.ten HX3.out.n HGN.out _ _ _ _ _ _ _ _ _ _, HX3.out.q.ten (Nat.le_refl _) _ _ _ _ _ _ _ _ _ _⟩
end
open Go.RowKit

theorem w64m (N : Nat) (h : N ≤ 9223372036854775808) : wrap64 (-(wrap64 (N : Int))) = -(N : Int) := by
  unfold wrap64; omega
theorem seB_num {x : Tok} (h : x.k = 3 ∨ x.k = 4 ∨ x.k = 7) (t : ByteArray) : seB x t = false := by
  unfold seB
  rcases h with h | h | h <;> rw [h] <;> rfl
set_option maxRecDepth 100000 in
set_option maxHeartbeats 1000000 in
theorem atom_im {rb g : Nat} {ts : List Tok} {i : Nat} {W : World} (h : Rd rb g ts i W) {x : Tok} (hx : ts[i]? = some x) {ds : List UInt8} (hm : ImT x ds) (hl : i + 1 < ts.length) : Calls Tryz.prog 99 #[ptr rb] W fun e W' => e = .returned (litE 3 0 (decN ds : Nat) E0) ∧ Rd rb g ts (i + 1) W' ∧ Qr rb W W' := by
  have HX0 := xh (Rx.new (w := W) h.Q0.1)
  have HGN := xh h.Q0.2
  have HR0 := xh (h.G ((G.refl W).alloc (.cells #[I 0, I 0, I 0, I 0, I 0, .string E0, .string E0, .string E0, .bool false, .slice none 0 0] 26)))
  have HXX := xh hx
  have HK := xh hm.k
  have HIM := xh (fun W (h : Rd rb g ts i W) => imag_any h hx hm hl)
  generalize decN ds = N at HIM ⊢
  clear h hx hm
  go_enter Tryz.func99, Tryz.ntmps99
  go_wp2_with (first | (go_at_call 108; refine Hid.out ?_) | fail)
  unfold Hid
  generalize W.alloc (.cells #[I 0, I 0, I 0, I 0, I 0, .string E0, .string E0, .string E0, .bool false, .slice none 0 0] 26) = wa at HX0 HR0 ⊢
  refine (aa_im HR0.out HXX.out HK.out).mono ?_
  rintro e w1 ⟨rfl, hg⟩
  have HR1 := xh (HR0.out.G hg)
  have HX1 := xh (HX0.out.G hg)
  clear hg HR0 HX0
  go_wp2_with (first | (go_at_call 32; refine Hid.out ?_) | fail)
  unfold Hid
  refine (must_yes _).mono ?_
  rintro e ww ⟨rfl, rfl⟩
  go_wp2_with (first | (go_at_call 16; refine Hid.out ?_) | fail)
  unfold Hid
  refine (next_any HR1.out HXX.out).mono ?_
  rintro e w2 ⟨rfl, hg⟩
  have HR2 := xh (HR1.out.G hg)
  have HX2 := xh (HX1.out.G hg)
  clear hg HR1 HX1
  simp only [tkA]
  rw [HK.out]
  have hfd : ∀ w : World, (Instr.field 60 (.agg #[I 4, .string x.t, I x.p]) 0).run Tryz.prog w = .ok (I 4) w := fun _ => by kernel_rfl
  go_wp2_with (first | (go_at_call 102; refine Hid.out ?_) | fail)
  unfold Hid
  refine (HIM.out _ HR2.out).mono ?_
  rintro e w3 ⟨rfl, hrd, hq⟩
  have HR3 := xh hrd
  have HX3 := xh (HX2.out.Q hq)
  clear hrd hq HR2 HX2
  go_wp2_with (first | (go_at_call 100; refine Hid.out ?_) | fail)
  unfold Hid
  refine (lit_any _ _ _ _ _).mono ?_
  rintro e w4 ⟨rfl, hg⟩
  have HR4 := xh (HR3.out.G hg)
  have HX4 := xh (HX3.out.G hg)
  clear hg HR3 HX3
  have hcr := HX4.out.c
  have hfr := HX4.out.f
  simp only [litE]
  go_wp2
  refine bodyPost_ret (v := litE 3 0 N E0) (by simp [results, Tryz.results99, go_sem, hcr, litE]) rfl ⟨rfl, HR4.out.ten HX4.out.n HGN.out _ _ _ _ _ _ _ _ _ _, HX4.out.q.ten (Nat.le_refl _) _ _ _ _ _ _ _ _ _ _⟩
set_option maxRecDepth 100000 in
set_option maxHeartbeats 1000000 in
theorem minus_plain {rb g : Nat} {ts : List Tok} {i : Nat} {W : World} (h : Rd rb g ts i W) {x : Tok} (hx : ts[i]? = some x) (hk : x.k = 3 ∨ x.k = 4) {k a b : Int} {j : Nat} (HA : ∀ W, Rd rb g ts i W → Calls Tryz.prog 99 #[ptr rb] W fun e W' => e = .returned (litE k a b E0) ∧ Rd rb g ts j W' ∧ Qr rb W W') : Calls Tryz.prog 63 #[ptr rb] W fun e W' => e = .returned (litE k a b E0) ∧ Rd rb g ts j W' ∧ Qr rb W W' := by
  have HX0 := xh (Rx.new (w := W) h.Q0.1)
  have HGN := xh h.Q0.2
  have HR0 := xh (h.G ((G.refl W).alloc (.cells #[I 0, I 0, I 0, I 0, I 0, .string E0, .string E0, .string E0, .bool false, .slice none 0 0] 26)))
  have HXX := xh hx
  have HSE := xh (seB_num (x := x) (by omega) ⟨#[45]⟩)
  have HAA := xh HA
  clear h hx hk HA
  go_enter Tryz.func63, Tryz.ntmps63
  go_wp2_with (first | (go_at_call 44; refine Hid.out ?_) | fail)
  unfold Hid
  generalize W.alloc (.cells #[I 0, I 0, I 0, I 0, I 0, .string E0, .string E0, .string E0, .bool false, .slice none 0 0] 26) = wa at HX0 HR0 ⊢
  refine (took_no HR0.out HXX.out ⟨#[45]⟩ HSE.out).mono ?_
  rintro e w1 ⟨rfl, hg⟩
  have HR1 := xh (HR0.out.G hg)
  have HX1 := xh (HX0.out.G hg)
  clear hg HR0 HX0
  go_wp2_with (first | (go_at_call 99; refine Hid.out ?_) | fail)
  unfold Hid
  refine (HAA.out _ HR1.out).mono ?_
  rintro e w2 ⟨rfl, hrd, hq⟩
  have HR2 := xh hrd
  have HX2 := xh (HX1.out.Q hq)
  clear hrd hq HR1 HX1
  have hcr := HX2.out.c
  have hfr := HX2.out.f
  simp only [litE]
  go_wp2
  refine bodyPost_ret (v := litE k a b E0) (by simp [results, Tryz.results63, go_sem, hcr, litE]) rfl ⟨rfl, HR2.out.ten HX2.out.n HGN.out _ _ _ _ _ _ _ _ _ _, HX2.out.q.ten (Nat.le_refl _) _ _ _ _ _ _ _ _ _ _⟩
set_option maxRecDepth 100000 in
set_option maxHeartbeats 1000000 in
theorem minus_num {rb g : Nat} {ts : List Tok} {i : Nat} {W : World} (h : Rd rb g ts i W) {x : Tok} {y : Tok} (hy : ts[i]? = some y) (hd : seB y ⟨#[45]⟩ = true) (hx : ts[i + 1]? = some x) (hn : NumT x) (hl : i + 2 < ts.length) : Calls Tryz.prog 63 #[ptr rb] W fun e W' => e = .returned (litE 2 (-(decN x.t.data.toList : Nat)) 0 E0) ∧ Rd rb g ts (i + 2) W' ∧ Qr rb W W' := by
  have HX0 := xh (Rx.new (w := W) h.Q0.1)
  have HGN := xh h.Q0.2
  have HR0 := xh (h.G ((G.refl W).alloc (.cells #[I 0, I 0, I 0, I 0, I 0, .string E0, .string E0, .string E0, .bool false, .slice none 0 0] 26)))
  have HXX := xh hx
  have HYY := xh hy
  have HD := xh hd
  have HK := xh hn.k
  have HW := xh (whole_any x.t hn.d hn.z (by have := hn.s; omega) (by have := hn.n; omega))
  have hw := w64n (decN x.t.data.toList) hn.n
  have hw2 := w64m (decN x.t.data.toList) hn.n
  generalize decN x.t.data.toList = N at HW hw hw2 ⊢
  clear h hx hn hy hd
  go_enter Tryz.func63, Tryz.ntmps63
  go_wp2_with (first | (go_at_call 44; refine Hid.out ?_) | fail)
  unfold Hid
  generalize W.alloc (.cells #[I 0, I 0, I 0, I 0, I 0, .string E0, .string E0, .string E0, .bool false, .slice none 0 0] 26) = wa at HX0 HR0 ⊢
  refine (took_yes HR0.out HYY.out ⟨#[45]⟩ HD.out (by omega)).mono ?_
  rintro e w1 ⟨rfl, hrd, hq⟩
  have HR1 := xh hrd
  have HX1 := xh (HX0.out.Q hq)
  clear hrd hq HR0 HX0
  go_wp2_with (first | (go_at_call 16; refine Hid.out ?_) | fail)
  unfold Hid
  refine (next_any HR1.out HXX.out).mono ?_
  rintro e w2 ⟨rfl, hg⟩
  have HR2 := xh (HR1.out.G hg)
  have HX2 := xh (HX1.out.G hg)
  clear hg HR1 HX1
  simp only [tkA]
  rw [HK.out]
  have hfd : ∀ w : World, (Instr.field 60 (.agg #[I 3, .string x.t, I x.p]) 0).run Tryz.prog w = .ok (I 3) w := fun _ => by kernel_rfl
  have hfe : ∀ w : World, (Instr.field 60 (.agg #[I 3, .string x.t, I x.p]) 1).run Tryz.prog w = .ok (.string x.t) w := fun _ => by kernel_rfl
  go_wp2_with (first | (go_at_call 65; refine Hid.out ?_) | fail)
  unfold Hid
  refine (pass_any HR2.out HXX.out hl).mono ?_
  rintro e w3 ⟨rfl, hrd, hq⟩
  have HR3 := xh hrd
  have HX3 := xh (HX2.out.Q hq)
  clear hrd hq HR2 HX2
  simp only [tkA]
  rw [HK.out]
  go_wp2_with (first | (go_at_call 101; refine Hid.out ?_) | fail)
  unfold Hid
  refine (HW.out _).mono ?_
  rintro e w4 ⟨rfl, hg⟩
  have HR4 := xh (HR3.out.G hg)
  have HX4 := xh (HX3.out.G hg)
  clear hg HR3 HX3
  go_wp2_with (first | (go_at_call 100; refine Hid.out ?_) | fail)
  unfold Hid
  refine (lit_any _ _ _ _ _).mono ?_
  rintro e w5 ⟨rfl, hg⟩
  have HR5 := xh (HR4.out.G hg)
  have HX5 := xh (HX4.out.G hg)
  clear hg HR4 HX4
  have hcr := HX5.out.c
  have hfr := HX5.out.f
  simp only [litE]
  go_wp2
  refine bodyPost_ret (v := litE 2 (-(N : Int)) 0 E0) (by simp [results, Tryz.results63, go_sem, hcr, litE]) rfl ⟨rfl, HR5.out.ten HX5.out.n HGN.out _ _ _ _ _ _ _ _ _ _, HX5.out.q.ten (Nat.le_refl _) _ _ _ _ _ _ _ _ _ _⟩
set_option maxRecDepth 100000 in
set_option maxHeartbeats 1000000 in
theorem minus_im {rb g : Nat} {ts : List Tok} {i : Nat} {W : World} (h : Rd rb g ts i W) {x : Tok} {y : Tok} (hy : ts[i]? = some y) (hd : seB y ⟨#[45]⟩ = true) (hx : ts[i + 1]? = some x) {ds : List UInt8} (hm : ImT x ds) (hl : i + 2 < ts.length) : Calls Tryz.prog 63 #[ptr rb] W fun e W' => e = .returned (litE 3 0 (-(decN ds : Nat)) E0) ∧ Rd rb g ts (i + 2) W' ∧ Qr rb W W' := by
  have HX0 := xh (Rx.new (w := W) h.Q0.1)
  have HGN := xh h.Q0.2
  have HR0 := xh (h.G ((G.refl W).alloc (.cells #[I 0, I 0, I 0, I 0, I 0, .string E0, .string E0, .string E0, .bool false, .slice none 0 0] 26)))
  have HXX := xh hx
  have HYY := xh hy
  have HD := xh hd
  have HK := xh hm.k
  have HIM := xh (fun W (h : Rd rb g ts (i + 1) W) => imag_any h hx hm hl)
  have hw : IntKind.i64.wrap (-(decN ds : Nat) : Int) = -(decN ds : Nat) := by have := hm.n; rw [IntKind.wrap_i64]; omega
  generalize decN ds = N at HIM hw ⊢
  clear h hx hm hy hd
  go_enter Tryz.func63, Tryz.ntmps63
  go_wp2_with (first | (go_at_call 44; refine Hid.out ?_) | fail)
  unfold Hid
  generalize W.alloc (.cells #[I 0, I 0, I 0, I 0, I 0, .string E0, .string E0, .string E0, .bool false, .slice none 0 0] 26) = wa at HX0 HR0 ⊢
  refine (took_yes HR0.out HYY.out ⟨#[45]⟩ HD.out (by omega)).mono ?_
  rintro e w1 ⟨rfl, hrd, hq⟩
  have HR1 := xh hrd
  have HX1 := xh (HX0.out.Q hq)
  clear hrd hq HR0 HX0
  go_wp2_with (first | (go_at_call 16; refine Hid.out ?_) | fail)
  unfold Hid
  refine (next_any HR1.out HXX.out).mono ?_
  rintro e w2 ⟨rfl, hg⟩
  have HR2 := xh (HR1.out.G hg)
  have HX2 := xh (HX1.out.G hg)
  clear hg HR1 HX1
  simp only [tkA]
  rw [HK.out]
  have hfd : ∀ w : World, (Instr.field 60 (.agg #[I 4, .string x.t, I x.p]) 0).run Tryz.prog w = .ok (I 4) w := fun _ => by kernel_rfl
  go_wp2_with (first | (go_at_call 102; refine Hid.out ?_) | fail)
  unfold Hid
  refine (HIM.out _ HR2.out).mono ?_
  rintro e w3 ⟨rfl, hrd, hq⟩
  have HR3 := xh hrd
  have HX3 := xh (HX2.out.Q hq)
  clear hrd hq HR2 HX2
  go_wp2_with (first | (go_at_call 100; refine Hid.out ?_) | fail)
  unfold Hid
  refine (lit_any _ _ _ _ _).mono ?_
  rintro e w4 ⟨rfl, hg⟩
  have HR4 := xh (HR3.out.G hg)
  have HX4 := xh (HX3.out.G hg)
  clear hg HR3 HX3
  have hcr := HX4.out.c
  have hfr := HX4.out.f
  simp only [litE]
  go_wp2
  refine bodyPost_ret (v := litE 3 0 (-(N : Int)) E0) (by simp [results, Tryz.results63, go_sem, hcr, litE]) rfl ⟨rfl, HR4.out.ten HX4.out.n HGN.out _ _ _ _ _ _ _ _ _ _, HX4.out.q.ten (Nat.le_refl _) _ _ _ _ _ _ _ _ _ _⟩
/-- A number as an operand: its value, and how many tokens it has. -/
inductive OpT (ts : List Tok) (i : Nat) : Int → Int → Int → Nat → Prop where
  | num {x : Tok} : ts[i]? = some x → NumT x → decN x.t.data.toList ≤ 9223372036854775807 → OpT ts i 2 (decN x.t.data.toList : Nat) 0 1
  | neg {y x : Tok} : ts[i]? = some y → seB y ⟨#[45]⟩ = true → ts[i + 1]? = some x → NumT x → OpT ts i 2 (-(decN x.t.data.toList : Nat)) 0 2
  | img {x : Tok} {ds : List UInt8} : ts[i]? = some x → ImT x ds → OpT ts i 3 0 (decN ds : Nat) 1
  | ngi {y x : Tok} {ds : List UInt8} : ts[i]? = some y → seB y ⟨#[45]⟩ = true → ts[i + 1]? = some x → ImT x ds → OpT ts i 3 0 (-(decN ds : Nat)) 2
theorem minus_any {rb g : Nat} {ts : List Tok} {i : Nat} {W : World} (h : Rd rb g ts i W) {k a b : Int} {m : Nat} (ho : OpT ts i k a b m) (hl : i + m < ts.length) : Calls Tryz.prog 63 #[ptr rb] W fun e W' => e = .returned (litE k a b E0) ∧ Rd rb g ts (i + m) W' ∧ Qr rb W W' := by
  cases ho with
  | num hx hn hN => exact minus_plain h hx (.inl hn.k) (fun W h => atom_num h hx hn hN hl)
  | neg hy hd hx hn => exact minus_num h hy hd hx hn hl
  | img hx hm => exact minus_plain h hx (.inr hm.k) (fun W h => atom_im h hx hm hl)
  | ngi hy hd hx hm => exact minus_im h hy hd hx hm hl
end
open Go.RowKit

def opsL : List (List UInt8 × Int × Bool) := [([], 0, false), ([43], 6, false), ([45], 6, false), ([42], 7, false), ([47], 7, false), ([37], 7, false), ([61], 5, false), ([60, 62], 5, false), ([60], 5, false), ([60, 61], 5, false), ([62], 5, false), ([62, 61], 5, false), ([97, 110, 100], 3, false), ([111, 114], 1, false), ([120, 111, 114], 2, false), ([115, 116, 97, 114, 116, 115], 5, true), ([], 0, false), ([101, 110, 100, 115], 5, true), ([99, 111, 110, 116, 97, 105, 110, 115], 5, false)]
def opsA : Array Value := #[.string ⟨#[]⟩, I 0, .bool false, .string ⟨#[43]⟩, I 6, .bool false, .string ⟨#[45]⟩, I 6, .bool false, .string ⟨#[42]⟩, I 7, .bool false, .string ⟨#[47]⟩, I 7, .bool false, .string ⟨#[37]⟩, I 7, .bool false, .string ⟨#[61]⟩, I 5, .bool false, .string ⟨#[60, 62]⟩, I 5, .bool false, .string ⟨#[60]⟩, I 5, .bool false, .string ⟨#[60, 61]⟩, I 5, .bool false, .string ⟨#[62]⟩, I 5, .bool false, .string ⟨#[62, 61]⟩, I 5, .bool false, .string ⟨#[97, 110, 100]⟩, I 3, .bool false, .string ⟨#[111, 114]⟩, I 1, .bool false, .string ⟨#[120, 111, 114]⟩, I 2, .bool false, .string ⟨#[115, 116, 97, 114, 116, 115]⟩, I 5, .bool true, .string ⟨#[]⟩, I 0, .bool false, .string ⟨#[101, 110, 100, 115]⟩, I 5, .bool true, .string ⟨#[99, 111, 110, 116, 97, 105, 110, 115]⟩, I 5, .bool false]
/-- The table of operators. -/
def OpV (w : World) : Prop := w.var? Tryz.prog "trellis/syntax.operators" = some opsA
theorem OpV.at {w W : World} (h : OpV w) (g : G w W) : W.rangeAt 2 0 opsA.toList := fun j v hv => by
  have h1 := World.var?_cell (show Tryz.prog.globalNamed "trellis/syntax.operators" = some 2 by kernel_rfl) h j
  have h2 : w.cell? ⟨2, j, none⟩ = some v := by
    rw [h1, ← Array.getElem?_toList]; exact hv
  rw [Nat.zero_add]
  exact (g.cell (cell_lt h2)).trans h2
set_option maxRecDepth 100000 in
theorem ix_op (k : Nat) (hk : k < 19) : ∃ t r b, opsL[k]? = some (t, r, b) ∧ ∀ w : World, (Instr.index 144 (.agg opsA) (.int .i64 (k : Int))).run Tryz.prog w = .ok (.agg #[.string (sU t), I r, .bool b]) w := by
  have hc : k = 0 ∨ k = 1 ∨ k = 2 ∨ k = 3 ∨ k = 4 ∨ k = 5 ∨ k = 6 ∨ k = 7 ∨ k = 8 ∨ k = 9 ∨ k = 10 ∨ k = 11 ∨ k = 12 ∨ k = 13 ∨ k = 14 ∨ k = 15 ∨ k = 16 ∨ k = 17 ∨ k = 18 := by omega
  rcases hc with rfl | rfl | rfl | rfl | rfl | rfl | rfl | rfl | rfl | rfl | rfl | rfl | rfl | rfl | rfl | rfl | rfl | rfl | rfl <;> exact ⟨_, _, _, rfl, fun _ => by kernel_rfl⟩
/-- No operator of that rank. -/
def noOp (x : Tok) (rank : Int) : Prop := ∀ (k : Nat) (t : List UInt8) (r : Int) (b : Bool), opsL[k]? = some (t, r, b) → r = rank → seB x (sU t) = false
set_option maxRecDepth 100000 in
set_option maxHeartbeats 1000000 in
theorem op_none {w0 : World} (hO : OpV w0) {rb g : Nat} {ts : List Tok} {i : Nat} {W : World} (h : Rd rb g ts i W) (g0 : G w0 W) {x : Tok} (hx : ts[i]? = some x) (rank : Int) (hn : noOp x rank) : Calls Tryz.prog 64 #[ptr rb, .int .i64 rank] W fun e W' => e = .returned (.int .i64 0) ∧ G W W' := by
  have hr := hO.at g0
  have HR := xh h
  have HX := xh hx
  have HN := xh hn
  have hi : (Tryz.prog.info? 144).map (·.size) = some opsA.toList.length := by kernel_rfl
  clear hO h g0 hx hn
  go_enter Tryz.func64, Tryz.ntmps64
  go_wp2_with (first | (refine wpList_load_mid rfl 144 _ rfl 2 0 rfl opsA.toList _ hr Tryz.underlying144 rfl hi ?_) | fail)
  rw [Array.toArray_toList]
  have HIX := xh ix_op
  generalize opsA = OA at HIX ⊢
  clear hr hi
  go_loopw [8] (fun p W' => ∃ k : Nat, k ≤ 19 ∧ p = .int .i64 (k : Int) ∧ G W W') (fun p _ => 19 - (RowKit.intOf p).toNat)
  case atStart => exact ⟨0, by omega, rfl, G.refl _⟩
  case round =>
    obtain ⟨k, hk, rfl, hg⟩ := hrel
    have HG := xh hg
    clear hg
    by_cases hlt : k < 19
    · have hltI : (k : Int) < 19 := by omega
      obtain ⟨t, r, b, hl, hix⟩ := HIX.out k hlt
      have HL := xh hl
      clear hl
      by_cases hrr : r = rank
      · have hrB : (r == rank) = true := by simp [hrr]
        have HS := xh (fun W' (h : Rd rb g ts i W') => sees_any h HX.out (sU t))
        rw [HN.out k t r b HL.out hrr] at HS
        have HGA := xh (HG.out.alloc (.cells #[.string (sU t), I r, .bool b] 143))
        subst hrr
        clear hrB
        go_wp2_with (first | (go_at_call 26; refine Hid.out ?_) | fail)
        unfold Hid
        refine (HS.out _ (HR.out.G HGA.out)).mono ?_
        rintro e w2 ⟨rfl, hg⟩
        have HG2 := xh (HGA.out.trans hg)
        clear hg HS HGA
        go_wp2
        go_roundw
        case rel => exact ⟨k + 1, by omega, by go_num, HG2.out⟩
        case measure => simp [RowKit.intOf]; omega
      · have hrB : (r == rank) = false := beq_false_of_ne hrr
        have HGA := xh (HG.out.alloc (.cells #[.string (sU t), I r, .bool b] 143))
        go_wp2
        go_roundw
        case rel => exact ⟨k + 1, by omega, by go_num, HGA.out⟩
        case measure => simp [RowKit.intOf]; omega
    · have hltI : ¬ (k : Int) < 19 := by omega
      go_wp2
      go_ret
      exact ⟨rfl, HG.out⟩
end
open Go.RowKit

/-- A token behind which an expression does not go on. -/
structure StopT (x : Tok) : Prop where
  o : ∀ rank, noOp x rank
  s : seB x ⟨#[105, 115]⟩ = false
  n : seB x ⟨#[105, 110]⟩ = false
/-- What a variable of one's own holds. -/
structure Lf (rb lb : Nat) (vs : List Value) (W : World) : Prop where
  c : ∀ o, W.cell? ⟨lb, o, none⟩ = vs[o]?
  z : lb < W.heap.size
  n : lb ≠ rb
theorem Lf.Q {rb lb : Nat} {vs : List Value} {W W' : World} (h : Lf rb lb vs W) (q : Qr rb W W') : Lf rb lb vs W' :=
  ⟨fun o => (World.cell?_of_block (q.block _ h.z h.n)).trans (h.c o), Nat.lt_of_lt_of_le h.z q.size, h.n⟩
theorem Lf.G {rb lb : Nat} {vs : List Value} {W W' : World} (h : Lf rb lb vs W) (g : G W W') : Lf rb lb vs W' := h.Q (Qr.of g)
set_option maxRecDepth 100000 in
set_option maxHeartbeats 1000000 in
theorem rk8 {w0 : World} {rb g : Nat} {ts : List Tok} {i j : Nat} {W : World} (h : Rd rb g ts i W) (g0 : G w0 W) {k a b : Int} (HC : ∀ W, Rd rb g ts i W → G w0 W → Calls Tryz.prog 63 #[ptr rb] W fun e W' => e = .returned (litE k a b E0) ∧ Rd rb g ts j W' ∧ Qr rb W W') : Calls Tryz.prog 34 #[ptr rb, .int .i64 8] W fun e W' => e = .returned (litE k a b E0) ∧ Rd rb g ts j W' ∧ Qr rb W W' := by
  have HX0 := xh (Rx.new (w := W) h.Q0.1)
  have HGN := xh h.Q0.2
  have HR0 := xh (h.G ((G.refl W).alloc (.cells #[I 0, I 0, I 0, I 0, I 0, .string E0, .string E0, .string E0, .bool false, .slice none 0 0] 26)))
  have HGW := xh g0
  have HCC := xh HC
  have HGA := xh (g0.trans ((G.refl W).alloc (.cells #[I 0, I 0, I 0, I 0, I 0, .string E0, .string E0, .string E0, .bool false, .slice none 0 0] 26)))
  clear h g0 HC
  go_enter Tryz.func34, Tryz.ntmps34
  go_wp2_with (first | (go_at_call 63; refine Hid.out ?_) | fail)
  unfold Hid
  generalize W.alloc (.cells #[I 0, I 0, I 0, I 0, I 0, .string E0, .string E0, .string E0, .bool false, .slice none 0 0] 26) = wa at HX0 HR0 HGA ⊢
  refine (HCC.out _ HR0.out HGA.out).mono ?_
  rintro e w1 ⟨rfl, hrd, hq⟩
  have HR1 := xh hrd
  have HX1 := xh (HX0.out.Q hq)
  clear hrd hq HR0 HX0
  have hcr := HX1.out.c
  have hfr := HX1.out.f
  simp only [litE]
  go_wp2
  refine bodyPost_ret (v := litE k a b E0) (by simp [results, Tryz.results34, go_sem, hcr, litE]) rfl ⟨rfl, HR1.out.ten HX1.out.n HGN.out _ _ _ _ _ _ _ _ _ _, HX1.out.q.ten (Nat.le_refl _) _ _ _ _ _ _ _ _ _ _⟩
set_option maxRecDepth 100000 in
set_option maxHeartbeats 1000000 in
theorem rk5 {w0 : World} {rb g : Nat} {ts : List Tok} {i j : Nat} {W : World} (h : Rd rb g ts i W) (g0 : G w0 W) {k a b : Int} (HC : ∀ W, Rd rb g ts i W → G w0 W → Calls Tryz.prog 62 #[ptr rb] W fun e W' => e = .returned (litE k a b E0) ∧ Rd rb g ts j W' ∧ Qr rb W W') : Calls Tryz.prog 34 #[ptr rb, .int .i64 5] W fun e W' => e = .returned (litE k a b E0) ∧ Rd rb g ts j W' ∧ Qr rb W W' := by
  have HX0 := xh (Rx.new (w := W) h.Q0.1)
  have HGN := xh h.Q0.2
  have HR0 := xh (h.G ((G.refl W).alloc (.cells #[I 0, I 0, I 0, I 0, I 0, .string E0, .string E0, .string E0, .bool false, .slice none 0 0] 26)))
  have HGW := xh g0
  have HCC := xh HC
  have HGA := xh (g0.trans ((G.refl W).alloc (.cells #[I 0, I 0, I 0, I 0, I 0, .string E0, .string E0, .string E0, .bool false, .slice none 0 0] 26)))
  clear h g0 HC
  go_enter Tryz.func34, Tryz.ntmps34
  go_wp2_with (first | (go_at_call 62; refine Hid.out ?_) | fail)
  unfold Hid
  generalize W.alloc (.cells #[I 0, I 0, I 0, I 0, I 0, .string E0, .string E0, .string E0, .bool false, .slice none 0 0] 26) = wa at HX0 HR0 HGA ⊢
  refine (HCC.out _ HR0.out HGA.out).mono ?_
  rintro e w1 ⟨rfl, hrd, hq⟩
  have HR1 := xh hrd
  have HX1 := xh (HX0.out.Q hq)
  clear hrd hq HR0 HX0
  have hcr := HX1.out.c
  have hfr := HX1.out.f
  simp only [litE]
  go_wp2
  refine bodyPost_ret (v := litE k a b E0) (by simp [results, Tryz.results34, go_sem, hcr, litE]) rfl ⟨rfl, HR1.out.ten HX1.out.n HGN.out _ _ _ _ _ _ _ _ _ _, HX1.out.q.ten (Nat.le_refl _) _ _ _ _ _ _ _ _ _ _⟩
set_option maxRecDepth 100000 in
set_option maxHeartbeats 1000000 in
theorem rk4 {w0 : World} {rb g : Nat} {ts : List Tok} {i j : Nat} {W : World} (h : Rd rb g ts i W) (g0 : G w0 W) {k a b : Int} (HC : ∀ W, Rd rb g ts i W → G w0 W → Calls Tryz.prog 61 #[ptr rb] W fun e W' => e = .returned (litE k a b E0) ∧ Rd rb g ts j W' ∧ Qr rb W W') : Calls Tryz.prog 34 #[ptr rb, .int .i64 4] W fun e W' => e = .returned (litE k a b E0) ∧ Rd rb g ts j W' ∧ Qr rb W W' := by
  have HX0 := xh (Rx.new (w := W) h.Q0.1)
  have HGN := xh h.Q0.2
  have HR0 := xh (h.G ((G.refl W).alloc (.cells #[I 0, I 0, I 0, I 0, I 0, .string E0, .string E0, .string E0, .bool false, .slice none 0 0] 26)))
  have HGW := xh g0
  have HCC := xh HC
  have HGA := xh (g0.trans ((G.refl W).alloc (.cells #[I 0, I 0, I 0, I 0, I 0, .string E0, .string E0, .string E0, .bool false, .slice none 0 0] 26)))
  clear h g0 HC
  go_enter Tryz.func34, Tryz.ntmps34
  go_wp2_with (first | (go_at_call 61; refine Hid.out ?_) | fail)
  unfold Hid
  generalize W.alloc (.cells #[I 0, I 0, I 0, I 0, I 0, .string E0, .string E0, .string E0, .bool false, .slice none 0 0] 26) = wa at HX0 HR0 HGA ⊢
  refine (HCC.out _ HR0.out HGA.out).mono ?_
  rintro e w1 ⟨rfl, hrd, hq⟩
  have HR1 := xh hrd
  have HX1 := xh (HX0.out.Q hq)
  clear hrd hq HR0 HX0
  have hcr := HX1.out.c
  have hfr := HX1.out.f
  simp only [litE]
  go_wp2
  refine bodyPost_ret (v := litE k a b E0) (by simp [results, Tryz.results34, go_sem, hcr, litE]) rfl ⟨rfl, HR1.out.ten HX1.out.n HGN.out _ _ _ _ _ _ _ _ _ _, HX1.out.q.ten (Nat.le_refl _) _ _ _ _ _ _ _ _ _ _⟩
set_option maxRecDepth 100000 in
set_option maxHeartbeats 1000000 in
theorem ex1 {w0 : World} {rb g : Nat} {ts : List Tok} {i j : Nat} {W : World} (h : Rd rb g ts i W) (g0 : G w0 W) {k a b : Int} (HC : ∀ W, Rd rb g ts i W → G w0 W → Calls Tryz.prog 34 #[ptr rb, .int .i64 1] W fun e W' => e = .returned (litE k a b E0) ∧ Rd rb g ts j W' ∧ Qr rb W W') : Calls Tryz.prog 17 #[ptr rb] W fun e W' => e = .returned (litE k a b E0) ∧ Rd rb g ts j W' ∧ Qr rb W W' := by
  have HX0 := xh (Rx.new (w := W) h.Q0.1)
  have HGN := xh h.Q0.2
  have HR0 := xh (h.G ((G.refl W).alloc (.cells #[I 0, I 0, I 0, I 0, I 0, .string E0, .string E0, .string E0, .bool false, .slice none 0 0] 26)))
  have HGW := xh g0
  have HCC := xh HC
  have HGA := xh (g0.trans ((G.refl W).alloc (.cells #[I 0, I 0, I 0, I 0, I 0, .string E0, .string E0, .string E0, .bool false, .slice none 0 0] 26)))
  clear h g0 HC
  go_enter Tryz.func17, Tryz.ntmps17
  go_wp2_with (first | (go_at_call 34; refine Hid.out ?_) | fail)
  unfold Hid
  generalize W.alloc (.cells #[I 0, I 0, I 0, I 0, I 0, .string E0, .string E0, .string E0, .bool false, .slice none 0 0] 26) = wa at HX0 HR0 HGA ⊢
  refine (HCC.out _ HR0.out HGA.out).mono ?_
  rintro e w1 ⟨rfl, hrd, hq⟩
  have HR1 := xh hrd
  have HX1 := xh (HX0.out.Q hq)
  clear hrd hq HR0 HX0
  have hcr := HX1.out.c
  have hfr := HX1.out.f
  simp only [litE]
  go_wp2
  refine bodyPost_ret (v := litE k a b E0) (by simp [results, Tryz.results17, go_sem, hcr, litE]) rfl ⟨rfl, HR1.out.ten HX1.out.n HGN.out _ _ _ _ _ _ _ _ _ _, HX1.out.q.ten (Nat.le_refl _) _ _ _ _ _ _ _ _ _ _⟩
set_option maxRecDepth 100000 in
set_option maxHeartbeats 1000000 in
theorem not_any {w0 : World} {rb g : Nat} {ts : List Tok} {i j : Nat} {W : World} (h : Rd rb g ts i W) (g0 : G w0 W) {k a b : Int} {y : Tok} (hy : ts[i]? = some y) (hn : seB y ⟨#[110, 111, 116]⟩ = false) (HC : ∀ W, Rd rb g ts i W → G w0 W → Calls Tryz.prog 34 #[ptr rb, .int .i64 5] W fun e W' => e = .returned (litE k a b E0) ∧ Rd rb g ts j W' ∧ Qr rb W W') : Calls Tryz.prog 61 #[ptr rb] W fun e W' => e = .returned (litE k a b E0) ∧ Rd rb g ts j W' ∧ Qr rb W W' := by
  have HX0 := xh (Rx.new (w := W) h.Q0.1)
  have HGN := xh h.Q0.2
  have HR0 := xh (h.G ((G.refl W).alloc (.cells #[I 0, I 0, I 0, I 0, I 0, .string E0, .string E0, .string E0, .bool false, .slice none 0 0] 26)))
  have HGW := xh g0
  have HCC := xh HC
  have HGA := xh (g0.trans ((G.refl W).alloc (.cells #[I 0, I 0, I 0, I 0, I 0, .string E0, .string E0, .string E0, .bool false, .slice none 0 0] 26)))
  have HYY := xh hy
  have HNN := xh hn
  clear hy hn
  clear h g0 HC
  go_enter Tryz.func61, Tryz.ntmps61
  go_wp2_with (first | (go_at_call 44; refine Hid.out ?_) | fail)
  unfold Hid
  generalize W.alloc (.cells #[I 0, I 0, I 0, I 0, I 0, .string E0, .string E0, .string E0, .bool false, .slice none 0 0] 26) = wa at HX0 HR0 HGA ⊢
  refine (took_no HR0.out HYY.out ⟨#[110, 111, 116]⟩ HNN.out).mono ?_
  rintro e w1 ⟨rfl, hg⟩
  have HR1 := xh (HR0.out.G hg)
  have HX1 := xh (HX0.out.G hg)
  have HGB := xh (HGA.out.trans hg)
  clear hg HR0 HX0 HGA
  go_wp2_with (first | (go_at_call 34; refine Hid.out ?_) | fail)
  unfold Hid
  refine (HCC.out _ HR1.out HGB.out).mono ?_
  rintro e w2 ⟨rfl, hrd, hq⟩
  have HR2 := xh hrd
  have HX2 := xh (HX1.out.Q hq)
  clear hrd hq HR1 HX1
  have hcr := HX2.out.c
  have hfr := HX2.out.f
  simp only [litE]
  go_wp2
  refine bodyPost_ret (v := litE k a b E0) (by simp [results, Tryz.results61, go_sem, hcr, litE]) rfl ⟨rfl, HR2.out.ten HX2.out.n HGN.out _ _ _ _ _ _ _ _ _ _, HX2.out.q.ten (Nat.le_refl _) _ _ _ _ _ _ _ _ _ _⟩
set_option maxRecDepth 100000 in
set_option maxHeartbeats 1000000 in
theorem rk7 {w0 : World} (hO : OpV w0) {rb g : Nat} {ts : List Tok} {i j : Nat} {W : World} (h : Rd rb g ts i W) (g0 : G w0 W) (hr : w0.heap.size ≤ rb) {k a b : Int} {x : Tok} (hx : ts[j]? = some x) (hst : StopT x) (HC : ∀ W, Rd rb g ts i W → G w0 W → Calls Tryz.prog 34 #[ptr rb, .int .i64 8] W fun e W' => e = .returned (litE k a b E0) ∧ Rd rb g ts j W' ∧ Qr rb W W') : Calls Tryz.prog 34 #[ptr rb, .int .i64 7] W fun e W' => e = .returned (litE k a b E0) ∧ Rd rb g ts j W' ∧ Qr rb W W' := by
  have HX0 := xh (Rx.new (w := W) h.Q0.1)
  have HGN := xh h.Q0.2
  have HR0 := xh (h.G ((G.refl W).alloc (.cells #[I 0, I 0, I 0, I 0, I 0, .string E0, .string E0, .string E0, .bool false, .slice none 0 0] 26)))
  have HO := xh hO
  have HXX := xh hx
  have HST := xh hst
  have HCC := xh HC
  have HRB := xh hr
  have HGA := xh (g0.trans ((G.refl W).alloc (.cells #[I 0, I 0, I 0, I 0, I 0, .string E0, .string E0, .string E0, .bool false, .slice none 0 0] 26)))
  clear h g0 HC hO hx hst hr
  go_enter Tryz.func34, Tryz.ntmps34
  go_wp2_with (first | (go_at_call 34; refine Hid.out ?_) | fail)
  unfold Hid
  generalize W.alloc (.cells #[I 0, I 0, I 0, I 0, I 0, .string E0, .string E0, .string E0, .bool false, .slice none 0 0] 26) = wa at HX0 HR0 HGA ⊢
  refine (HCC.out _ HR0.out HGA.out).mono ?_
  rintro e w1 ⟨rfl, hrd, hq⟩
  have HG1 := xh ((hq.G HGA.out HRB.out).trans ((G.refl w1).alloc (.cells #[I 1, I 0, I k, I a, I b, .string E0, .string E0, .string E0, .bool false, .slice none 0 0] 26)))
  have HR1 := xh (hrd.G ((G.refl w1).alloc (.cells #[I 1, I 0, I k, I a, I b, .string E0, .string E0, .string E0, .bool false, .slice none 0 0] 26)))
  have HX1 := xh ((HX0.out.Q hq).G ((G.refl w1).alloc (.cells #[I 1, I 0, I k, I a, I b, .string E0, .string E0, .string E0, .bool false, .slice none 0 0] 26)))
  have HL1 : Hid (Lf rb w1.heap.size [I 1, I 0, I k, I a, I b, .string E0, .string E0, .string E0, .bool false, .slice none 0 0] (w1.alloc (.cells #[I 1, I 0, I k, I a, I b, .string E0, .string E0, .string E0, .bool false, .slice none 0 0] 26))) := ⟨fun o => by simp, by simp, by have := blk_lt hrd.c; omega⟩
  obtain ⟨lb, hlb⟩ : ∃ lb, lb = w1.heap.size := ⟨_, rfl⟩
  rw [← hlb] at HL1
  have HLB := xh hlb
  clear hrd hq HR0 HX0 HCC HGA hlb
  simp only [litE]
  go_wp2_with (first | (go_at_call 64; refine Hid.out ?_) | fail)
  unfold Hid
  rw [← HLB.out]
  generalize w1.alloc (.cells #[I 1, I 0, I k, I a, I b, .string E0, .string E0, .string E0, .bool false, .slice none 0 0] 26) = w2 at HG1 HR1 HX1 HL1 ⊢
  refine (op_none HO.out HR1.out HG1.out HXX.out 7 (HST.out.o 7)).mono ?_
  rintro e w3 ⟨rfl, hg⟩
  have HR3 := xh (HR1.out.G hg)
  have HX3 := xh (HX1.out.G hg)
  have HL3 := xh (HL1.out.G hg)
  clear hg HR1 HX1 HL1 HG1
  go_wp2_with fail
  go_loopw [6] (fun p W => p = .int .i64 0 ∧ W = w3) (fun _ _ => 0)
  case atStart => exact ⟨rfl, rfl⟩
  case round =>
    obtain ⟨rfl, hw3⟩ := hrel
    subst hw3
    have hcl := HL3.out.c
    have hcr := HX3.out.c
    have hfr := HX3.out.f
    skip
    go_wp2
    refine bodyPost_ret (v := litE k a b E0) (by simp [results, Tryz.results34, go_sem, hcr, litE]) rfl ⟨rfl, HR3.out.ten HX3.out.n HGN.out _ _ _ _ _ _ _ _ _ _, HX3.out.q.ten (Nat.le_refl _) _ _ _ _ _ _ _ _ _ _⟩
set_option maxRecDepth 100000 in
set_option maxHeartbeats 1000000 in
theorem rk6 {w0 : World} (hO : OpV w0) {rb g : Nat} {ts : List Tok} {i j : Nat} {W : World} (h : Rd rb g ts i W) (g0 : G w0 W) (hr : w0.heap.size ≤ rb) {k a b : Int} {x : Tok} (hx : ts[j]? = some x) (hst : StopT x) (HC : ∀ W, Rd rb g ts i W → G w0 W → Calls Tryz.prog 34 #[ptr rb, .int .i64 7] W fun e W' => e = .returned (litE k a b E0) ∧ Rd rb g ts j W' ∧ Qr rb W W') : Calls Tryz.prog 34 #[ptr rb, .int .i64 6] W fun e W' => e = .returned (litE k a b E0) ∧ Rd rb g ts j W' ∧ Qr rb W W' := by
  have HX0 := xh (Rx.new (w := W) h.Q0.1)
  have HGN := xh h.Q0.2
  have HR0 := xh (h.G ((G.refl W).alloc (.cells #[I 0, I 0, I 0, I 0, I 0, .string E0, .string E0, .string E0, .bool false, .slice none 0 0] 26)))
  have HO := xh hO
  have HXX := xh hx
  have HST := xh hst
  have HCC := xh HC
  have HRB := xh hr
  have HGA := xh (g0.trans ((G.refl W).alloc (.cells #[I 0, I 0, I 0, I 0, I 0, .string E0, .string E0, .string E0, .bool false, .slice none 0 0] 26)))
  clear h g0 HC hO hx hst hr
  go_enter Tryz.func34, Tryz.ntmps34
  go_wp2_with (first | (go_at_call 34; refine Hid.out ?_) | fail)
  unfold Hid
  generalize W.alloc (.cells #[I 0, I 0, I 0, I 0, I 0, .string E0, .string E0, .string E0, .bool false, .slice none 0 0] 26) = wa at HX0 HR0 HGA ⊢
  refine (HCC.out _ HR0.out HGA.out).mono ?_
  rintro e w1 ⟨rfl, hrd, hq⟩
  have HG1 := xh ((hq.G HGA.out HRB.out).trans ((G.refl w1).alloc (.cells #[I 1, I 0, I k, I a, I b, .string E0, .string E0, .string E0, .bool false, .slice none 0 0] 26)))
  have HR1 := xh (hrd.G ((G.refl w1).alloc (.cells #[I 1, I 0, I k, I a, I b, .string E0, .string E0, .string E0, .bool false, .slice none 0 0] 26)))
  have HX1 := xh ((HX0.out.Q hq).G ((G.refl w1).alloc (.cells #[I 1, I 0, I k, I a, I b, .string E0, .string E0, .string E0, .bool false, .slice none 0 0] 26)))
  have HL1 : Hid (Lf rb w1.heap.size [I 1, I 0, I k, I a, I b, .string E0, .string E0, .string E0, .bool false, .slice none 0 0] (w1.alloc (.cells #[I 1, I 0, I k, I a, I b, .string E0, .string E0, .string E0, .bool false, .slice none 0 0] 26))) := ⟨fun o => by simp, by simp, by have := blk_lt hrd.c; omega⟩
  obtain ⟨lb, hlb⟩ : ∃ lb, lb = w1.heap.size := ⟨_, rfl⟩
  rw [← hlb] at HL1
  have HLB := xh hlb
  clear hrd hq HR0 HX0 HCC HGA hlb
  simp only [litE]
  go_wp2_with (first | (go_at_call 64; refine Hid.out ?_) | fail)
  unfold Hid
  rw [← HLB.out]
  generalize w1.alloc (.cells #[I 1, I 0, I k, I a, I b, .string E0, .string E0, .string E0, .bool false, .slice none 0 0] 26) = w2 at HG1 HR1 HX1 HL1 ⊢
  refine (op_none HO.out HR1.out HG1.out HXX.out 6 (HST.out.o 6)).mono ?_
  rintro e w3 ⟨rfl, hg⟩
  have HR3 := xh (HR1.out.G hg)
  have HX3 := xh (HX1.out.G hg)
  have HL3 := xh (HL1.out.G hg)
  clear hg HR1 HX1 HL1 HG1
  go_wp2_with fail
  go_loopw [6] (fun p W => p = .int .i64 0 ∧ W = w3) (fun _ _ => 0)
  case atStart => exact ⟨rfl, rfl⟩
  case round =>
    obtain ⟨rfl, hw3⟩ := hrel
    subst hw3
    have hcl := HL3.out.c
    have hcr := HX3.out.c
    have hfr := HX3.out.f
    skip
    go_wp2
    refine bodyPost_ret (v := litE k a b E0) (by simp [results, Tryz.results34, go_sem, hcr, litE]) rfl ⟨rfl, HR3.out.ten HX3.out.n HGN.out _ _ _ _ _ _ _ _ _ _, HX3.out.q.ten (Nat.le_refl _) _ _ _ _ _ _ _ _ _ _⟩
set_option maxRecDepth 100000 in
set_option maxHeartbeats 1000000 in
theorem rk3 {w0 : World} (hO : OpV w0) {rb g : Nat} {ts : List Tok} {i j : Nat} {W : World} (h : Rd rb g ts i W) (g0 : G w0 W) (hr : w0.heap.size ≤ rb) {k a b : Int} {x : Tok} (hx : ts[j]? = some x) (hst : StopT x) (HC : ∀ W, Rd rb g ts i W → G w0 W → Calls Tryz.prog 34 #[ptr rb, .int .i64 4] W fun e W' => e = .returned (litE k a b E0) ∧ Rd rb g ts j W' ∧ Qr rb W W') : Calls Tryz.prog 34 #[ptr rb, .int .i64 3] W fun e W' => e = .returned (litE k a b E0) ∧ Rd rb g ts j W' ∧ Qr rb W W' := by
  have HX0 := xh (Rx.new (w := W) h.Q0.1)
  have HGN := xh h.Q0.2
  have HR0 := xh (h.G ((G.refl W).alloc (.cells #[I 0, I 0, I 0, I 0, I 0, .string E0, .string E0, .string E0, .bool false, .slice none 0 0] 26)))
  have HO := xh hO
  have HXX := xh hx
  have HST := xh hst
  have HCC := xh HC
  have HRB := xh hr
  have HGA := xh (g0.trans ((G.refl W).alloc (.cells #[I 0, I 0, I 0, I 0, I 0, .string E0, .string E0, .string E0, .bool false, .slice none 0 0] 26)))
  clear h g0 HC hO hx hst hr
  go_enter Tryz.func34, Tryz.ntmps34
  go_wp2_with (first | (go_at_call 34; refine Hid.out ?_) | fail)
  unfold Hid
  generalize W.alloc (.cells #[I 0, I 0, I 0, I 0, I 0, .string E0, .string E0, .string E0, .bool false, .slice none 0 0] 26) = wa at HX0 HR0 HGA ⊢
  refine (HCC.out _ HR0.out HGA.out).mono ?_
  rintro e w1 ⟨rfl, hrd, hq⟩
  have HG1 := xh ((hq.G HGA.out HRB.out).trans ((G.refl w1).alloc (.cells #[I 1, I 0, I k, I a, I b, .string E0, .string E0, .string E0, .bool false, .slice none 0 0] 26)))
  have HR1 := xh (hrd.G ((G.refl w1).alloc (.cells #[I 1, I 0, I k, I a, I b, .string E0, .string E0, .string E0, .bool false, .slice none 0 0] 26)))
  have HX1 := xh ((HX0.out.Q hq).G ((G.refl w1).alloc (.cells #[I 1, I 0, I k, I a, I b, .string E0, .string E0, .string E0, .bool false, .slice none 0 0] 26)))
  have HL1 : Hid (Lf rb w1.heap.size [I 1, I 0, I k, I a, I b, .string E0, .string E0, .string E0, .bool false, .slice none 0 0] (w1.alloc (.cells #[I 1, I 0, I k, I a, I b, .string E0, .string E0, .string E0, .bool false, .slice none 0 0] 26))) := ⟨fun o => by simp, by simp, by have := blk_lt hrd.c; omega⟩
  obtain ⟨lb, hlb⟩ : ∃ lb, lb = w1.heap.size := ⟨_, rfl⟩
  rw [← hlb] at HL1
  have HLB := xh hlb
  clear hrd hq HR0 HX0 HCC HGA hlb
  simp only [litE]
  go_wp2_with (first | (go_at_call 64; refine Hid.out ?_) | fail)
  unfold Hid
  rw [← HLB.out]
  generalize w1.alloc (.cells #[I 1, I 0, I k, I a, I b, .string E0, .string E0, .string E0, .bool false, .slice none 0 0] 26) = w2 at HG1 HR1 HX1 HL1 ⊢
  refine (op_none HO.out HR1.out HG1.out HXX.out 3 (HST.out.o 3)).mono ?_
  rintro e w3 ⟨rfl, hg⟩
  have HR3 := xh (HR1.out.G hg)
  have HX3 := xh (HX1.out.G hg)
  have HL3 := xh (HL1.out.G hg)
  clear hg HR1 HX1 HL1 HG1
  go_wp2_with fail
  go_loopw [6] (fun p W => p = .int .i64 0 ∧ W = w3) (fun _ _ => 0)
  case atStart => exact ⟨rfl, rfl⟩
  case round =>
    obtain ⟨rfl, hw3⟩ := hrel
    subst hw3
    have hcl := HL3.out.c
    have hcr := HX3.out.c
    have hfr := HX3.out.f
    skip
    go_wp2
    refine bodyPost_ret (v := litE k a b E0) (by simp [results, Tryz.results34, go_sem, hcr, litE]) rfl ⟨rfl, HR3.out.ten HX3.out.n HGN.out _ _ _ _ _ _ _ _ _ _, HX3.out.q.ten (Nat.le_refl _) _ _ _ _ _ _ _ _ _ _⟩
set_option maxRecDepth 100000 in
set_option maxHeartbeats 1000000 in
theorem rk2 {w0 : World} (hO : OpV w0) {rb g : Nat} {ts : List Tok} {i j : Nat} {W : World} (h : Rd rb g ts i W) (g0 : G w0 W) (hr : w0.heap.size ≤ rb) {k a b : Int} {x : Tok} (hx : ts[j]? = some x) (hst : StopT x) (HC : ∀ W, Rd rb g ts i W → G w0 W → Calls Tryz.prog 34 #[ptr rb, .int .i64 3] W fun e W' => e = .returned (litE k a b E0) ∧ Rd rb g ts j W' ∧ Qr rb W W') : Calls Tryz.prog 34 #[ptr rb, .int .i64 2] W fun e W' => e = .returned (litE k a b E0) ∧ Rd rb g ts j W' ∧ Qr rb W W' := by
  have HX0 := xh (Rx.new (w := W) h.Q0.1)
  have HGN := xh h.Q0.2
  have HR0 := xh (h.G ((G.refl W).alloc (.cells #[I 0, I 0, I 0, I 0, I 0, .string E0, .string E0, .string E0, .bool false, .slice none 0 0] 26)))
  have HO := xh hO
  have HXX := xh hx
  have HST := xh hst
  have HCC := xh HC
  have HRB := xh hr
  have HGA := xh (g0.trans ((G.refl W).alloc (.cells #[I 0, I 0, I 0, I 0, I 0, .string E0, .string E0, .string E0, .bool false, .slice none 0 0] 26)))
  clear h g0 HC hO hx hst hr
  go_enter Tryz.func34, Tryz.ntmps34
  go_wp2_with (first | (go_at_call 34; refine Hid.out ?_) | fail)
  unfold Hid
  generalize W.alloc (.cells #[I 0, I 0, I 0, I 0, I 0, .string E0, .string E0, .string E0, .bool false, .slice none 0 0] 26) = wa at HX0 HR0 HGA ⊢
  refine (HCC.out _ HR0.out HGA.out).mono ?_
  rintro e w1 ⟨rfl, hrd, hq⟩
  have HG1 := xh ((hq.G HGA.out HRB.out).trans ((G.refl w1).alloc (.cells #[I 1, I 0, I k, I a, I b, .string E0, .string E0, .string E0, .bool false, .slice none 0 0] 26)))
  have HR1 := xh (hrd.G ((G.refl w1).alloc (.cells #[I 1, I 0, I k, I a, I b, .string E0, .string E0, .string E0, .bool false, .slice none 0 0] 26)))
  have HX1 := xh ((HX0.out.Q hq).G ((G.refl w1).alloc (.cells #[I 1, I 0, I k, I a, I b, .string E0, .string E0, .string E0, .bool false, .slice none 0 0] 26)))
  have HL1 : Hid (Lf rb w1.heap.size [I 1, I 0, I k, I a, I b, .string E0, .string E0, .string E0, .bool false, .slice none 0 0] (w1.alloc (.cells #[I 1, I 0, I k, I a, I b, .string E0, .string E0, .string E0, .bool false, .slice none 0 0] 26))) := ⟨fun o => by simp, by simp, by have := blk_lt hrd.c; omega⟩
  obtain ⟨lb, hlb⟩ : ∃ lb, lb = w1.heap.size := ⟨_, rfl⟩
  rw [← hlb] at HL1
  have HLB := xh hlb
  clear hrd hq HR0 HX0 HCC HGA hlb
  simp only [litE]
  go_wp2_with (first | (go_at_call 64; refine Hid.out ?_) | fail)
  unfold Hid
  rw [← HLB.out]
  generalize w1.alloc (.cells #[I 1, I 0, I k, I a, I b, .string E0, .string E0, .string E0, .bool false, .slice none 0 0] 26) = w2 at HG1 HR1 HX1 HL1 ⊢
  refine (op_none HO.out HR1.out HG1.out HXX.out 2 (HST.out.o 2)).mono ?_
  rintro e w3 ⟨rfl, hg⟩
  have HR3 := xh (HR1.out.G hg)
  have HX3 := xh (HX1.out.G hg)
  have HL3 := xh (HL1.out.G hg)
  clear hg HR1 HX1 HL1 HG1
  go_wp2_with fail
  go_loopw [6] (fun p W => p = .int .i64 0 ∧ W = w3) (fun _ _ => 0)
  case atStart => exact ⟨rfl, rfl⟩
  case round =>
    obtain ⟨rfl, hw3⟩ := hrel
    subst hw3
    have hcl := HL3.out.c
    have hcr := HX3.out.c
    have hfr := HX3.out.f
    skip
    go_wp2
    refine bodyPost_ret (v := litE k a b E0) (by simp [results, Tryz.results34, go_sem, hcr, litE]) rfl ⟨rfl, HR3.out.ten HX3.out.n HGN.out _ _ _ _ _ _ _ _ _ _, HX3.out.q.ten (Nat.le_refl _) _ _ _ _ _ _ _ _ _ _⟩
set_option maxRecDepth 100000 in
set_option maxHeartbeats 1000000 in
theorem rk1 {w0 : World} (hO : OpV w0) {rb g : Nat} {ts : List Tok} {i j : Nat} {W : World} (h : Rd rb g ts i W) (g0 : G w0 W) (hr : w0.heap.size ≤ rb) {k a b : Int} {x : Tok} (hx : ts[j]? = some x) (hst : StopT x) (HC : ∀ W, Rd rb g ts i W → G w0 W → Calls Tryz.prog 34 #[ptr rb, .int .i64 2] W fun e W' => e = .returned (litE k a b E0) ∧ Rd rb g ts j W' ∧ Qr rb W W') : Calls Tryz.prog 34 #[ptr rb, .int .i64 1] W fun e W' => e = .returned (litE k a b E0) ∧ Rd rb g ts j W' ∧ Qr rb W W' := by
  have HX0 := xh (Rx.new (w := W) h.Q0.1)
  have HGN := xh h.Q0.2
  have HR0 := xh (h.G ((G.refl W).alloc (.cells #[I 0, I 0, I 0, I 0, I 0, .string E0, .string E0, .string E0, .bool false, .slice none 0 0] 26)))
  have HO := xh hO
  have HXX := xh hx
  have HST := xh hst
  have HCC := xh HC
  have HRB := xh hr
  have HGA := xh (g0.trans ((G.refl W).alloc (.cells #[I 0, I 0, I 0, I 0, I 0, .string E0, .string E0, .string E0, .bool false, .slice none 0 0] 26)))
  clear h g0 HC hO hx hst hr
  go_enter Tryz.func34, Tryz.ntmps34
  go_wp2_with (first | (go_at_call 34; refine Hid.out ?_) | fail)
  unfold Hid
  generalize W.alloc (.cells #[I 0, I 0, I 0, I 0, I 0, .string E0, .string E0, .string E0, .bool false, .slice none 0 0] 26) = wa at HX0 HR0 HGA ⊢
  refine (HCC.out _ HR0.out HGA.out).mono ?_
  rintro e w1 ⟨rfl, hrd, hq⟩
  have HG1 := xh ((hq.G HGA.out HRB.out).trans ((G.refl w1).alloc (.cells #[I 1, I 0, I k, I a, I b, .string E0, .string E0, .string E0, .bool false, .slice none 0 0] 26)))
  have HR1 := xh (hrd.G ((G.refl w1).alloc (.cells #[I 1, I 0, I k, I a, I b, .string E0, .string E0, .string E0, .bool false, .slice none 0 0] 26)))
  have HX1 := xh ((HX0.out.Q hq).G ((G.refl w1).alloc (.cells #[I 1, I 0, I k, I a, I b, .string E0, .string E0, .string E0, .bool false, .slice none 0 0] 26)))
  have HL1 : Hid (Lf rb w1.heap.size [I 1, I 0, I k, I a, I b, .string E0, .string E0, .string E0, .bool false, .slice none 0 0] (w1.alloc (.cells #[I 1, I 0, I k, I a, I b, .string E0, .string E0, .string E0, .bool false, .slice none 0 0] 26))) := ⟨fun o => by simp, by simp, by have := blk_lt hrd.c; omega⟩
  obtain ⟨lb, hlb⟩ : ∃ lb, lb = w1.heap.size := ⟨_, rfl⟩
  rw [← hlb] at HL1
  have HLB := xh hlb
  clear hrd hq HR0 HX0 HCC HGA hlb
  simp only [litE]
  go_wp2_with (first | (go_at_call 64; refine Hid.out ?_) | fail)
  unfold Hid
  rw [← HLB.out]
  generalize w1.alloc (.cells #[I 1, I 0, I k, I a, I b, .string E0, .string E0, .string E0, .bool false, .slice none 0 0] 26) = w2 at HG1 HR1 HX1 HL1 ⊢
  refine (op_none HO.out HR1.out HG1.out HXX.out 1 (HST.out.o 1)).mono ?_
  rintro e w3 ⟨rfl, hg⟩
  have HR3 := xh (HR1.out.G hg)
  have HX3 := xh (HX1.out.G hg)
  have HL3 := xh (HL1.out.G hg)
  clear hg HR1 HX1 HL1 HG1
  go_wp2_with fail
  go_loopw [6] (fun p W => p = .int .i64 0 ∧ W = w3) (fun _ _ => 0)
  case atStart => exact ⟨rfl, rfl⟩
  case round =>
    obtain ⟨rfl, hw3⟩ := hrel
    subst hw3
    have hcl := HL3.out.c
    have hcr := HX3.out.c
    have hfr := HX3.out.f
    skip
    go_wp2
    refine bodyPost_ret (v := litE k a b E0) (by simp [results, Tryz.results34, go_sem, hcr, litE]) rfl ⟨rfl, HR3.out.ten HX3.out.n HGN.out _ _ _ _ _ _ _ _ _ _, HX3.out.q.ten (Nat.le_refl _) _ _ _ _ _ _ _ _ _ _⟩
set_option maxRecDepth 100000 in
set_option maxHeartbeats 1000000 in
theorem test_any {w0 : World} (hO : OpV w0) {rb g : Nat} {ts : List Tok} {i j : Nat} {W : World} (h : Rd rb g ts i W) (g0 : G w0 W) (hr : w0.heap.size ≤ rb) {k a b : Int} {x : Tok} (hx : ts[j]? = some x) (hst : StopT x) (HC : ∀ W, Rd rb g ts i W → G w0 W → Calls Tryz.prog 34 #[ptr rb, .int .i64 6] W fun e W' => e = .returned (litE k a b E0) ∧ Rd rb g ts j W' ∧ Qr rb W W') : Calls Tryz.prog 62 #[ptr rb] W fun e W' => e = .returned (litE k a b E0) ∧ Rd rb g ts j W' ∧ Qr rb W W' := by
  have HX0 := xh (Rx.new (w := W) h.Q0.1)
  have HGN := xh h.Q0.2
  have HR0 := xh (h.G ((G.refl W).alloc (.cells #[I 0, I 0, I 0, I 0, I 0, .string E0, .string E0, .string E0, .bool false, .slice none 0 0] 26)))
  have HO := xh hO
  have HXX := xh hx
  have HST := xh hst
  have HCC := xh HC
  have HRB := xh hr
  have HGA := xh (g0.trans ((G.refl W).alloc (.cells #[I 0, I 0, I 0, I 0, I 0, .string E0, .string E0, .string E0, .bool false, .slice none 0 0] 26)))
  clear h g0 HC hO hx hst hr
  go_enter Tryz.func62, Tryz.ntmps62
  go_wp2_with (first | (go_at_call 34; refine Hid.out ?_) | fail)
  unfold Hid
  generalize W.alloc (.cells #[I 0, I 0, I 0, I 0, I 0, .string E0, .string E0, .string E0, .bool false, .slice none 0 0] 26) = wa at HX0 HR0 HGA ⊢
  refine (HCC.out _ HR0.out HGA.out).mono ?_
  rintro e w1 ⟨rfl, hrd, hq⟩
  have HG1 := xh ((hq.G HGA.out HRB.out).trans ((G.refl w1).alloc (.cells #[I 1, I 0, I k, I a, I b, .string E0, .string E0, .string E0, .bool false, .slice none 0 0] 26)))
  have HR1 := xh (hrd.G ((G.refl w1).alloc (.cells #[I 1, I 0, I k, I a, I b, .string E0, .string E0, .string E0, .bool false, .slice none 0 0] 26)))
  have HX1 := xh ((HX0.out.Q hq).G ((G.refl w1).alloc (.cells #[I 1, I 0, I k, I a, I b, .string E0, .string E0, .string E0, .bool false, .slice none 0 0] 26)))
  have HL1 : Hid (Lf rb w1.heap.size [I 1, I 0, I k, I a, I b, .string E0, .string E0, .string E0, .bool false, .slice none 0 0] (w1.alloc (.cells #[I 1, I 0, I k, I a, I b, .string E0, .string E0, .string E0, .bool false, .slice none 0 0] 26))) := ⟨fun o => by simp, by simp, by have := blk_lt hrd.c; omega⟩
  obtain ⟨lb, hlb⟩ : ∃ lb, lb = w1.heap.size := ⟨_, rfl⟩
  rw [← hlb] at HL1
  have HLB := xh hlb
  clear hrd hq HR0 HX0 HCC HGA hlb
  simp only [litE]
  go_wp2_with (first | (go_at_call 64; refine Hid.out ?_) | fail)
  unfold Hid
  rw [← HLB.out]
  generalize w1.alloc (.cells #[I 1, I 0, I k, I a, I b, .string E0, .string E0, .string E0, .bool false, .slice none 0 0] 26) = w2 at HG1 HR1 HX1 HL1 ⊢
  refine (op_none HO.out HR1.out HG1.out HXX.out 5 (HST.out.o 5)).mono ?_
  rintro e w3 ⟨rfl, hg⟩
  have HR3 := xh (HR1.out.G hg)
  have HX3 := xh (HX1.out.G hg)
  have HL3 := xh (HL1.out.G hg)
  clear hg HR1 HX1 HL1 HG1
  go_wp2_with (first | (go_at_call 44; refine Hid.out ?_) | fail)
  unfold Hid
  refine (took_no HR3.out HXX.out ⟨#[105, 115]⟩ HST.out.s).mono ?_
  rintro e w4 ⟨rfl, hg⟩
  have HR4 := xh (HR3.out.G hg)
  have HX4 := xh (HX3.out.G hg)
  have HL4 := xh (HL3.out.G hg)
  clear hg HR3 HX3 HL3
  go_wp2_with (first | (go_at_call 44; refine Hid.out ?_) | fail)
  unfold Hid
  refine (took_no HR4.out HXX.out ⟨#[105, 110]⟩ HST.out.n).mono ?_
  rintro e w5 ⟨rfl, hg⟩
  have HR5 := xh (HR4.out.G hg)
  have HX5 := xh (HX4.out.G hg)
  have HL5 := xh (HL4.out.G hg)
  clear hg HR4 HX4 HL4
  have hcl := HL5.out.c
  have hcr := HX5.out.c
  have hfr := HX5.out.f
  skip
  go_wp2
  refine bodyPost_ret (v := litE k a b E0) (by simp [results, Tryz.results62, go_sem, hcr, litE]) rfl ⟨rfl, HR5.out.ten HX5.out.n HGN.out _ _ _ _ _ _ _ _ _ _, HX5.out.q.ten (Nat.le_refl _) _ _ _ _ _ _ _ _ _ _⟩
end
open Go.RowKit

theorem op_head {ts : List Tok} {i : Nat} {k a b : Int} {m : Nat} (ho : OpT ts i k a b m) : ∃ y, ts[i]? = some y ∧ seB y ⟨#[110, 111, 116]⟩ = false := by
  have hneg : ∀ y : Tok, seB y ⟨#[45]⟩ = true → seB y ⟨#[110, 111, 116]⟩ = false := fun y hd => by
    unfold seB at hd ⊢
    rw [Bool.and_eq_true] at hd
    rw [eq_of_beq hd.2]
    simp
  cases ho with
  | num hx hn _ => exact ⟨_, hx, seB_num (.inl hn.k) _⟩
  | neg hy hd _ _ => exact ⟨_, hy, hneg _ hd⟩
  | img hx hm => exact ⟨_, hx, seB_num (.inr (.inl hm.k)) _⟩
  | ngi hy hd _ _ => exact ⟨_, hy, hneg _ hd⟩
theorem expr_num {w0 : World} (hO : OpV w0) {rb g : Nat} (hr : w0.heap.size ≤ rb) {ts : List Tok} {i : Nat} {k a b : Int} {m : Nat} (ho : OpT ts i k a b m) {x : Tok} (hx : ts[i + m]? = some x) (hst : StopT x) : ∀ W, Rd rb g ts i W → G w0 W → Calls Tryz.prog 17 #[ptr rb] W fun e W' => e = .returned (litE k a b E0) ∧ Rd rb g ts (i + m) W' ∧ Qr rb W W' := by
  obtain ⟨y, hy, hn⟩ := op_head ho
  have hl : i + m < ts.length := (List.getElem?_eq_some_iff.1 hx).1
  exact fun W h g0 => ex1 h g0 fun W h g0 => rk1 hO h g0 hr hx hst fun W h g0 => rk2 hO h g0 hr hx hst fun W h g0 => rk3 hO h g0 hr hx hst fun W h g0 => rk4 h g0 fun W h g0 => not_any h g0 hy hn fun W h g0 => rk5 h g0 fun W h g0 => test_any hO h g0 hr hx hst fun W h g0 => rk6 hO h g0 hr hx hst fun W h g0 => rk7 hO h g0 hr hx hst fun W h g0 => rk8 h g0 fun W h _ => minus_any h ho hl
set_option maxRecDepth 100000 in
set_option maxHeartbeats 1000000 in
theorem deep_lit (k a b : Int) (W : World) : Calls Tryz.prog 18 #[litE k a b E0, .int .i64 24] W fun e W' => e = .returned (.bool false) ∧ G W W' := by
  have HG := xh ((G.refl W).alloc (.cells #[I 1, I 0, I k, I a, I b, .string E0, .string E0, .string E0, .bool false, .slice none 0 0] 26))
  simp only [litE]
  go_enter Tryz.func18, Tryz.ntmps18
  go_wp2_with fail
  generalize W.alloc (.cells #[I 1, I 0, I k, I a, I b, .string E0, .string E0, .string E0, .bool false, .slice none 0 0] 26) = wa at HG ⊢
  go_loopw [12] (fun p W => p = .int .i64 0 ∧ W = wa) (fun _ _ => 0)
  case atStart => exact ⟨rfl, rfl⟩
  case round =>
    obtain ⟨rfl, hw⟩ := hrel
    subst hw
    go_wp2
    go_ret
    exact ⟨rfl, HG.out⟩
set_option maxRecDepth 100000 in
set_option maxHeartbeats 1000000 in
theorem whole_num {w0 : World} (hO : OpV w0) {rb g : Nat} (hr : w0.heap.size ≤ rb) {ts : List Tok} {i : Nat} {k a b : Int} {m : Nat} (ho : OpT ts i k a b m) {x : Tok} (hx : ts[i + m]? = some x) (hst : StopT x) {W : World} (h : Rd rb g ts i W) (g0 : G w0 W) : Calls Tryz.prog 9 #[ptr rb] W fun e W' => e = .returned (litE k a b E0) ∧ Rd rb g ts (i + m) W' ∧ Qr rb W W' := by
  have HX0 := xh (Rx.new (w := W) h.Q0.1)
  have HGN := xh h.Q0.2
  have HR0 := xh (h.G ((G.refl W).alloc (.cells #[I 0, I 0, I 0, I 0, I 0, .string E0, .string E0, .string E0, .bool false, .slice none 0 0] 26)))
  have HEX := xh (expr_num hO (g := g) hr ho hx hst)
  obtain ⟨y, hy, -⟩ := op_head ho
  have HYY := xh hy
  have HGA := xh (g0.trans ((G.refl W).alloc (.cells #[I 0, I 0, I 0, I 0, I 0, .string E0, .string E0, .string E0, .bool false, .slice none 0 0] 26)))
  clear h g0 hO hr ho hx hst hy
  go_enter Tryz.func9, Tryz.ntmps9
  go_wp2_with (first | (go_at_call 16; refine Hid.out ?_) | fail)
  unfold Hid
  generalize W.alloc (.cells #[I 0, I 0, I 0, I 0, I 0, .string E0, .string E0, .string E0, .bool false, .slice none 0 0] 26) = wa at HX0 HR0 HGA ⊢
  refine (next_any HR0.out HYY.out).mono ?_
  rintro e w1 ⟨rfl, hg⟩
  have HR1 := xh (HR0.out.G (hg.trans ((G.refl w1).alloc (.cells #[I y.k, .string y.t, I y.p] 60))))
  have HX1 := xh (HX0.out.G (hg.trans ((G.refl w1).alloc (.cells #[I y.k, .string y.t, I y.p] 60))))
  have HG1 := xh (HGA.out.trans (hg.trans ((G.refl w1).alloc (.cells #[I y.k, .string y.t, I y.p] 60))))
  clear hg HR0 HX0 HGA
  simp only [tkA]
  go_wp2_with (first | (go_at_call 17; refine Hid.out ?_) | fail)
  unfold Hid
  generalize w1.alloc (.cells #[I y.k, .string y.t, I y.p] 60) = w2 at HR1 HX1 HG1 ⊢
  refine (HEX.out _ HR1.out HG1.out).mono ?_
  rintro e w3 ⟨rfl, hrd, hq⟩
  have HR3 := xh (hrd.G ((G.refl w3).alloc (.cells #[I 1, I 0, I k, I a, I b, .string E0, .string E0, .string E0, .bool false, .slice none 0 0] 26)))
  have HX3 := xh ((HX1.out.Q hq).G ((G.refl w3).alloc (.cells #[I 1, I 0, I k, I a, I b, .string E0, .string E0, .string E0, .bool false, .slice none 0 0] 26)))
  have HL3 : Hid (Lf rb w3.heap.size [I 1, I 0, I k, I a, I b, .string E0, .string E0, .string E0, .bool false, .slice none 0 0] (w3.alloc (.cells #[I 1, I 0, I k, I a, I b, .string E0, .string E0, .string E0, .bool false, .slice none 0 0] 26))) := ⟨fun o => by simp, by simp, by have := blk_lt hrd.c; omega⟩
  clear hrd hq HR1 HX1 HG1 HEX
  simp only [litE]
  go_wp2_with (first | (go_at_call 18; refine Hid.out ?_) | fail)
  unfold Hid
  obtain ⟨lb, hlb⟩ : ∃ lb, lb = w3.heap.size := ⟨_, rfl⟩
  rw [← hlb] at HL3 ⊢
  generalize w3.alloc (.cells #[I 1, I 0, I k, I a, I b, .string E0, .string E0, .string E0, .bool false, .slice none 0 0] 26) = w4 at HR3 HX3 HL3 ⊢
  refine (deep_lit k a b _).mono ?_
  rintro e w5 ⟨rfl, hg⟩
  have HR5 := xh (HR3.out.G hg)
  have HX5 := xh (HX3.out.G hg)
  have hcl := (HL3.out.G hg).c
  clear hg HR3 HX3 HL3 hlb
  have hcr := HX5.out.c
  have hfr := HX5.out.f
  skip
  go_wp2
  refine bodyPost_ret (v := litE k a b E0) (by simp [results, Tryz.results9, go_sem, hcr, litE]) rfl ⟨rfl, HR5.out.ten HX5.out.n HGN.out _ _ _ _ _ _ _ _ _ _, HX5.out.q.ten (Nat.le_refl _) _ _ _ _ _ _ _ _ _ _⟩
set_option maxRecDepth 100000 in
set_option maxHeartbeats 1000000 in
theorem ended_num {rb g : Nat} {ts : List Tok} {i j : Nat} {k a b : Int} {x : Tok} (hx : ts[j]? = some x) (hk : x.k = 7) {W : World} (h : Rd rb g ts i W) {w0 : World} (g0 : G w0 W) (HC : ∀ W, Rd rb g ts i W → G w0 W → Calls Tryz.prog 9 #[ptr rb] W fun e W' => e = .returned (litE k a b E0) ∧ Rd rb g ts j W' ∧ Qr rb W W') : Calls Tryz.prog 15 #[ptr rb, .func (.func 9) #[] #[]] W fun e W' => e = .returned (litE k a b E0) ∧ Rd rb g ts j W' ∧ Qr rb W W' := by
  have HX0 := xh (Rx.new (w := W) h.Q0.1)
  have HGN := xh h.Q0.2
  have HR0 := xh (h.G ((G.refl W).alloc (.cells #[I 0, I 0, I 0, I 0, I 0, .string E0, .string E0, .string E0, .bool false, .slice none 0 0] 26)))
  have HCC := xh HC
  have HXX := xh hx
  have HK := xh hk
  have HGA := xh (g0.trans ((G.refl W).alloc (.cells #[I 0, I 0, I 0, I 0, I 0, .string E0, .string E0, .string E0, .bool false, .slice none 0 0] 26)))
  clear h g0 HC hx hk
  go_enter Tryz.func15, Tryz.ntmps15
  go_wp2_with (first | (go_at_call 9; refine Hid.out ?_) | fail)
  unfold Hid
  generalize W.alloc (.cells #[I 0, I 0, I 0, I 0, I 0, .string E0, .string E0, .string E0, .bool false, .slice none 0 0] 26) = wa at HX0 HR0 HGA ⊢
  refine (HCC.out _ HR0.out HGA.out).mono ?_
  rintro e w3 ⟨rfl, hrd, hq⟩
  have HR3 := xh (hrd.G ((G.refl w3).alloc (.cells #[I 1, I 0, I k, I a, I b, .string E0, .string E0, .string E0, .bool false, .slice none 0 0] 26)))
  have HX3 := xh ((HX0.out.Q hq).G ((G.refl w3).alloc (.cells #[I 1, I 0, I k, I a, I b, .string E0, .string E0, .string E0, .bool false, .slice none 0 0] 26)))
  have HL3 : Hid (Lf rb w3.heap.size [I 1, I 0, I k, I a, I b, .string E0, .string E0, .string E0, .bool false, .slice none 0 0] (w3.alloc (.cells #[I 1, I 0, I k, I a, I b, .string E0, .string E0, .string E0, .bool false, .slice none 0 0] 26))) := ⟨fun o => by simp, by simp, by have := blk_lt hrd.c; omega⟩
  clear hrd hq HR0 HX0 HGA HCC
  simp only [litE]
  go_wp2_with (first | (go_at_call 33; refine Hid.out ?_) | fail)
  unfold Hid
  obtain ⟨lb, hlb⟩ : ∃ lb, lb = w3.heap.size := ⟨_, rfl⟩
  rw [← hlb] at HL3 ⊢
  generalize w3.alloc (.cells #[I 1, I 0, I k, I a, I b, .string E0, .string E0, .string E0, .bool false, .slice none 0 0] 26) = w4 at HR3 HX3 HL3 ⊢
  refine (atEnd_any HR3.out HXX.out).mono ?_
  rintro e w5 ⟨rfl, hg⟩
  have HR5 := xh (HR3.out.G hg)
  have HX5 := xh (HX3.out.G hg)
  have hcl := (HL3.out.G hg).c
  clear hg HR3 HX3 HL3 hlb
  rw [HK.out]
  go_wp2_with (first | (go_at_call 32; refine Hid.out ?_) | fail)
  unfold Hid
  refine (must_yes _).mono ?_
  rintro e ww ⟨rfl, rfl⟩
  have hcr := HX5.out.c
  have hfr := HX5.out.f
  skip
  go_wp2
  refine bodyPost_ret (v := litE k a b E0) (by simp [results, Tryz.results15, go_sem, hcr, litE]) rfl ⟨rfl, HR5.out.ten HX5.out.n HGN.out _ _ _ _ _ _ _ _ _ _, HX5.out.q.ten (Nat.le_refl _) _ _ _ _ _ _ _ _ _ _⟩
set_option maxRecDepth 100000 in
set_option maxHeartbeats 1000000 in
theorem clE_idle (p q : Addr) (w : World) : CallsD Tryz.prog 14 #[.pointer (some p), .pointer (some q)] .returning w fun e u' w' => e = .returned (.tuple #[]) ∧ u' = .returning ∧ w' = w := by
  refine callsD_of_wpS Tryz.func14 rfl fun c₀ cs hu => ?_
  apply wpS_seq
  apply wpS_region
  simp [wpOpsS, go_sem, recoverD, hu, Tryz.ntmps14, Exit.thenS]
  refine wpS_of_wp ?_
  go_wp2
  cases c₀
  simp_all [bodyPostS, results, Tryz.results14]
set_option maxRecDepth 100000 in
set_option maxHeartbeats 1000000 in
theorem clE_panic (bp bq : Nat) (c z c1 z1 : Int) (older : List PanicEntry) (w : World) (hp : w.cell? ⟨bp, 0, none⟩ = some (I c1)) (hpf : w.frozen? ⟨bp, 0, none⟩ = false) (hq : w.cell? ⟨bq, 0, none⟩ = some (I z1)) (hqf : w.frozen? ⟨bq, 0, none⟩ = false) (hne : bp ≠ bq) : CallsD Tryz.prog 14 #[ptr bp, ptr bq] (.panicking ({ v := .iface 55 (.agg #[I c, I z]), recovered := false } :: older)) w fun e u' w' => e = .returned (.tuple #[]) ∧ u' = .panicking ({ v := .iface 55 (.agg #[I c, I z]), recovered := true } :: older) ∧ w' = (((w.setCell ⟨bp, 0, none⟩ (I c)).setCell ⟨bq, 0, none⟩ (I z)).alloc (.cells #[I c, I z] 55)).drew := by
  have gA : G w (w.alloc (.cells #[I c, I z] 55)) := (G.refl w).alloc _
  have hp2 := (gA.cell (cell_lt hp)).trans hp
  have hq2 := (gA.cell (cell_lt hq)).trans hq
  have hpf2 : (w.alloc (.cells #[I c, I z] 55)).frozen? ⟨bp, 0, none⟩ = false := (World.frozen?_of_block (gA.block bp (cell_lt hp))).trans hpf
  have hqf2 : (w.alloc (.cells #[I c, I z] 55)).frozen? ⟨bq, 0, none⟩ = false := (World.frozen?_of_block (gA.block bq (cell_lt hq))).trans hqf
  have l1 := cell_lt hp
  have l2 := cell_lt hq
  have n1 : ¬ bp = w.heap.size := by omega
  have n2 : ¬ bq = w.heap.size := by omega
  have n3 : ¬ w.heap.size = bp := by omega
  have n4 : ¬ w.heap.size = bq := by omega
  have hne2 : ¬ bq = bp := fun e => hne e.symm
  have hta : ∀ w : World, (Instr.typeAssert (.iface 55 (.agg #[I c, I z])) 20 55 false).run Tryz.prog w = .ok (.agg #[I c, I z]) w := fun _ => by kernel_rfl
  refine callsD_of_wpS Tryz.func14 rfl fun c₀ cs hu => ?_
  apply wpS_seq
  apply wpS_region
  simp [wpOpsS, go_sem, recoverD, hu, Tryz.ntmps14, Exit.thenS]
  refine wpS_of_wp ?_
  go_wp2_with fail
  go_region
  all_goals
    go_wp2
    cases c₀
    refine ⟨rfl, _, rfl, .tuple #[], ?_, rfl, rfl, ?_⟩
    · simp [results, Tryz.results14]
    · rfl
end Go.Proofs.YthpflfkgbapbnaaGreatDoor
