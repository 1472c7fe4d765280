/- Graphs: a graph with marks behind its lists. -/
import Derived.Test.YtifioikdhfhljaaGreatDoorSh11
namespace Go.Proofs.YtifioikdhfhljaaGreatDoor
open Go.RowKit

def mk1 : Pv := ⟨{ data := #[109, 97, 114, 107, 49] }, 0, 0, 0, { data := #[] }⟩
def mk2 : Pv := ⟨{ data := #[109, 97, 114, 107, 50] }, 0, 0, 0, { data := #[] }⟩
def rooms (l : List Pv) : List Pv := l ++ [mk1, mk2]
def Nd.full (x : Nd) : Nd := ⟨x.id, x.lb, rooms x.ps⟩
def Ed.full (x : Ed) : Ed := ⟨x.id, x.ty, x.fr, x.to, rooms x.ps⟩
def ndM : List Nd := [⟨-91, { data := #[] }, []⟩, ⟨-92, { data := #[] }, []⟩]
def edM : List Ed := [⟨-91, { data := #[] }, 0, 0, []⟩, ⟨-92, { data := #[] }, 0, 0, []⟩]
/-- Nodes, edges in a row of our own, with properties of their own that all lie from lo on. -/
abbrev dNf (lo : Nat) : Nst Nd := ⟨3, [101], fun w cs x => ∃ v, cs = [I x.id, .string x.lb, v] ∧ Sw eP 101 w v x.ps ∧ ∀ k, v.ownBlock = some k → lo ≤ k, fun k ht h => by
  obtain ⟨v, e, h, hb⟩ := h
  exact ⟨v, e, h.kx k (ht _ (by simp)), hb⟩⟩
abbrev dEf (lo : Nat) : Nst Ed := ⟨5, [101], fun w cs x => ∃ v, cs = [I x.id, .string x.ty, I x.fr, I x.to, v] ∧ Sw eP 101 w v x.ps ∧ ∀ k, v.ownBlock = some k → lo ≤ k, fun k ht h => by
  obtain ⟨v, e, h, hb⟩ := h
  exact ⟨v, e, h.kx k (ht _ (by simp)), hb⟩⟩
theorem NRow.plainN {lo : Nat} {ty : TypeId} {w : World} {v : Value} {l : List Nd} (h : NRow (dNf lo) ty w v l) : NRow dNo ty w v l := by
  obtain ⟨rs, h1, h2, h3⟩ := h
  refine ⟨rs, h1, h2, fun i c x e1 e2 => ?_⟩
  obtain ⟨v, e, hs, _⟩ := h3 i c x e1 e2
  exact ⟨v, e, hs⟩
theorem NRow.plainE {lo : Nat} {ty : TypeId} {w : World} {v : Value} {l : List Ed} (h : NRow (dEf lo) ty w v l) : NRow dEo ty w v l := by
  obtain ⟨rs, h1, h2, h3⟩ := h
  refine ⟨rs, h1, h2, fun i c x e1 e2 => ?_⟩
  obtain ⟨v, e, hs, _⟩ := h3 i c x e1 e2
  exact ⟨v, e, hs⟩
/-- It is not large. -/
structure SmB (ns : List Nd) (es : List Ed) : Prop where
  n : ns.length ≤ 1048576
  e : es.length ≤ 1048576
  p : ∀ x ∈ ns, x.ps.length ≤ 1048576
  q : ∀ x ∈ es, x.ps.length ≤ 1048576
theorem SmB.gr {ns : List Nd} {es : List Ed} (h : SmB ns es) : GrB ns es := ⟨by have := h.n; omega, by have := h.e; omega, fun x hx => by have := h.p x hx; omega, fun x hx => by have := h.q x hx; omega⟩
/-- Two more at a row's end. -/
theorem pushN2 {α : Type} {D : Nst α} {P : Program} {ty ts tr : TypeId} {W w : World} {ra : Option Addr} {rn rc : Nat} {l : List α} (i : TypeInfo) (z : Value) (bytes : Nat) (hts : P.underlying ts = some (.slice ty)) (hi : P.info? ty = some i) (hz : i.zero = some z) (hsize : i.size = D.s) (hby : i.bytes = bytes) (hzs : z.cells.size = D.s) (hsz : 0 < D.s)
    (h : NRow D ty w (.slice ra rn rc) l) (c d : Raw D.s) (x y : α) (hx : D.r w c.1 x) (hy : D.r w d.1 y) (hne : ∀ t ∈ D.tys, t ∉ [ty]) (hg : G W w) (hf : Fresh W (.slice ra rn rc)) (h63 : rn + 2 ≤ maxLen) (hbytes : (rn + 2) * bytes ≤ 140737488355328) :
    ∃ a cc w', (Builtin.append_ #[ts, ts] tr #[.slice ra rn rc, .slice (some ⟨w.heap.size, 0, none⟩) 2 2]).run P (w.alloc (.cells (c.1 ++ d.1).toArray ty)) = .ok (.slice a (rn + 2) cc) w' ∧ NRow D ty w' (.slice a (rn + 2) cc) (l ++ [x, y]) ∧ G W w' ∧ Fresh W (.slice a (rn + 2) cc) ∧ Fx [ty] [] w w' := by
  obtain ⟨rs, h1, h2, h3⟩ := h
  have hln := h1.len_eq
  have hA := (G.refl w).alloc (.cells (c.1 ++ d.1).toArray ty)
  have hl : Row (eR D.s).rel (w.alloc (.cells (c.1 ++ d.1).toArray ty)) (.slice (some ⟨w.heap.size, 0, none⟩) 2 2) [c, d] := by
    have := Row.lit (E := eR D.s) w ty [c, d] 2 (by simp)
    rw [show (eR D.s).fl [c, d] = c.1 ++ d.1 by simp [Enc.fl]] at this
    exact this
  obtain ⟨v', w', q1, q2, q3, q4⟩ := app_row (P := P) (E := eR D.s) (tr := tr) i z bytes hts hi hz hsize hby hzs hsz (h1.G hA) hl (by rw [hln]; simpa using h63) (by rw [hln]; simpa using hbytes)
  obtain ⟨f2, g2⟩ := hf.app (hg.trans hA) q3 q4
  obtain ⟨a, cc, hv⟩ := q2.form
  rw [List.length_append, hln] at hv
  obtain rfl : v' = .slice a (rn + 2) cc := hv
  have kx : Fx [ty] [] w w' := (Fx.of_G hA).trans (Fx.own q3 (h1.G hA) (by simp))
  refine ⟨a, cc, w', q1, ⟨rs ++ [c, d], q2, by simp [h2], ?_⟩, g2, f2, kx⟩
  have hk := kx.kx
  have e1 := nrow_step (fun i c' x' e1 e2 => D.keep hk hne (h3 i c' x' e1 e2)) h2 (D.keep hk hne hx)
  have e2 := nrow_step e1 (by simp [h2]) (D.keep hk hne hy)
  simpa using e2
theorem mk_P (W : World) (c : Nat) (z : Int) (hz : z = (c : Int)) (hc : c ≤ 1073741824) : ∃ w', (Instr.makeSlice 42 (.int .i64 0) (.int .i64 z)).run Tryz.prog W = .ok (.slice (some ⟨W.heap.size, 0, none⟩) 0 c) w' ∧ Sw eP 101 w' (.slice (some ⟨W.heap.size, 0, none⟩) 0 c) [] ∧ G W w' ∧ Fresh W (.slice (some ⟨W.heap.size, 0, none⟩) 0 c) := by
  subst hz
  obtain ⟨i, hi, h0, h1, h2⟩ := info_P
  have hm : (1073741824 : Nat) ≤ maxLen := of_decide_eq_true (by kernel_rfl)
  obtain ⟨w', q1, q2, q3⟩ := run_make_own (P := Tryz.prog) W 0 42 101 i _ 5 Tryz.underlying42 hi h0 h1 .i64 .i64 c (by rw [h2]; omega) (by omega) (Nat.zero_le _)
  exact ⟨w', q1, Sw.of_row (E := eP) (b := 0) (n := 0) (by simpa [Enc.fl] using q2) rfl, ⟨q3.os, q3.tape, q3.output, q3.size, fun k hk => q3.block k hk (by simp)⟩, fun k e => by simp [Value.ownBlock] at e; omega⟩
set_option maxRecDepth 100000 in
set_option maxHeartbeats 1000000 in
theorem sroom_any (l : List Pv) (v : Value) (W : World) (h : Row eP.rel W v l) (hl : l.length ≤ 1048576) : Calls Tryz.prog 28 #[v] W fun e W' => ∃ a n c, e = .returned (.slice a n c) ∧ Sw eP 101 W' (.slice a n c) (rooms l) ∧ Fresh W (.slice a n c) ∧ G W W' := by
  obtain ⟨p, cap, rfl⟩ := h.form
  obtain ⟨n, hn⟩ : ∃ n, n = l.length := ⟨_, rfl⟩
  obtain ⟨i0, hi0, hz0, hz1, hz2⟩ := info_P
  have hmx : (1073741824 : Nat) ≤ maxLen := of_decide_eq_true (by kernel_rfl)
  obtain ⟨w1, hmk, hs1, hg1, hf1⟩ := mk_P W (n + 2) ((n : Int) + 2) (by omega) (by omega)
  obtain ⟨v2, w2, hr2, hs2, hch2, hob2⟩ := app_row (P := Tryz.prog) (E := eP) (tr := 42) i0 _ 56 Tryz.underlying42 hi0 hz0 hz1 hz2 rfl (by decide) hs1 (h.G hg1) (by simp; omega) (by simp; omega)
  obtain ⟨hf2, hg2⟩ := hf1.app hg1 hch2 hob2
  rw [List.nil_append] at hs2
  obtain ⟨a2, c2, rfl⟩ := hs2.form
  have hA : G w2 (w2.alloc (.cells #[.string { data := #[109, 97, 114, 107, 49] }, I 0, I 0, I 0, .string { data := #[] }, .string { data := #[109, 97, 114, 107, 50] }, I 0, I 0, I 0, .string { data := #[] }] 101)) := (G.refl _).alloc _
  have hlit : Row eP.rel (w2.alloc (.cells #[.string { data := #[109, 97, 114, 107, 49] }, I 0, I 0, I 0, .string { data := #[] }, .string { data := #[109, 97, 114, 107, 50] }, I 0, I 0, I 0, .string { data := #[] }] 101)) (.slice (some ⟨w2.heap.size, 0, none⟩) 2 2) [mk1, mk2] := Row.lit (E := eP) w2 101 [mk1, mk2] 2 (by simp)
  obtain ⟨v4, w4, hr4, hs4, hch4, hob4⟩ := app_row (P := Tryz.prog) (E := eP) (tr := 42) i0 _ 56 Tryz.underlying42 hi0 hz0 hz1 hz2 rfl (by decide) (hs2.G hA) hlit (by simp; omega) (by simp; omega)
  obtain ⟨hf4, hg4⟩ := hf2.app (hg2.trans hA) hch4 hob4
  obtain ⟨a4, c4, hv4⟩ := hs4.form
  generalize (l ++ [mk1, mk2]).length = n4 at hv4
  subst hv4
  have HF : Hid (Sw eP 101 w4 (.slice a4 n4 c4) (rooms l) ∧ Fresh W (.slice a4 n4 c4) ∧ G W w4) := ⟨hs4, hf4, hg4⟩
  rw [← hn] at hr2 hr4 hl ⊢
  have HMK := hide hmk; have HR2 := hide hr2; have HR4 := hide hr4
  have hW : wrap64 ((n : Int) + 2) = (n : Int) + 2 := by unfold wrap64; omega
  clear h hl hn hi0 hz0 hz1 hz2 hmx hmk hs1 hg1 hf1 hr2 hs2 hch2 hob2 hf2 hg2 hA hlit hr4 hs4 hch4 hob4 hf4 hg4
  go_enter Tryz.func28, Tryz.ntmps28
  go_wp2_with fail
  try rw [hW]
  rw [HMK.out]
  clear hW
  go_wp2_with (first | (at_builtin; first | refine wpList_append_run rfl _ _ 42 rfl (.slice (some ⟨W.heap.size, 0, none⟩) 0 (n + 2)) (.slice p n cap) rfl rfl HR2.out ?_ | refine wpList_append_run rfl _ _ 42 rfl (.slice a2 n c2) (.slice (some ⟨w2.heap.size, 0, none⟩) 2 2) rfl rfl HR4.out ?_) | fail)
  go_ret
  exact ⟨a4, n4, c4, rfl, HF.out⟩
theorem NRow.sw {α : Type} {D : Nst α} {ty : TypeId} {w : World} {v : Value} {l : List α} (h : NRow D ty w v l) : ∃ rs : List (Raw D.s), Sw (eR D.s) ty w v rs := h.imp fun _ q => q.1
theorem NRow.lt {α : Type} {D : Nst α} {ty : TypeId} {w : World} {v : Value} {l : List α} (h : NRow D ty w v l) {k : Nat} (e : v.ownBlock = some k) : k < w.heap.size := by
  obtain ⟨rs, q⟩ := h.sw
  exact q.lt e
theorem NRow.off {α : Type} {D : Nst α} {ty t : TypeId} {w : World} {v u : Value} {l : List α} {b o : Nat} {xs : List Value} (h : NRow D ty w v l) (hn : v.ownBlock ≠ some b) (hb : Blk w b t xs) (ht : ∀ q ∈ D.tys, q ≠ t) : NRow D ty (w.setCell ⟨b, o, none⟩ u) v l := by
  obtain ⟨rs, r1, r2, r3⟩ := h
  exact ⟨rs, r1.off hn, r2, fun j c y e1 e2 => D.keep (Kx.set (X := [t]) hb (by simp)) (fun q hq => by simpa using ht q hq) (r3 j c y e1 e2)⟩
theorem NRow.len_eq {α : Type} {D : Nst α} {ty : TypeId} {w : World} {a : Option Addr} {n c : Nat} {l : List α} (h : NRow D ty w (.slice a n c) l) : l.length = n := by
  obtain ⟨_, _, e⟩ := h.form
  cases e; rfl
set_option maxRecDepth 100000 in
set_option maxHeartbeats 8000000 in
theorem sfull_any (ns : List Nd) (es : List Ed) (nv ev : Value) (W : World) (h1 : Row relN W nv ns) (h2 : Row relE W ev es) (hs : SmB ns es) (lo0 : Nat) (hlo0 : lo0 ≤ W.heap.size) : Calls Tryz.prog 7 #[.agg #[nv, ev]] W fun e W' => ∃ na nn nc ea en ec, e = .returned (.agg #[.slice na nn nc, .slice ea en ec]) ∧ NRow (dNf lo0) 69 W' (.slice na nn nc) (ns.map Nd.full ++ ndM) ∧ NRow (dEf lo0) 72 W' (.slice ea en ec) (es.map Ed.full ++ edM) ∧ Fresh W (.slice na nn nc) ∧ Fresh W (.slice ea en ec) ∧ G W W' := by
  obtain ⟨sa, sc, rfl⟩ := h1.form
  obtain ⟨ta, tc, rfl⟩ := h2.form
  obtain ⟨w3, hw3⟩ : ∃ w3, w3 = ((W.alloc (.cells #[.slice sa ns.length sc, .slice ta es.length tc] 25)).alloc (.cells #[.slice none 0 0, .slice none 0 0] 25)) := ⟨_, rfl⟩
  obtain ⟨B1, hB1⟩ : ∃ B1, B1 = W.heap.size := ⟨_, rfl⟩
  obtain ⟨B2, hB2⟩ : ∃ B2, B2 = B1 + 1 := ⟨_, rfl⟩
  obtain ⟨B3, hB3⟩ : ∃ B3, B3 = B2 + 1 := ⟨_, rfl⟩
  have hgw : G W w3 := by rw [hw3]; exact ((G.refl W).alloc _).alloc _
  have hb1 : Blk w3 B1 25 [.slice sa ns.length sc, .slice ta es.length tc] := by rw [hw3, hB1]; exact (Blk.new W [.slice sa ns.length sc, .slice ta es.length tc] 25).G ((G.refl _).alloc _)
  have hb2 : Blk w3 B2 25 [.slice none 0 0, .slice none 0 0] := by
    have := Blk.new (W.alloc (.cells #[.slice sa ns.length sc, .slice ta es.length tc] 25)) [.slice none 0 0, .slice none 0 0] 25
    rw [hw3, hB2, hB1]
    simpa using this
  have hsz : w3.heap.size = B3 := by rw [hw3, hB3, hB2, hB1]; simp
  obtain ⟨w4, hw4⟩ : ∃ w4, w4 = w3.alloc (.cells #[.slice none 0 0, .slice none 0 0] 25) := ⟨_, rfl⟩
  have HST : Hid (Blk w4 B3 25 [.slice none 0 0, .slice none 0 0] ∧ G w3 w4) := ⟨by rw [hw4, ← hsz]; exact Blk.new w3 [.slice none 0 0, .slice none 0 0] 25, by rw [hw4]; exact (G.refl w3).alloc _⟩
  have HEW : Hid (((W.alloc (.cells #[.slice sa ns.length sc, .slice ta es.length tc] 25)).alloc (.cells #[.slice none 0 0, .slice none 0 0] 25)) = w3) := hw3.symm
  have HE1 : Hid (W.heap.size = B1) := hB1.symm
  have HE2 : Hid (B1 + 1 = B2) := hB2.symm
  have HE3 : Hid (B2 + 1 = B3) := hB3.symm
  have HE4 : Hid (w3.alloc (.cells #[.slice none 0 0, .slice none 0 0] 25) = w4) := hw4.symm
  have HB3S : Hid (w3.heap.size = B3) := hsz
  have HB2S : Hid (W.heap.size ≤ B2) := by show _ ≤ _; omega
  have HB23 : Hid (B2 ≠ B3) := by show _ ≠ _; omega
  have HLO0 : Hid (lo0 ≤ w3.heap.size) := Nat.le_trans hlo0 hgw.size
  have HS := hide (And.intro (h1.G hgw) (h2.G hgw)); have HSM := hide hs; have HB1 := hide hb1; have HB2 := hide hb2; have HGW := hide hgw
  clear h1 h2 hs hlo0 hw3 hB1 hB2 hB3 hgw hb1 hb2 hsz hw4
  go_enter Tryz.func7, Tryz.ntmps7
  go_wp2_with fail
  try rw [HEW.out]
  try rw [HE4.out]
  try rw [HE1.out]
  try rw [HE2.out]
  try rw [HE3.out]
  try rw [HB3S.out]
  clear HEW HE1 HE2 HE3 HE4
  go_loopw [4, 5] (fun iv _ wr => ∃ (i : Nat) (ra : Option Addr) (rn rc : Nat), iv = I i ∧ i ≤ ns.length ∧ Blk wr B3 25 [.slice ra rn rc, .slice none 0 0] ∧ NRow (dNf lo0) 69 wr (.slice ra rn rc) ((ns.take i).map Nd.full) ∧ Fresh w3 (.slice ra rn rc) ∧ G w3 wr) (fun iv _ _ => ns.length - (RowKit.intOf iv).toNat)
  case atStart => exact ⟨0, none, 0, 0, rfl, Nat.zero_le _, HST.out.1, NRow.nil _ _ _, Fresh.nil _, HST.out.2⟩
  case round =>
    clear HST
    obtain ⟨i, ra, rn, rc, rfl, hik, hb3, hso, hfo, hg3⟩ := hrel
    have hB1 := HB1.out.G hg3
    have kb1 := hB1.cell
    by_cases hil : i < ns.length
    · obtain ⟨x, hx⟩ : ∃ x, ns[i]? = some x := ⟨_, List.getElem?_eq_getElem hil⟩
      obtain ⟨g, o, cap, qI⟩ := HS.out.1.addr (by omega)
      injection qI with q1 q2 q3
      subst q1 q3
      obtain ⟨cs, ⟨vp, hcs, hvp⟩, hr1⟩ := HS.out.1.at hx
      subst hcs
      obtain ⟨pa, pc, hvf⟩ := hvp.form
      obtain ⟨pn, hpn⟩ : ∃ pn, pn = x.ps.length := ⟨_, rfl⟩
      rw [← hpn] at hvf
      subst hvf
      have x1 : wr.cell? ⟨g, o + i * 3, none⟩ = some (I x.id) := rangeAt_G hr1 hg3 0 _ rfl
      have x2 : wr.cell? ⟨g, o + i * 3 + 1, none⟩ = some (.string x.lb) := rangeAt_G hr1 hg3 1 _ rfl
      have x3 : wr.cell? ⟨g, o + i * 3 + 2, none⟩ = some (.slice pa pn pc) := rangeAt_G hr1 hg3 2 _ rfl
      have i1 : (i : Int) < ns.length := Int.ofNat_lt.2 hil
      have hxp := HSM.out.p x (List.mem_of_getElem? hx)
      have HW : Hid (wrap64 ((i : Int) + 1) = (i : Int) + 1) := by show _ = _; have := HSM.out.n; unfold wrap64; omega
      obtain ⟨wb, hwb⟩ : ∃ wb, wb = wr.alloc (.cells #[I x.id, .string x.lb, .slice pa pn pc] 69) := ⟨_, rfl⟩
      obtain ⟨B5, hB5⟩ : ∃ B5, B5 = wr.heap.size := ⟨_, rfl⟩
      have HEB : Hid (wr.alloc (.cells #[I x.id, .string x.lb, .slice pa pn pc] 69) = wb) := hwb.symm
      have HE5 : Hid (wr.heap.size = B5) := hB5.symm
      have hga : G wr wb := by rw [hwb]; exact (G.refl wr).alloc _
      have hBX : Blk wb B5 69 [I x.id, .string x.lb, .slice pa pn pc] := by rw [hwb, hB5]; exact Blk.new wr [I x.id, .string x.lb, .slice pa pn pc] 69
      have kbx := hBX.cell
      have zbx := hBX.frozen
      have KC := hide (sroom_any x.ps _ wb ((hvp.G hg3).G hga) hxp)
      have HNE : Hid ((Value.slice ra rn rc).ownBlock ≠ some B5) := fun e => by have := hso.lt e; omega
      have hb3l := hb3.lt
      have HB35 : Hid (B3 ≠ B5) := by show _ ≠ _; omega
      have hln := hso.len_eq
      have HRN : Hid (rn = i) := by rw [Hid, ← hln, List.length_map, List.length_take]; omega
      have HBX := hide hBX; have HB3 := hide (hb3.G hga); have HSO := hide (hso.G hga); have HFO := hide hfo; have HG3 := hide (hg3.trans hga); have HX := hide hx; have HIL := hide hil
      have HWB : Hid (w3.heap.size ≤ wb.heap.size) := Nat.le_trans hg3.size hga.size
      have HB5S : Hid (w3.heap.size ≤ B5) := by show _ ≤ _; rw [hB5]; exact hg3.size
      clear hik hb3 hso hfo hg3 hB1 hil hx q2 hr1 hvp hpn hxp hwb hB5 hga hBX hb3l hln
      go_wp2_with (first | (rw [HEB.out, HE5.out]; clear HEB HE5) | fail)
      clear i1 x1 x2 x3
      refine KC.out.mono ?_
      rintro e w5 ⟨va, vn, vc, rfl, hs5, hf5, hg5⟩
      have hBX5 := HBX.out.G hg5
      have kbx5 := hBX5.cell
      have zbx5 := hBX5.frozen
      have hg35 := HG3.out.trans hg5
      have hb35 := HB3.out.G hg5
      have hfx6 : Fx [69] [] w5 (w5.setCell ⟨B5, 2, none⟩ (.slice va vn vc)) := Fx.set hBX5 (by simp)
      have hBX6 : Blk (w5.setCell ⟨B5, 2, none⟩ (.slice va vn vc)) B5 69 [I x.id, .string x.lb, .slice va vn vc] := hBX5.set 2 (.slice va vn vc)
      have hg36 : G w3 (w5.setCell ⟨B5, 2, none⟩ (.slice va vn vc)) := hg35.setCell HB5S.out _
      have hb36 := hb35.fx hfx6 (by decide)
      have hso6 := (HSO.out.G hg5).off (o := 2) (u := .slice va vn vc) HNE.out hBX5 (by intro q hq; simp at hq; subst hq; decide)
      obtain ⟨i0, hi0, hz0, hz1, hz2⟩ := info_N
      have hmx : (1073741824 : Nat) ≤ maxLen := of_decide_eq_true (by kernel_rfl)
      obtain ⟨cR, hcR⟩ : ∃ cR : Raw (dNf lo0).s, cR.1 = [I x.id, .string x.lb, .slice va vn vc] := ⟨⟨[I x.id, .string x.lb, .slice va vn vc], rfl, fun u hu => by simp at hu; rcases hu with rfl | rfl | rfl <;> rfl⟩, rfl⟩
      have hrn := HRN.out
      have hil := HIL.out
      have hsm := HSM.out.n
      obtain ⟨a5, c5, w7, r1, r2, r3, r4, r5⟩ := pushN (P := Tryz.prog) (D := (dNf lo0)) (tr := 22) i0 _ 48 Tryz.underlying22 hi0 hz0 hz1 hz2 rfl (Nat.succ_pos _) hso6 cR x.full (by rw [hcR]; exact ⟨_, rfl, hs5.fx hfx6 (by decide), fun k e => by have := hf5 k e; have := HLO0.out; have := HWB.out; omega⟩) (by intro q hq; simp at hq; subst hq; decide) hg36 HFO.out (by omega) (by omega)
      rw [hcR] at r1
      have hb37 := hb36.fx r5 (by decide)
      have hfx8 : Fx [25] [] w7 (w7.setCell ⟨B3, 0, none⟩ (.slice a5 (rn + 1) c5)) := Fx.set hb37 (by simp)
      have HF : Hid (Blk (w7.setCell ⟨B3, 0, none⟩ (.slice a5 (rn + 1) c5)) B3 25 [.slice a5 (rn + 1) c5, .slice none 0 0] ∧ NRow (dNf lo0) 69 (w7.setCell ⟨B3, 0, none⟩ (.slice a5 (rn + 1) c5)) (.slice a5 (rn + 1) c5) ((ns.take (i + 1)).map Nd.full) ∧ Fresh w3 (.slice a5 (rn + 1) c5) ∧ G w3 (w7.setCell ⟨B3, 0, none⟩ (.slice a5 (rn + 1) c5))) := by
        refine ⟨hb37.set 0 _, ?_, r4, r3.setCell (by rw [HB3S.out]; exact Nat.le_refl _) _⟩
        rw [List.take_add_one, HX.out, List.map_append]
        exact r2.fx hfx8 (by decide) (by intro q hq; simp at hq; subst hq; decide)
      have kb35 := hb35.cell
      have kb36 := hb36.cell
      have kbx6 := hBX6.cell
      have kb37 := hb37.cell
      have zb37 := hb37.frozen
      have n1 := HB35.out
      have n2 : B5 ≠ B3 := fun e => n1 e.symm
      have HR := hide r1
      clear hs5 hf5 hg5 hBX5 hg35 hb35 hfx6 hBX6 hg36 hb36 hso6 hi0 hz0 hz1 hz2 hmx hcR hrn hil hsm r1 r2 r3 r4 r5 hb37 hfx8 KC kb1 kbx zbx
      go_wp2_with (first | (at_builtin; refine wpList_append_run rfl _ _ 22 rfl (.slice ra rn rc) (.slice (some ⟨w5.heap.size, 0, none⟩) 1 1) rfl rfl (by simpa using HR.out) ?_) | fail)
      obtain ⟨f1, f2, f3, f4⟩ := HF.out
      exact ⟨⟨i + 1, a5, rn + 1, c5, by rw [HW.out]; exact srl i, HIL.out, f1, f2, f3, f4⟩, by rw [HW.out]; exact sms HIL.out⟩
    · have i1 : ¬ (i : Int) < ns.length := by omega
      have htk : ns.take i = ns := List.take_of_length_le (by omega)
      have hsm := HSM.out.n
      have hln := hso.len_eq
      rw [List.length_map, htk] at hln
      obtain ⟨i0, hi0, hz0, hz1, hz2⟩ := info_N
      have hmx : (1073741824 : Nat) ≤ maxLen := of_decide_eq_true (by kernel_rfl)
      obtain ⟨cR, hcR⟩ : ∃ cR : Raw (dNf lo0).s, cR.1 = [I (-91), .string { data := #[] }, .slice none 0 0] := ⟨⟨[I (-91), .string { data := #[] }, .slice none 0 0], rfl, fun u hu => by simp at hu; rcases hu with rfl | rfl | rfl <;> rfl⟩, rfl⟩
      obtain ⟨dR, hdR⟩ : ∃ dR : Raw (dNf lo0).s, dR.1 = [I (-92), .string { data := #[] }, .slice none 0 0] := ⟨⟨[I (-92), .string { data := #[] }, .slice none 0 0], rfl, fun u hu => by simp at hu; rcases hu with rfl | rfl | rfl <;> rfl⟩, rfl⟩
      obtain ⟨a5, c5, w7, r1, r2, r3, r4, r5⟩ := pushN2 (P := Tryz.prog) (D := (dNf lo0)) (tr := 22) i0 _ 48 Tryz.underlying22 hi0 hz0 hz1 hz2 rfl (Nat.succ_pos _) hso cR dR ndM[0] ndM[1] (by rw [hcR]; exact ⟨_, rfl, Sw.nil _ _ _, fun k e => by simp [Value.ownBlock] at e⟩) (by rw [hdR]; exact ⟨_, rfl, Sw.nil _ _ _, fun k e => by simp [Value.ownBlock] at e⟩) (by intro q hq; simp at hq; subst hq; decide) hg3 hfo (by omega) (by omega)
      rw [hcR, hdR] at r1
      rw [htk] at r2
      have hb37 := hb3.fx r5 (by decide)
      have hfx8 : Fx [25] [] w7 (w7.setCell ⟨B3, 0, none⟩ (.slice a5 (rn + 2) c5)) := Fx.set hb37 (by simp)
      have HF : Hid (Blk (w7.setCell ⟨B3, 0, none⟩ (.slice a5 (rn + 2) c5)) B3 25 [.slice a5 (rn + 2) c5, .slice none 0 0] ∧ NRow (dNf lo0) 69 (w7.setCell ⟨B3, 0, none⟩ (.slice a5 (rn + 2) c5)) (.slice a5 (rn + 2) c5) (ns.map Nd.full ++ ndM) ∧ Fresh w3 (.slice a5 (rn + 2) c5) ∧ G w3 (w7.setCell ⟨B3, 0, none⟩ (.slice a5 (rn + 2) c5))) :=
        ⟨hb37.set 0 _, r2.fx hfx8 (by decide) (by intro q hq; simp at hq; subst hq; decide), r4, r3.setCell (by rw [HB3S.out]; exact Nat.le_refl _) _⟩
      have kb3 := hb3.cell
      have kb37 := hb37.cell
      have zb37 := hb37.frozen
      have HRx := hide r1
      clear hik hb3 hso hfo hg3 hB1 hil htk hsm hi0 hz0 hz1 hz2 hmx hcR hdR r1 r2 r3 r4 r5 hb37 hfx8 hln
      go_wp2_with (first | (at_builtin; refine wpList_append_run rfl _ _ 22 rfl (.slice ra rn rc) (.slice (some ⟨wr.heap.size, 0, none⟩) 2 2) rfl rfl (by simpa using HRx.out) ?_) | fail)
      clear i1 kb1 kb3 kb37 zb37 HRx
      generalize w7.setCell ⟨B3, 0, none⟩ (.slice a5 (rn + 2) c5) = w8 at HF ⊢
      generalize a5 = na at HF ⊢
      generalize rn + 2 = nn at HF ⊢
      generalize c5 = nc at HF ⊢
      go_loopw [6, 7] (fun iv _ wr => ∃ (i : Nat) (ra : Option Addr) (rn rc : Nat), iv = I i ∧ i ≤ es.length ∧ Blk wr B3 25 [.slice na nn nc, .slice ra rn rc] ∧ NRow (dEf lo0) 72 wr (.slice ra rn rc) ((es.take i).map Ed.full) ∧ Fresh w3 (.slice ra rn rc) ∧ G w3 wr ∧ NRow (dNf lo0) 69 wr (.slice na nn nc) (ns.map Nd.full ++ ndM)) (fun iv _ _ => es.length - (RowKit.intOf iv).toNat)
      case atStart =>
        obtain ⟨f1, f2, f3, f4⟩ := HF.out
        exact ⟨0, none, 0, 0, rfl, Nat.zero_le _, f1, NRow.nil _ _ _, Fresh.nil _, f4, f2⟩
      case round =>
        have HFN : Hid (Fresh w3 (.slice na nn nc)) := HF.out.2.2.1
        clear HF
        obtain ⟨i, ra, rn, rc, rfl, hik, hb3, hso, hfo, hg3, hmore⟩ := hrel
        have hB1 := HB1.out.G hg3
        have kb1 := hB1.cell
        by_cases hil : i < es.length
        · obtain ⟨x, hx⟩ : ∃ x, es[i]? = some x := ⟨_, List.getElem?_eq_getElem hil⟩
          obtain ⟨g, o, cap, qI⟩ := HS.out.2.addr (by omega)
          injection qI with q1 q2 q3
          subst q1 q3
          obtain ⟨cs, ⟨vp, hcs, hvp⟩, hr1⟩ := HS.out.2.at hx
          subst hcs
          obtain ⟨pa, pc, hvf⟩ := hvp.form
          obtain ⟨pn, hpn⟩ : ∃ pn, pn = x.ps.length := ⟨_, rfl⟩
          rw [← hpn] at hvf
          subst hvf
          have x1 : wr.cell? ⟨g, o + i * 5, none⟩ = some (I x.id) := rangeAt_G hr1 hg3 0 _ rfl
          have x2 : wr.cell? ⟨g, o + i * 5 + 1, none⟩ = some (.string x.ty) := rangeAt_G hr1 hg3 1 _ rfl
          have x3 : wr.cell? ⟨g, o + i * 5 + 2, none⟩ = some (I x.fr) := rangeAt_G hr1 hg3 2 _ rfl
          have x4 : wr.cell? ⟨g, o + i * 5 + 3, none⟩ = some (I x.to) := rangeAt_G hr1 hg3 3 _ rfl
          have x5 : wr.cell? ⟨g, o + i * 5 + 4, none⟩ = some (.slice pa pn pc) := rangeAt_G hr1 hg3 4 _ rfl
          have i1 : (i : Int) < es.length := Int.ofNat_lt.2 hil
          have hxp := HSM.out.q x (List.mem_of_getElem? hx)
          have HW : Hid (wrap64 ((i : Int) + 1) = (i : Int) + 1) := by show _ = _; have := HSM.out.e; unfold wrap64; omega
          obtain ⟨wb, hwb⟩ : ∃ wb, wb = wr.alloc (.cells #[I x.id, .string x.ty, I x.fr, I x.to, .slice pa pn pc] 72) := ⟨_, rfl⟩
          obtain ⟨B5, hB5⟩ : ∃ B5, B5 = wr.heap.size := ⟨_, rfl⟩
          have HEB : Hid (wr.alloc (.cells #[I x.id, .string x.ty, I x.fr, I x.to, .slice pa pn pc] 72) = wb) := hwb.symm
          have HE5 : Hid (wr.heap.size = B5) := hB5.symm
          have hga : G wr wb := by rw [hwb]; exact (G.refl wr).alloc _
          have hBX : Blk wb B5 72 [I x.id, .string x.ty, I x.fr, I x.to, .slice pa pn pc] := by rw [hwb, hB5]; exact Blk.new wr [I x.id, .string x.ty, I x.fr, I x.to, .slice pa pn pc] 72
          have kbx := hBX.cell
          have zbx := hBX.frozen
          have KC := hide (sroom_any x.ps _ wb ((hvp.G hg3).G hga) hxp)
          have HNE : Hid ((Value.slice ra rn rc).ownBlock ≠ some B5) := fun e => by have := hso.lt e; omega
          have hb3l := hb3.lt
          have HB35 : Hid (B3 ≠ B5) := by show _ ≠ _; omega
          have hln := hso.len_eq
          have HRN : Hid (rn = i) := by rw [Hid, ← hln, List.length_map, List.length_take]; omega
          have HBX := hide hBX; have HB3 := hide (hb3.G hga); have HSO := hide (hso.G hga); have HFO := hide hfo; have HG3 := hide (hg3.trans hga); have HX := hide hx; have HIL := hide hil
          have HWB : Hid (w3.heap.size ≤ wb.heap.size) := Nat.le_trans hg3.size hga.size
          have HB5S : Hid (w3.heap.size ≤ B5) := by show _ ≤ _; rw [hB5]; exact hg3.size
          have HMO := hide (hmore.G hga)
          clear hik hb3 hso hfo hg3 hB1 hil hx q2 hr1 hvp hpn hxp hwb hB5 hga hBX hb3l hln hmore
          go_wp2_with (first | (rw [HEB.out, HE5.out]; clear HEB HE5) | fail)
          clear i1 x1 x2 x3 x4 x5
          refine KC.out.mono ?_
          rintro e w5 ⟨va, vn, vc, rfl, hs5, hf5, hg5⟩
          have hBX5 := HBX.out.G hg5
          have kbx5 := hBX5.cell
          have zbx5 := hBX5.frozen
          have hg35 := HG3.out.trans hg5
          have hb35 := HB3.out.G hg5
          have hfx6 : Fx [72] [] w5 (w5.setCell ⟨B5, 4, none⟩ (.slice va vn vc)) := Fx.set hBX5 (by simp)
          have hBX6 : Blk (w5.setCell ⟨B5, 4, none⟩ (.slice va vn vc)) B5 72 [I x.id, .string x.ty, I x.fr, I x.to, .slice va vn vc] := hBX5.set 4 (.slice va vn vc)
          have hg36 : G w3 (w5.setCell ⟨B5, 4, none⟩ (.slice va vn vc)) := hg35.setCell HB5S.out _
          have hb36 := hb35.fx hfx6 (by decide)
          have hso6 := (HSO.out.G hg5).off (o := 4) (u := .slice va vn vc) HNE.out hBX5 (by intro q hq; simp at hq; subst hq; decide)
          obtain ⟨i0, hi0, hz0, hz1, hz2⟩ := info_E
          have hmx : (1073741824 : Nat) ≤ maxLen := of_decide_eq_true (by kernel_rfl)
          obtain ⟨cR, hcR⟩ : ∃ cR : Raw (dEf lo0).s, cR.1 = [I x.id, .string x.ty, I x.fr, I x.to, .slice va vn vc] := ⟨⟨[I x.id, .string x.ty, I x.fr, I x.to, .slice va vn vc], rfl, fun u hu => by simp at hu; rcases hu with rfl | rfl | rfl | rfl | rfl <;> rfl⟩, rfl⟩
          have hrn := HRN.out
          have hil := HIL.out
          have hsm := HSM.out.e
          obtain ⟨a5, c5, w7, r1, r2, r3, r4, r5⟩ := pushN (P := Tryz.prog) (D := (dEf lo0)) (tr := 23) i0 _ 64 Tryz.underlying23 hi0 hz0 hz1 hz2 rfl (Nat.succ_pos _) hso6 cR x.full (by rw [hcR]; exact ⟨_, rfl, hs5.fx hfx6 (by decide), fun k e => by have := hf5 k e; have := HLO0.out; have := HWB.out; omega⟩) (by intro q hq; simp at hq; subst hq; decide) hg36 HFO.out (by omega) (by omega)
          rw [hcR] at r1
          have hb37 := hb36.fx r5 (by decide)
          have hfx8 : Fx [25] [] w7 (w7.setCell ⟨B3, 1, none⟩ (.slice a5 (rn + 1) c5)) := Fx.set hb37 (by simp)
          have HF : Hid (Blk (w7.setCell ⟨B3, 1, none⟩ (.slice a5 (rn + 1) c5)) B3 25 [.slice na nn nc, .slice a5 (rn + 1) c5] ∧ NRow (dEf lo0) 72 (w7.setCell ⟨B3, 1, none⟩ (.slice a5 (rn + 1) c5)) (.slice a5 (rn + 1) c5) ((es.take (i + 1)).map Ed.full) ∧ Fresh w3 (.slice a5 (rn + 1) c5) ∧ G w3 (w7.setCell ⟨B3, 1, none⟩ (.slice a5 (rn + 1) c5)) ∧ NRow (dNf lo0) 69 (w7.setCell ⟨B3, 1, none⟩ (.slice a5 (rn + 1) c5)) (.slice na nn nc) (ns.map Nd.full ++ ndM)) := by
            refine ⟨hb37.set 1 _, ?_, r4, r3.setCell (by rw [HB3S.out]; exact Nat.le_refl _) _, (((HMO.out.G hg5).fx hfx6 (by decide) (by intro q hq; simp at hq; subst hq; decide)).fx r5 (by decide) (by intro q hq; simp at hq; subst hq; decide)).fx hfx8 (by decide) (by intro q hq; simp at hq; subst hq; decide)⟩
            rw [List.take_add_one, HX.out, List.map_append]
            exact r2.fx hfx8 (by decide) (by intro q hq; simp at hq; subst hq; decide)
          have kb35 := hb35.cell
          have kb36 := hb36.cell
          have kbx6 := hBX6.cell
          have kb37 := hb37.cell
          have zb37 := hb37.frozen
          have n1 := HB35.out
          have n2 : B5 ≠ B3 := fun e => n1 e.symm
          have HR := hide r1
          clear hs5 hf5 hg5 hBX5 hg35 hb35 hfx6 hBX6 hg36 hb36 hso6 hi0 hz0 hz1 hz2 hmx hcR hrn hil hsm r1 r2 r3 r4 r5 hb37 hfx8 KC kb1 kbx zbx
          go_wp2_with (first | (at_builtin; refine wpList_append_run rfl _ _ 23 rfl (.slice ra rn rc) (.slice (some ⟨w5.heap.size, 0, none⟩) 1 1) rfl rfl (by simpa using HR.out) ?_) | fail)
          obtain ⟨f1, f2, f3, f4, f5⟩ := HF.out
          exact ⟨⟨i + 1, a5, rn + 1, c5, by rw [HW.out]; exact srl i, HIL.out, f1, f2, f3, f4, f5⟩, by rw [HW.out]; exact sms HIL.out⟩
        · have i1 : ¬ (i : Int) < es.length := by omega
          have htk : es.take i = es := List.take_of_length_le (by omega)
          have hsm := HSM.out.e
          have hln := hso.len_eq
          rw [List.length_map, htk] at hln
          obtain ⟨i0, hi0, hz0, hz1, hz2⟩ := info_E
          have hmx : (1073741824 : Nat) ≤ maxLen := of_decide_eq_true (by kernel_rfl)
          obtain ⟨cR, hcR⟩ : ∃ cR : Raw (dEf lo0).s, cR.1 = [I (-91), .string { data := #[] }, I 0, I 0, .slice none 0 0] := ⟨⟨[I (-91), .string { data := #[] }, I 0, I 0, .slice none 0 0], rfl, fun u hu => by simp at hu; rcases hu with rfl | rfl | rfl | rfl | rfl <;> rfl⟩, rfl⟩
          obtain ⟨dR, hdR⟩ : ∃ dR : Raw (dEf lo0).s, dR.1 = [I (-92), .string { data := #[] }, I 0, I 0, .slice none 0 0] := ⟨⟨[I (-92), .string { data := #[] }, I 0, I 0, .slice none 0 0], rfl, fun u hu => by simp at hu; rcases hu with rfl | rfl | rfl | rfl | rfl <;> rfl⟩, rfl⟩
          obtain ⟨a5, c5, w7, r1, r2, r3, r4, r5⟩ := pushN2 (P := Tryz.prog) (D := (dEf lo0)) (tr := 23) i0 _ 64 Tryz.underlying23 hi0 hz0 hz1 hz2 rfl (Nat.succ_pos _) hso cR dR edM[0] edM[1] (by rw [hcR]; exact ⟨_, rfl, Sw.nil _ _ _, fun k e => by simp [Value.ownBlock] at e⟩) (by rw [hdR]; exact ⟨_, rfl, Sw.nil _ _ _, fun k e => by simp [Value.ownBlock] at e⟩) (by intro q hq; simp at hq; subst hq; decide) hg3 hfo (by omega) (by omega)
          rw [hcR, hdR] at r1
          rw [htk] at r2
          have hb37 := hb3.fx r5 (by decide)
          have hfx8 : Fx [25] [] w7 (w7.setCell ⟨B3, 1, none⟩ (.slice a5 (rn + 2) c5)) := Fx.set hb37 (by simp)
          have HF : Hid (Blk (w7.setCell ⟨B3, 1, none⟩ (.slice a5 (rn + 2) c5)) B3 25 [.slice na nn nc, .slice a5 (rn + 2) c5] ∧ NRow (dEf lo0) 72 (w7.setCell ⟨B3, 1, none⟩ (.slice a5 (rn + 2) c5)) (.slice a5 (rn + 2) c5) (es.map Ed.full ++ edM) ∧ Fresh w3 (.slice a5 (rn + 2) c5) ∧ G w3 (w7.setCell ⟨B3, 1, none⟩ (.slice a5 (rn + 2) c5)) ∧ NRow (dNf lo0) 69 (w7.setCell ⟨B3, 1, none⟩ (.slice a5 (rn + 2) c5)) (.slice na nn nc) (ns.map Nd.full ++ ndM)) :=
            ⟨hb37.set 1 _, r2.fx hfx8 (by decide) (by intro q hq; simp at hq; subst hq; decide), r4, r3.setCell (by rw [HB3S.out]; exact Nat.le_refl _) _, (hmore.fx r5 (by decide) (by intro q hq; simp at hq; subst hq; decide)).fx hfx8 (by decide) (by intro q hq; simp at hq; subst hq; decide)⟩
          have kb3 := hb3.cell
          have kb37 := hb37.cell
          have zb37 := hb37.frozen
          have HRx := hide r1
          clear hik hb3 hso hfo hg3 hB1 hil htk hsm hi0 hz0 hz1 hz2 hmx hcR hdR r1 r2 r3 r4 r5 hb37 hfx8 hln hmore
          have hb2 := HB2.out.G HF.out.2.2.2.1
          have kb2 := hb2.cell
          have zb2 := hb2.frozen
          have kb9 := HF.out.1.cell
          have n3 := HB23.out
          have n4 : B3 ≠ B2 := fun e => n3 e.symm
          have hC9 := (hb2.set 0 (.slice na nn nc)).set 1 (.slice a5 (rn + 2) c5)
          have hF9 : Hid (NRow (dNf lo0) 69 (((w7.setCell ⟨B3, 1, none⟩ (.slice a5 (rn + 2) c5)).setCell ⟨B2, 0, none⟩ (.slice na nn nc)).setCell ⟨B2, 1, none⟩ (.slice a5 (rn + 2) c5)) (.slice na nn nc) (ns.map Nd.full ++ ndM) ∧ NRow (dEf lo0) 72 (((w7.setCell ⟨B3, 1, none⟩ (.slice a5 (rn + 2) c5)).setCell ⟨B2, 0, none⟩ (.slice na nn nc)).setCell ⟨B2, 1, none⟩ (.slice a5 (rn + 2) c5)) (.slice a5 (rn + 2) c5) (es.map Ed.full ++ edM) ∧ G W (((w7.setCell ⟨B3, 1, none⟩ (.slice a5 (rn + 2) c5)).setCell ⟨B2, 0, none⟩ (.slice na nn nc)).setCell ⟨B2, 1, none⟩ (.slice a5 (rn + 2) c5))) := by
            obtain ⟨f1, f2, f3, f4, f5⟩ := HF.out
            have k9 : Fx [25] [] (w7.setCell ⟨B3, 1, none⟩ (.slice a5 (rn + 2) c5)) _ := (Fx.set hb2 (by simp) (o := 0) (v := .slice na nn nc)).trans (Fx.set (hb2.set 0 _) (by simp) (o := 1) (v := .slice a5 (rn + 2) c5))
            exact ⟨f5.fx k9 (by decide) (by intro q hq; simp at hq; subst hq; decide), f2.fx k9 (by decide) (by intro q hq; simp at hq; subst hq; decide), ((HGW.out.trans f4).setCell HB2S.out _).setCell HB2S.out _⟩
          clear hb2
          go_wp2_with (first | (at_builtin; refine wpList_append_run rfl _ _ 23 rfl (.slice ra rn rc) (.slice (some ⟨wr.heap.size, 0, none⟩) 2 2) rfl rfl (by simpa using HRx.out) ?_) | fail)
          exact bodyPost_ret_by (v := .agg #[.slice na nn nc, .slice a5 (rn + 2) c5]) (results_cell_row Tryz.results7 _ _ B2 25 _ (0, 0) _ rfl hC9.h Tryz.underlying25 rfl (by kernel_rfl)) rfl ⟨na, nn, nc, a5, rn + 2, c5, rfl, hF9.out.1, hF9.out.2.1, HFN.out.old HGW.out, HF.out.2.2.1.old HGW.out, hF9.out.2.2⟩
end Go.Proofs.YtifioikdhfhljaaGreatDoor
