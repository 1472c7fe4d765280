/- Graphs: what was handed in is written full. -/
import Derived.Test.YtifioikdhfhljaaGreatDoorSh15
namespace Go.Proofs.YtifioikdhfhljaaGreatDoor
open Go.RowKit

/-- A list of properties that can be written to, all below lo. -/
def SP (F : Nat → Prop) (w : World) (v : Value) : Prop := ∃ a k c, v = .slice a k c ∧ k ≤ 1048578 ∧ (k = 0 ∨ ∃ h ys, a = some ⟨h, 0, none⟩ ∧ F h ∧ Blk w h 101 ys ∧ k * 5 ≤ ys.length)
/-- A list of things of s cells whose last is such a list. -/
def Shp (F : Nat → Prop) (w : World) (T : TypeId) (s : Nat) (a : Option Addr) (n : Nat) : Prop := n = 0 ∨ ∃ g xs, a = some ⟨g, 0, none⟩ ∧ F g ∧ Blk w g T xs ∧ n * s ≤ xs.length ∧ ∀ i, i < n → ∃ v, xs[i * s + (s - 1)]? = some v ∧ SP F w v
/-- Blocks keep their sizes, and which lists of properties they name. -/
def Fq (w w' : World) : Prop := ∀ k t xs, Blk w k t xs → ∃ ys, Blk w' k t ys ∧ ys.length = xs.length ∧ (t = 69 → ∀ i, ys[i * 3 + 2]? = xs[i * 3 + 2]?) ∧ (t = 72 → ∀ i, ys[i * 5 + 4]? = xs[i * 5 + 4]?)
theorem Fq.refl (w : World) : Fq w w := fun _ _ xs h => ⟨xs, h, rfl, fun _ _ => rfl, fun _ _ => rfl⟩
theorem Fq.trans {a b c : World} (h : Fq a b) (k : Fq b c) : Fq a c := fun i t xs hx => by
  obtain ⟨ys, h1, h2, h3, h4⟩ := h i t xs hx
  obtain ⟨zs, k1, k2, k3, k4⟩ := k i t ys h1
  exact ⟨zs, k1, k2.trans h2, fun e j => (k3 e j).trans (h3 e j), fun e j => (k4 e j).trans (h4 e j)⟩
theorem Fq.set {w : World} {g o : Nat} {t : TypeId} {xs : List Value} {v : Value} (hb : Blk w g t xs) (h1 : t = 69 → ∀ i, i * 3 + 2 ≠ o) (h2 : t = 72 → ∀ i, i * 5 + 4 ≠ o) : Fq w (w.setCell ⟨g, o, none⟩ v) := fun k t' ys hy => by
  by_cases hk : k = g
  · subst hk
    obtain ⟨rfl, rfl⟩ := hb.type hy
    exact ⟨_, hb.set o v, by rw [List.length_set], fun e i => List.getElem?_set_ne (fun q => h1 e i q.symm), fun e i => List.getElem?_set_ne (fun q => h2 e i q.symm)⟩
  · exact ⟨ys, hy.off hk, rfl, fun _ _ => rfl, fun _ _ => rfl⟩
theorem SP.fl {F : Nat → Prop} {w w' : World} {v : Value} (h : SP F w v) (k : Fq w w') : SP F w' v := by
  obtain ⟨a, n, c, rfl, hn, h⟩ := h
  refine ⟨a, n, c, rfl, hn, h.imp id fun ⟨b, ys, e1, e2, e3, e4⟩ => ?_⟩
  obtain ⟨zs, k1, k2, _⟩ := k b _ ys e3
  exact ⟨b, zs, e1, e2, k1, by omega⟩
theorem ShpN.fl {F : Nat → Prop} {w w' : World} {a : Option Addr} {n : Nat} (h : Shp F w 69 3 a n) (k : Fq w w') : Shp F w' 69 3 a n := h.imp id fun ⟨g, xs, e1, e2, e3, e4, e5⟩ => by
  obtain ⟨zs, k1, k2, k3, _⟩ := k g _ xs e3
  exact ⟨g, zs, e1, e2, k1, by omega, fun i hi => by
    obtain ⟨v, q1, q2⟩ := e5 i hi
    exact ⟨v, (k3 rfl i).trans q1, q2.fl k⟩⟩
theorem ShpE.fl {F : Nat → Prop} {w w' : World} {a : Option Addr} {n : Nat} (h : Shp F w 72 5 a n) (k : Fq w w') : Shp F w' 72 5 a n := h.imp id fun ⟨g, xs, e1, e2, e3, e4, e5⟩ => by
  obtain ⟨zs, k1, k2, _, k3⟩ := k g _ xs e3
  exact ⟨g, zs, e1, e2, k1, by omega, fun i hi => by
    obtain ⟨v, q1, q2⟩ := e5 i hi
    exact ⟨v, (k3 rfl i).trans q1, q2.fl k⟩⟩
theorem SP.of {lo : Nat} {w : World} {v : Value} {l : List Pv} (h : Sw eP 101 w v l) (hb : ∀ k, v.ownBlock = some k → lo ≤ k) (hl : l.length ≤ 1048578) : SP (fun k => lo ≤ k ∧ k < w.heap.size) w v := by
  rcases h with ⟨rfl, _⟩ | ⟨g, cap, rest, rfl, h2, h3, h4, h5⟩
  · exact ⟨none, 0, 0, rfl, by omega, .inl rfl⟩
  · refine ⟨_, _, _, rfl, hl, .inr ⟨g, _, rfl, ⟨hb g rfl, h2.lt⟩, h2, ?_⟩⟩
    rw [List.length_append, flE_len]
    exact Nat.le_add_right _ _
theorem Fq.of_G {w w' : World} (h : G w w') : Fq w w' := fun _ _ xs hx => ⟨xs, hx.G h, rfl, fun _ _ => rfl, fun _ _ => rfl⟩
theorem shpN {lo : Nat} {w : World} {a : Option Addr} {n c : Nat} {l m : List Nd} (h : NRow (dNf lo) 69 w (.slice a n c) (l ++ m)) (hl : ∀ x ∈ l, x.ps.length ≤ 1048576) (hf : ∀ k, (Value.slice a n c).ownBlock = some k → lo ≤ k) : Shp (fun k => lo ≤ k ∧ k < w.heap.size) w 69 3 a l.length := by
  by_cases h0 : l.length = 0
  · exact .inl h0
  obtain ⟨x0, hx0⟩ : ∃ x, l[0]? = some x := ⟨_, List.getElem?_eq_getElem (by omega)⟩
  obtain ⟨g, _, rfl, _, _, _, _, xs, hb⟩ := h.at (i := 0) (x := x0) (by rw [List.getElem?_append_left (by omega)]; exact hx0)
  have hall : ∀ i, i < l.length → ∃ v, xs[i * 3 + (3 - 1)]? = some v ∧ SP (fun k => lo ≤ k ∧ k < w.heap.size) w v := fun i hi => by
    obtain ⟨x, hx⟩ : ∃ x, l[i]? = some x := ⟨_, List.getElem?_eq_getElem hi⟩
    obtain ⟨g', cs, e, _, ⟨v, hcs, hv, hvb⟩, _, hc, _⟩ := h.at (i := i) (x := x) (by rw [List.getElem?_append_left hi]; exact hx)
    injection e with e
    injection e with e
    subst e
    refine ⟨v, ?_, SP.of hv hvb (by have := hl x (List.mem_of_getElem? hx); omega)⟩
    have := hc 2 (Nat.lt_succ_self _)
    rw [hcs, hb.cell] at this
    exact this
  refine .inr ⟨g, xs, rfl, ⟨hf g rfl, hb.lt⟩, hb, ?_, hall⟩
  obtain ⟨v, hv, _⟩ := hall (l.length - 1) (by omega)
  have := (List.getElem?_eq_some_iff.1 hv).1
  omega
theorem shpE {lo : Nat} {w : World} {a : Option Addr} {n c : Nat} {l m : List Ed} (h : NRow (dEf lo) 72 w (.slice a n c) (l ++ m)) (hl : ∀ x ∈ l, x.ps.length ≤ 1048576) (hf : ∀ k, (Value.slice a n c).ownBlock = some k → lo ≤ k) : Shp (fun k => lo ≤ k ∧ k < w.heap.size) w 72 5 a l.length := by
  by_cases h0 : l.length = 0
  · exact .inl h0
  obtain ⟨x0, hx0⟩ : ∃ x, l[0]? = some x := ⟨_, List.getElem?_eq_getElem (by omega)⟩
  obtain ⟨g, _, rfl, _, _, _, _, xs, hb⟩ := h.at (i := 0) (x := x0) (by rw [List.getElem?_append_left (by omega)]; exact hx0)
  have hall : ∀ i, i < l.length → ∃ v, xs[i * 5 + (5 - 1)]? = some v ∧ SP (fun k => lo ≤ k ∧ k < w.heap.size) w v := fun i hi => by
    obtain ⟨x, hx⟩ : ∃ x, l[i]? = some x := ⟨_, List.getElem?_eq_getElem hi⟩
    obtain ⟨g', cs, e, _, ⟨v, hcs, hv, hvb⟩, _, hc, _⟩ := h.at (i := i) (x := x) (by rw [List.getElem?_append_left hi]; exact hx)
    injection e with e
    injection e with e
    subst e
    refine ⟨v, ?_, SP.of hv hvb (by have := hl x (List.mem_of_getElem? hx); omega)⟩
    have := hc 4 (Nat.lt_succ_self _)
    rw [hcs, hb.cell] at this
    exact this
  refine .inr ⟨g, xs, rfl, ⟨hf g rfl, hb.lt⟩, hb, ?_, hall⟩
  obtain ⟨v, hv, _⟩ := hall (l.length - 1) (by omega)
  have := (List.getElem?_eq_some_iff.1 hv).1
  omega
set_option maxRecDepth 100000 in
set_option maxHeartbeats 4000000 in
theorem sfill_any (F : Nat → Prop) (na : Option Addr) (kn nc : Nat) (ea : Option Addr) (ke ec : Nat) (W : World) (h1 : Shp F W 69 3 na kn) (h2 : Shp F W 72 5 ea ke) (hk : kn ≤ 1048576 ∧ ke ≤ 1048576) : Calls Tryz.prog 15 #[.slice na kn nc, .slice ea ke ec] W fun e W' => e = .returned (.tuple #[]) ∧ Chg F W W' := by
  have H1 := hide h1; have H2 := hide h2; have HK := hide hk
  clear h1 h2 hk
  go_enter Tryz.func15, Tryz.ntmps15
  go_wp2_with fail
  go_loopw [5, 4, 6] (fun iv mv _ wr => ∃ (i : Nat) (m : Int), iv = I i ∧ mv = I m ∧ i ≤ kn ∧ Fq W wr ∧ Chg F W wr) (fun iv _ _ _ => kn - (RowKit.intOf iv).toNat)
  case atStart => exact ⟨0, _, rfl, rfl, Nat.zero_le _, Fq.refl _, Chg.refl _ _⟩
  case round =>
    obtain ⟨i, m0, rfl, rfl, hik, hflW, hchW⟩ := hrel
    have hkn := HK.out
    by_cases hil : i < kn
    · have i1 : (i : Int) < (kn : Int) := by omega
      have HWI : Hid (wrap64 ((i : Int) + 1) = (i : Int) + 1) := by show _ = _; unfold wrap64; omega
      have HI : Hid (∃ (pa : Option Addr) (pk pc : Nat) (g : Nat) (xs : List Value), na = some ⟨g, 0, none⟩ ∧ F g ∧ Blk wr g 69 xs ∧ xs[i * 3 + 2]? = some (.slice pa pk pc) ∧ pk ≤ 1048578 ∧ (pk = 0 ∨ ∃ h ys, pa = some ⟨h, 0, none⟩ ∧ F h ∧ Blk wr h 101 ys ∧ pk * 5 ≤ ys.length)) := by
        rcases ShpN.fl H1.out hflW with h0 | ⟨g, xs, e1, e2, e3, e4, e5⟩
        · omega
        · obtain ⟨v, q1, pa, pk, pc, rfl, q2, q3⟩ := e5 i hil
          exact ⟨pa, pk, pc, g, xs, e1, e2, e3, q1, q2, q3⟩
      have HFW := hide (And.intro hflW hchW); have HIL := hide hil
      obtain ⟨wo, hwo⟩ : ∃ wo, wo = wr := ⟨_, rfl⟩
      subst hwo
      clear hik hflW hchW hkn hil
      go_wp2_with fail
      go_loopw [6, 4] (fun jv mv wr => ∃ (j : Nat) (m : Int), jv = I j ∧ mv = I m ∧ j ≤ 1048578 ∧ Fq wo wr ∧ Chg F wo wr) (fun jv _ _ => 1048578 - (RowKit.intOf jv).toNat)
      case atStart => exact ⟨0, m0, rfl, rfl, Nat.zero_le _, Fq.refl _, Chg.refl _ _⟩
      case round =>
        obtain ⟨j, m, rfl, rfl, hjk, hfl, hch⟩ := hrel
        obtain ⟨pa, pk, pc, g, xs, rfl, hglt, hblk, hx1, hpk, hsp⟩ := HI.out
        obtain ⟨xs', hb', hlen', hn', he'⟩ := hfl g _ xs hblk
        have x1 : wr.cell? ⟨g, i * 3 + 2, none⟩ = some (.slice pa pk pc) := (hb'.cell _).trans ((hn' rfl i).trans hx1)
        by_cases hjl : j < pk
        · have k1 : (j : Int) < (pk : Int) := by omega
          have HW : Hid (wrap64 ((j : Int) + 1) = (j : Int) + 1) := by show _ = _; unfold wrap64; omega
          rcases hsp with h0 | ⟨b, ys0, rfl, hlo, hbb0, hys0⟩
          · omega
          obtain ⟨ys, hbb, hys, -⟩ := hfl b _ ys0 hbb0
          obtain ⟨u0, hu0⟩ : ∃ u, ys[j * 5]? = some u := ⟨_, List.getElem?_eq_getElem (by omega)⟩
          have y0 : wr.cell? ⟨b, j * 5, none⟩ = some u0 := (hbb.cell _).trans hu0
          obtain ⟨u1, hu1⟩ : ∃ u, ys[j * 5 + 1]? = some u := ⟨_, List.getElem?_eq_getElem (by omega)⟩
          have y1 : wr.cell? ⟨b, j * 5 + 1, none⟩ = some u1 := (hbb.cell _).trans hu1
          obtain ⟨u2, hu2⟩ : ∃ u, ys[j * 5 + 2]? = some u := ⟨_, List.getElem?_eq_getElem (by omega)⟩
          have y2 : wr.cell? ⟨b, j * 5 + 2, none⟩ = some u2 := (hbb.cell _).trans hu2
          obtain ⟨u3, hu3⟩ : ∃ u, ys[j * 5 + 3]? = some u := ⟨_, List.getElem?_eq_getElem (by omega)⟩
          have y3 : wr.cell? ⟨b, j * 5 + 3, none⟩ = some u3 := (hbb.cell _).trans hu3
          obtain ⟨u4, hu4⟩ : ∃ u, ys[j * 5 + 4]? = some u := ⟨_, List.getElem?_eq_getElem (by omega)⟩
          have y4 : wr.cell? ⟨b, j * 5 + 4, none⟩ = some u4 := (hbb.cell _).trans hu4
          have zb := hbb.frozen
          have HF : Hid (j < 1048578 ∧ Fq wo (((((wr.setCell ⟨b, j * 5, none⟩ (.string { data := #[115, 112, 111, 105, 108, 116] })).setCell ⟨b, j * 5 + 1, none⟩ (I 2)).setCell ⟨b, j * 5 + 2, none⟩ (I (wrap64 (m + 1)))).setCell ⟨b, j * 5 + 3, none⟩ (I 0)).setCell ⟨b, j * 5 + 4, none⟩ (.string { data := #[] })) ∧ Chg F wo (((((wr.setCell ⟨b, j * 5, none⟩ (.string { data := #[115, 112, 111, 105, 108, 116] })).setCell ⟨b, j * 5 + 1, none⟩ (I 2)).setCell ⟨b, j * 5 + 2, none⟩ (I (wrap64 (m + 1)))).setCell ⟨b, j * 5 + 3, none⟩ (I 0)).setCell ⟨b, j * 5 + 4, none⟩ (.string { data := #[] }))) := ⟨by omega, hfl.trans (((((Fq.set hbb (o := j * 5) (v := .string { data := #[115, 112, 111, 105, 108, 116] }) (fun e => absurd e (by decide)) (fun e => absurd e (by decide))).trans (Fq.set (hbb.set (j * 5) (.string { data := #[115, 112, 111, 105, 108, 116] })) (o := j * 5 + 1) (v := I 2) (fun e => absurd e (by decide)) (fun e => absurd e (by decide)))).trans (Fq.set ((hbb.set (j * 5) (.string { data := #[115, 112, 111, 105, 108, 116] })).set (j * 5 + 1) (I 2)) (o := j * 5 + 2) (v := I (wrap64 (m + 1))) (fun e => absurd e (by decide)) (fun e => absurd e (by decide)))).trans (Fq.set (((hbb.set (j * 5) (.string { data := #[115, 112, 111, 105, 108, 116] })).set (j * 5 + 1) (I 2)).set (j * 5 + 2) (I (wrap64 (m + 1)))) (o := j * 5 + 3) (v := I 0) (fun e => absurd e (by decide)) (fun e => absurd e (by decide)))).trans (Fq.set ((((hbb.set (j * 5) (.string { data := #[115, 112, 111, 105, 108, 116] })).set (j * 5 + 1) (I 2)).set (j * 5 + 2) (I (wrap64 (m + 1)))).set (j * 5 + 3) (I 0)) (o := j * 5 + 4) (v := .string { data := #[] }) (fun e => absurd e (by decide)) (fun e => absurd e (by decide)))), hch.trans (((((chg_setCell (F := F) wr (b := b) (o := j * 5) (.string { data := #[115, 112, 111, 105, 108, 116] }) (.inl hlo)).trans (chg_setCell (F := F) (wr.setCell ⟨b, j * 5, none⟩ (.string { data := #[115, 112, 111, 105, 108, 116] })) (b := b) (o := j * 5 + 1) (I 2) (.inl hlo))).trans (chg_setCell (F := F) ((wr.setCell ⟨b, j * 5, none⟩ (.string { data := #[115, 112, 111, 105, 108, 116] })).setCell ⟨b, j * 5 + 1, none⟩ (I 2)) (b := b) (o := j * 5 + 2) (I (wrap64 (m + 1))) (.inl hlo))).trans (chg_setCell (F := F) (((wr.setCell ⟨b, j * 5, none⟩ (.string { data := #[115, 112, 111, 105, 108, 116] })).setCell ⟨b, j * 5 + 1, none⟩ (I 2)).setCell ⟨b, j * 5 + 2, none⟩ (I (wrap64 (m + 1)))) (b := b) (o := j * 5 + 3) (I 0) (.inl hlo))).trans (chg_setCell (F := F) ((((wr.setCell ⟨b, j * 5, none⟩ (.string { data := #[115, 112, 111, 105, 108, 116] })).setCell ⟨b, j * 5 + 1, none⟩ (I 2)).setCell ⟨b, j * 5 + 2, none⟩ (I (wrap64 (m + 1)))).setCell ⟨b, j * 5 + 3, none⟩ (I 0)) (b := b) (o := j * 5 + 4) (.string { data := #[] }) (.inl hlo)))⟩
          clear hjk hfl hch hglt hblk hx1 hpk hb' hlen' hn' he' hjl hlo hbb0 hys0 hbb hys hu0 hu1 hu2 hu3 hu4
          go_wp2_with fail
          exact ⟨⟨j + 1, _, by rw [HW.out]; exact srl j, rfl, HF.out.1, HF.out.2.1, HF.out.2.2⟩, by rw [HW.out]; exact sms HF.out.1⟩
        · have k1 : ¬ (j : Int) < (pk : Int) := by omega
          have zb := hb'.frozen
          obtain ⟨z9, hz9⟩ : ∃ u, xs'[i * 3 + 1]? = some u := ⟨_, List.getElem?_eq_getElem (by have := (List.getElem?_eq_some_iff.1 hx1).1; omega)⟩
          have y9 : wr.cell? ⟨g, i * 3 + 1, none⟩ = some z9 := (hb'.cell _).trans hz9
          have HF : Hid (i < kn ∧ Fq W (wr.setCell ⟨g, i * 3 + 1, none⟩ (.string { data := #[115, 112, 111, 105, 108, 116] })) ∧ Chg F W (wr.setCell ⟨g, i * 3 + 1, none⟩ (.string { data := #[115, 112, 111, 105, 108, 116] }))) := ⟨HIL.out, (HFW.out.1.trans hfl).trans (Fq.set hb' (fun e q => by omega) (fun e q => by exact absurd e (by decide))), (HFW.out.2.trans hch).trans (chg_setCell (F := F) wr (.string { data := #[115, 112, 111, 105, 108, 116] }) (.inl hglt))⟩
          clear hjk hfl hch hglt hblk hx1 hpk hsp hb' hlen' hn' he' hjl hz9
          go_wp2_with fail
          exact ⟨⟨i + 1, m, by rw [HWI.out]; exact srl i, rfl, HF.out.1, HF.out.2.1, HF.out.2.2⟩, by rw [HWI.out]; exact sms HF.out.1⟩
    · have i1 : ¬ (i : Int) < (kn : Int) := by omega
      have HFW := hide (And.intro hflW hchW)
      clear hik hflW hchW hkn hil
      go_wp2_with fail
      clear i1
      go_loopw [7, 4, 8] (fun iv mv _ wr => ∃ (i : Nat) (m : Int), iv = I i ∧ mv = I m ∧ i ≤ ke ∧ Fq W wr ∧ Chg F W wr) (fun iv _ _ _ => ke - (RowKit.intOf iv).toNat)
      case atStart => exact ⟨0, m0, rfl, rfl, Nat.zero_le _, HFW.out.1, HFW.out.2⟩
      case round =>
        clear HFW
        obtain ⟨i, m0, rfl, rfl, hik, hflW, hchW⟩ := hrel
        have hkn := HK.out
        by_cases hil : i < ke
        · have i1 : (i : Int) < (ke : Int) := by omega
          have HWI : Hid (wrap64 ((i : Int) + 1) = (i : Int) + 1) := by show _ = _; unfold wrap64; omega
          have HI : Hid (∃ (pa : Option Addr) (pk pc : Nat) (g : Nat) (xs : List Value), ea = some ⟨g, 0, none⟩ ∧ F g ∧ Blk wr g 72 xs ∧ xs[i * 5 + 4]? = some (.slice pa pk pc) ∧ pk ≤ 1048578 ∧ (pk = 0 ∨ ∃ h ys, pa = some ⟨h, 0, none⟩ ∧ F h ∧ Blk wr h 101 ys ∧ pk * 5 ≤ ys.length)) := by
            rcases ShpE.fl H2.out hflW with h0 | ⟨g, xs, e1, e2, e3, e4, e5⟩
            · omega
            · obtain ⟨v, q1, pa, pk, pc, rfl, q2, q3⟩ := e5 i hil
              exact ⟨pa, pk, pc, g, xs, e1, e2, e3, q1, q2, q3⟩
          have HFW := hide (And.intro hflW hchW); have HIL := hide hil
          obtain ⟨wo, hwo⟩ : ∃ wo, wo = wr := ⟨_, rfl⟩
          subst hwo
          clear hik hflW hchW hkn hil
          go_wp2_with fail
          go_loopw [8, 4] (fun jv mv wr => ∃ (j : Nat) (m : Int), jv = I j ∧ mv = I m ∧ j ≤ 1048578 ∧ Fq wo wr ∧ Chg F wo wr) (fun jv _ _ => 1048578 - (RowKit.intOf jv).toNat)
          case atStart => exact ⟨0, m0, rfl, rfl, Nat.zero_le _, Fq.refl _, Chg.refl _ _⟩
          case round =>
            obtain ⟨j, m, rfl, rfl, hjk, hfl, hch⟩ := hrel
            obtain ⟨pa, pk, pc, g, xs, rfl, hglt, hblk, hx1, hpk, hsp⟩ := HI.out
            obtain ⟨xs', hb', hlen', hn', he'⟩ := hfl g _ xs hblk
            have x1 : wr.cell? ⟨g, i * 5 + 4, none⟩ = some (.slice pa pk pc) := (hb'.cell _).trans ((he' rfl i).trans hx1)
            by_cases hjl : j < pk
            · have k1 : (j : Int) < (pk : Int) := by omega
              have HW : Hid (wrap64 ((j : Int) + 1) = (j : Int) + 1) := by show _ = _; unfold wrap64; omega
              rcases hsp with h0 | ⟨b, ys0, rfl, hlo, hbb0, hys0⟩
              · omega
              obtain ⟨ys, hbb, hys, -⟩ := hfl b _ ys0 hbb0
              obtain ⟨u0, hu0⟩ : ∃ u, ys[j * 5]? = some u := ⟨_, List.getElem?_eq_getElem (by omega)⟩
              have y0 : wr.cell? ⟨b, j * 5, none⟩ = some u0 := (hbb.cell _).trans hu0
              obtain ⟨u1, hu1⟩ : ∃ u, ys[j * 5 + 1]? = some u := ⟨_, List.getElem?_eq_getElem (by omega)⟩
              have y1 : wr.cell? ⟨b, j * 5 + 1, none⟩ = some u1 := (hbb.cell _).trans hu1
              obtain ⟨u2, hu2⟩ : ∃ u, ys[j * 5 + 2]? = some u := ⟨_, List.getElem?_eq_getElem (by omega)⟩
              have y2 : wr.cell? ⟨b, j * 5 + 2, none⟩ = some u2 := (hbb.cell _).trans hu2
              obtain ⟨u3, hu3⟩ : ∃ u, ys[j * 5 + 3]? = some u := ⟨_, List.getElem?_eq_getElem (by omega)⟩
              have y3 : wr.cell? ⟨b, j * 5 + 3, none⟩ = some u3 := (hbb.cell _).trans hu3
              obtain ⟨u4, hu4⟩ : ∃ u, ys[j * 5 + 4]? = some u := ⟨_, List.getElem?_eq_getElem (by omega)⟩
              have y4 : wr.cell? ⟨b, j * 5 + 4, none⟩ = some u4 := (hbb.cell _).trans hu4
              have zb := hbb.frozen
              have HF : Hid (j < 1048578 ∧ Fq wo (((((wr.setCell ⟨b, j * 5, none⟩ (.string { data := #[115, 112, 111, 105, 108, 116] })).setCell ⟨b, j * 5 + 1, none⟩ (I 2)).setCell ⟨b, j * 5 + 2, none⟩ (I (wrap64 (m + 1)))).setCell ⟨b, j * 5 + 3, none⟩ (I 0)).setCell ⟨b, j * 5 + 4, none⟩ (.string { data := #[] })) ∧ Chg F wo (((((wr.setCell ⟨b, j * 5, none⟩ (.string { data := #[115, 112, 111, 105, 108, 116] })).setCell ⟨b, j * 5 + 1, none⟩ (I 2)).setCell ⟨b, j * 5 + 2, none⟩ (I (wrap64 (m + 1)))).setCell ⟨b, j * 5 + 3, none⟩ (I 0)).setCell ⟨b, j * 5 + 4, none⟩ (.string { data := #[] }))) := ⟨by omega, hfl.trans (((((Fq.set hbb (o := j * 5) (v := .string { data := #[115, 112, 111, 105, 108, 116] }) (fun e => absurd e (by decide)) (fun e => absurd e (by decide))).trans (Fq.set (hbb.set (j * 5) (.string { data := #[115, 112, 111, 105, 108, 116] })) (o := j * 5 + 1) (v := I 2) (fun e => absurd e (by decide)) (fun e => absurd e (by decide)))).trans (Fq.set ((hbb.set (j * 5) (.string { data := #[115, 112, 111, 105, 108, 116] })).set (j * 5 + 1) (I 2)) (o := j * 5 + 2) (v := I (wrap64 (m + 1))) (fun e => absurd e (by decide)) (fun e => absurd e (by decide)))).trans (Fq.set (((hbb.set (j * 5) (.string { data := #[115, 112, 111, 105, 108, 116] })).set (j * 5 + 1) (I 2)).set (j * 5 + 2) (I (wrap64 (m + 1)))) (o := j * 5 + 3) (v := I 0) (fun e => absurd e (by decide)) (fun e => absurd e (by decide)))).trans (Fq.set ((((hbb.set (j * 5) (.string { data := #[115, 112, 111, 105, 108, 116] })).set (j * 5 + 1) (I 2)).set (j * 5 + 2) (I (wrap64 (m + 1)))).set (j * 5 + 3) (I 0)) (o := j * 5 + 4) (v := .string { data := #[] }) (fun e => absurd e (by decide)) (fun e => absurd e (by decide)))), hch.trans (((((chg_setCell (F := F) wr (b := b) (o := j * 5) (.string { data := #[115, 112, 111, 105, 108, 116] }) (.inl hlo)).trans (chg_setCell (F := F) (wr.setCell ⟨b, j * 5, none⟩ (.string { data := #[115, 112, 111, 105, 108, 116] })) (b := b) (o := j * 5 + 1) (I 2) (.inl hlo))).trans (chg_setCell (F := F) ((wr.setCell ⟨b, j * 5, none⟩ (.string { data := #[115, 112, 111, 105, 108, 116] })).setCell ⟨b, j * 5 + 1, none⟩ (I 2)) (b := b) (o := j * 5 + 2) (I (wrap64 (m + 1))) (.inl hlo))).trans (chg_setCell (F := F) (((wr.setCell ⟨b, j * 5, none⟩ (.string { data := #[115, 112, 111, 105, 108, 116] })).setCell ⟨b, j * 5 + 1, none⟩ (I 2)).setCell ⟨b, j * 5 + 2, none⟩ (I (wrap64 (m + 1)))) (b := b) (o := j * 5 + 3) (I 0) (.inl hlo))).trans (chg_setCell (F := F) ((((wr.setCell ⟨b, j * 5, none⟩ (.string { data := #[115, 112, 111, 105, 108, 116] })).setCell ⟨b, j * 5 + 1, none⟩ (I 2)).setCell ⟨b, j * 5 + 2, none⟩ (I (wrap64 (m + 1)))).setCell ⟨b, j * 5 + 3, none⟩ (I 0)) (b := b) (o := j * 5 + 4) (.string { data := #[] }) (.inl hlo)))⟩
              clear hjk hfl hch hglt hblk hx1 hpk hb' hlen' hn' he' hjl hlo hbb0 hys0 hbb hys hu0 hu1 hu2 hu3 hu4
              go_wp2_with fail
              exact ⟨⟨j + 1, _, by rw [HW.out]; exact srl j, rfl, HF.out.1, HF.out.2.1, HF.out.2.2⟩, by rw [HW.out]; exact sms HF.out.1⟩
            · have k1 : ¬ (j : Int) < (pk : Int) := by omega
              have zb := hb'.frozen
              obtain ⟨z9, hz9⟩ : ∃ u, xs'[i * 5 + 1]? = some u := ⟨_, List.getElem?_eq_getElem (by have := (List.getElem?_eq_some_iff.1 hx1).1; omega)⟩
              have y9 : wr.cell? ⟨g, i * 5 + 1, none⟩ = some z9 := (hb'.cell _).trans hz9
              have HF : Hid (i < ke ∧ Fq W (wr.setCell ⟨g, i * 5 + 1, none⟩ (.string { data := #[115, 112, 111, 105, 108, 116] })) ∧ Chg F W (wr.setCell ⟨g, i * 5 + 1, none⟩ (.string { data := #[115, 112, 111, 105, 108, 116] }))) := ⟨HIL.out, (HFW.out.1.trans hfl).trans (Fq.set hb' (fun e q => by exact absurd e (by decide)) (fun e q => by omega)), (HFW.out.2.trans hch).trans (chg_setCell (F := F) wr (.string { data := #[115, 112, 111, 105, 108, 116] }) (.inl hglt))⟩
              clear hjk hfl hch hglt hblk hx1 hpk hsp hb' hlen' hn' he' hjl hz9
              go_wp2_with fail
              exact ⟨⟨i + 1, m, by rw [HWI.out]; exact srl i, rfl, HF.out.1, HF.out.2.1, HF.out.2.2⟩, by rw [HWI.out]; exact sms HF.out.1⟩
        · have i1 : ¬ (i : Int) < (ke : Int) := by omega
          have HFW := hide (And.intro hflW hchW)
          clear hik hflW hchW hkn hil
          go_wp2_with fail
          exact bodyPost_end (results_none (by kernel_rfl) _ _ _) rfl ⟨rfl, HFW.out.2⟩
end Go.Proofs.YtifioikdhfhljaaGreatDoor
