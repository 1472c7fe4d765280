/- Graphs: the lists behind their marks. -/
import Derived.Test.YtifioikdhfhljaaGreatDoorSh12
namespace Go.Proofs.YtifioikdhfhljaaGreatDoor
open Go.RowKit

theorem addr_add0 (a : Addr) : a.add 0 = a := rfl
theorem slP (p : Option Addr) (n cap L : Nat) (h : L ≤ cap) (w : World) : (Instr.slice 42 (.slice p n cap) none (some (.int .i64 (L : Int))) none).run Tryz.prog w = .ok (.slice p L cap) w := by
  have h1 : (L : Int) ≤ (cap : Int) := by omega
  obtain ⟨i0, hi, hz0, hz1, hz2⟩ := info_P
  cases p <;> simp [hi, Instr.slice, Instr.sliceBounds, Instr.sliceBound, run_underlying Tryz.underlying42, asIntOf, sizeOf, typeInfo, h, addr_add0]
theorem slN (p : Option Addr) (n cap L : Nat) (h : L ≤ cap) (w : World) : (Instr.slice 22 (.slice p n cap) none (some (.int .i64 (L : Int))) none).run Tryz.prog w = .ok (.slice p L cap) w := by
  have h1 : (L : Int) ≤ (cap : Int) := by omega
  obtain ⟨i0, hi, hz0, hz1, hz2⟩ := info_N
  cases p <;> simp [hi, Instr.slice, Instr.sliceBounds, Instr.sliceBound, run_underlying Tryz.underlying22, asIntOf, sizeOf, typeInfo, h, addr_add0]
theorem slE (p : Option Addr) (n cap L : Nat) (h : L ≤ cap) (w : World) : (Instr.slice 23 (.slice p n cap) none (some (.int .i64 (L : Int))) none).run Tryz.prog w = .ok (.slice p L cap) w := by
  have h1 : (L : Int) ≤ (cap : Int) := by omega
  obtain ⟨i0, hi, hz0, hz1, hz2⟩ := info_E
  cases p <;> simp [hi, Instr.slice, Instr.sliceBounds, Instr.sliceBound, run_underlying Tryz.underlying23, asIntOf, sizeOf, typeInfo, h, addr_add0]
theorem NRow.at {α : Type} {D : Nst α} {ty : TypeId} {w : World} {a : Option Addr} {n c : Nat} {l : List α} (h : NRow D ty w (.slice a n c) l) {i : Nat} {x : α} (hx : l[i]? = some x) : ∃ g cs, a = some ⟨g, 0, none⟩ ∧ n ≤ c ∧ D.r w cs x ∧ cs.length = D.s ∧ (∀ j, j < D.s → w.cell? ⟨g, i * D.s + j, none⟩ = cs[j]?) ∧ ∃ xs, Blk w g ty xs := by
  obtain ⟨rs, h1, h2, h3⟩ := h
  have hi : i < rs.length := by rw [h2]; exact (List.getElem?_eq_some_iff.1 hx).1
  obtain ⟨g, cap, e⟩ := h1.slice (by omega)
  injection e with e1 e2 e3
  subst e1 e3
  refine ⟨g, rs[i].1, rfl, ?_, h3 i _ x (List.getElem?_eq_getElem hi) hx, rs[i].2.1, fun j hj => ?_, ?_⟩
  · obtain ⟨q1, _, _, _, q2, _⟩ := h1.open
    omega
  · exact h1.at (List.getElem?_eq_getElem hi) j hj
  · obtain ⟨_, _, q, _⟩ := h1.open
    exact ⟨_, q⟩
theorem flE_len {α : Type} (E : Enc α) : ∀ l : List α, (E.fl l).length = l.length * E.s
  | [] => by simp [Enc.fl]
  | x :: l => by
    have := flE_len E l
    simp only [Enc.fl, List.flatMap_cons, List.length_append, List.length_cons] at this ⊢
    rw [this, E.hs x, Nat.succ_mul, Nat.add_comm]
theorem flR_len {s : Nat} (rs : List (Raw s)) : ((eR s).fl rs).length = rs.length * s := flE_len (eR s) rs
theorem Sw.take {α : Type} {E : Enc α} {ty : TypeId} {w : World} {a : Option Addr} {n c m : Nat} {rs : List α} (h : Sw E ty w (.slice a n c) rs) (hm : m ≤ n) : Sw E ty w (.slice a m c) (rs.take m) := by
  rcases h with ⟨h1, h2⟩ | ⟨g, cap, rest, h1, h2, h3, h4, h5⟩
  · injection h1 with e1 e2 e3
    subst e1 e2 e3
    obtain rfl : m = 0 := by omega
    exact .inl ⟨rfl, by simp⟩
  · injection h1 with e1 e2 e3
    subst e1 e2 e3
    have hlen : (rs.take m).length = m := by rw [List.length_take]; omega
    refine .inr ⟨g, c, E.fl (rs.drop m) ++ rest, by rw [hlen], ?_, ?_, by omega, h5⟩
    · have : E.fl rs = E.fl (rs.take m) ++ E.fl (rs.drop m) := by
        simp only [Enc.fl]
        rw [← List.flatMap_append, List.take_append_drop]
      rw [this, List.append_assoc] at h2
      exact h2
    · rw [hlen, List.length_append, flE_len, List.length_drop]
      rw [← Nat.add_assoc, ← Nat.add_mul, show m + (rs.length - m) = rs.length by omega]
      exact h3
theorem NRow.take {α : Type} {D : Nst α} {ty : TypeId} {w : World} {a : Option Addr} {n c m : Nat} {l : List α} (h : NRow D ty w (.slice a n c) l) (hm : m ≤ n) : NRow D ty w (.slice a m c) (l.take m) := by
  obtain ⟨rs, h1, h2, h3⟩ := h
  refine ⟨rs.take m, h1.take hm, by rw [List.length_take, List.length_take, h2], fun i x y e1 e2 => ?_⟩
  rw [List.getElem?_take] at e1 e2
  split at e1
  · rename_i hi
    rw [if_pos hi] at e2
    exact h3 i x y e1 e2
  · cases e1
def Raw.put {s : Nat} (r : Raw s) (j : Nat) (v : Value) (hv : v.oneCell' = true) : Raw s := ⟨r.1.set j v, by rw [List.length_set]; exact r.2.1, fun u hu => by
  rcases List.mem_or_eq_of_mem_set hu with h | h
  · exact r.2.2 u h
  · rw [h]; exact hv⟩
theorem flR_set {s : Nat} (v : Value) (hv : v.oneCell' = true) : ∀ (rs : List (Raw s)) (i j : Nat) (r : Raw s), rs[i]? = some r → j < s → ((eR s).fl rs).set (i * s + j) v = (eR s).fl (rs.set i (r.put j v hv))
  | [], i, j, r, h, _ => by simp at h
  | x :: rs, 0, j, r, h, hj => by
    simp only [List.getElem?_cons_zero, Option.some.injEq] at h
    subst h
    simp only [Enc.fl, List.flatMap_cons, List.set_cons_zero, Raw.put]
    rw [Nat.zero_mul, Nat.zero_add, List.set_append_left _ _ (by rw [x.2.1]; exact hj)]
  | x :: rs, i + 1, j, r, h, hj => by
    have ih := flR_set v hv rs i j r (by simpa using h) hj
    simp only [Enc.fl, List.flatMap_cons, List.set_cons_succ] at ih ⊢
    rw [List.set_append_right _ _ (by rw [x.2.1, Nat.succ_mul]; omega), x.2.1, show (i + 1) * s + j - s = i * s + j by rw [Nat.succ_mul]; omega, ih]
/-- A cell of one of a row's things is set. -/
theorem NRow.put {α : Type} {D : Nst α} {ty : TypeId} {w : World} {g n c : Nat} {l : List α} (h : NRow D ty w (.slice (some ⟨g, 0, none⟩) n c) l) {i j : Nat} {x y : α} (hx : l[i]? = some x) (hj : j < D.s) (v : Value) (hv : v.oneCell' = true) (ht : ty ∉ D.tys) (hy : ∀ cs, D.r w cs x → cs.length = D.s → (∀ j, j < D.s → w.cell? ⟨g, i * D.s + j, none⟩ = cs[j]?) → D.r (w.setCell ⟨g, i * D.s + j, none⟩ v) (cs.set j v) y) : NRow D ty (w.setCell ⟨g, i * D.s + j, none⟩ v) (.slice (some ⟨g, 0, none⟩) n c) (l.set i y) := by
  obtain ⟨rs, h1, h2, h3⟩ := h
  have hi : i < rs.length := by rw [h2]; exact (List.getElem?_eq_some_iff.1 hx).1
  have hr : rs[i]? = some rs[i] := List.getElem?_eq_getElem hi
  obtain ⟨q1, rest, hb, q2, q3, q4⟩ := h1.open
  have hfl := flR_set v hv rs i j rs[i] hr hj
  have hlt : i * D.s + j < ((eR D.s).fl rs).length := by
    rw [flR_len]
    have : (i + 1) * D.s ≤ rs.length * D.s := Nat.mul_le_mul_right _ hi
    rw [Nat.succ_mul] at this
    omega
  refine ⟨rs.set i (rs[i].put j v hv), .inr ⟨g, c, rest, by rw [List.length_set, q1], ?_, by rw [List.length_set]; exact q2, by rw [List.length_set]; exact q3, q4⟩, by rw [List.length_set, List.length_set, h2], fun k c' y' e1 e2 => ?_⟩
  · have := hb.set (i * D.s + j) v
    rw [List.set_append_left _ _ hlt, hfl] at this
    exact this
  · rw [List.getElem?_set] at e1 e2
    by_cases hk : i = k
    · subst hk
      rw [if_pos rfl, if_pos hi] at e1
      rw [if_pos rfl, if_pos (h2 ▸ hi)] at e2
      cases e1; cases e2
      exact hy _ (h3 i _ x hr hx) rs[i].2.1 (fun j hj => h1.at hr j hj)
    · rw [if_neg hk] at e1 e2
      exact D.keep (Kx.set (X := [ty]) hb (by simp)) (fun t q => by simp; exact fun e => ht (e ▸ q)) (h3 k c' y' e1 e2)
abbrev dRm : Nst (List Pv) := Nst.own eP 101
theorem info_Ps : ∃ i, Tryz.prog.info? 42 = some i ∧ i.zero = some (.slice none 0 0) ∧ i.size = 1 ∧ i.bytes = 24 := info_parts (by kernel_rfl)
set_option maxRecDepth 100000 in
set_option maxHeartbeats 4000000 in
theorem srooms_any (ns : List Nd) (es : List Ed) (ms : List Nd) (mt : List Ed) (na : Option Addr) (nn nc : Nat) (ea : Option Addr) (en ec : Nat) (W : World) (h1 : NRow dNo 69 W (.slice na nn nc) (ns ++ ms)) (h2 : NRow dEo 72 W (.slice ea en ec) (es ++ mt)) (hn : nn = ns.length + 2) (he : en = es.length + 2) (hs : ns.length ≤ 1048576 ∧ es.length ≤ 1048576) : Calls Tryz.prog 8 #[.agg #[.slice na nn nc, .slice ea en ec]] W fun e W' => ∃ ra rn rc, e = .returned (.slice ra rn rc) ∧ NRow dRm 42 W' (.slice ra rn rc) ((ns.map fun y => y.ps) ++ es.map fun y => y.ps) ∧ Fresh W (.slice ra rn rc) ∧ G W W' := by
  obtain ⟨w2, hw2⟩ : ∃ w2, w2 = W.alloc (.cells #[.slice na nn nc, .slice ea en ec] 25) := ⟨_, rfl⟩
  obtain ⟨B1, hB1⟩ : ∃ B1, B1 = W.heap.size := ⟨_, rfl⟩
  have hgw : G W w2 := by rw [hw2]; exact (G.refl W).alloc _
  have hb1 : Blk w2 B1 25 [.slice na nn nc, .slice ea en ec] := by rw [hw2, hB1]; exact Blk.new W [.slice na nn nc, .slice ea en ec] 25
  have HEW : Hid (W.alloc (.cells #[.slice na nn nc, .slice ea en ec] 25) = w2) := hw2.symm
  have HE1 : Hid (W.heap.size = B1) := hB1.symm
  have HS := hide (And.intro (h1.G hgw) (h2.G hgw)); have HSM := hide hs; have HB1 := hide hb1; have HGW := hide hgw; have HL := hide (And.intro hn he)
  have kb0 := hb1.cell
  clear h1 h2 hs hw2 hB1 hgw hb1 hn he
  go_enter Tryz.func8, Tryz.ntmps8
  go_wp2_with fail
  try rw [HEW.out]
  try rw [HE1.out]
  clear kb0 HEW HE1
  go_loopw [4, 3] (fun iv ov wr => ∃ (i : Nat) (ra : Option Addr) (rn rc : Nat), iv = I i ∧ ov = .slice ra rn rc ∧ i ≤ ns.length ∧ NRow dRm 42 wr (.slice ra rn rc) ((ns.take i).map fun y => y.ps) ∧ Fresh w2 (.slice ra rn rc) ∧ G w2 wr) (fun iv _ _ => ns.length - (RowKit.intOf iv).toNat)
  case atStart => exact ⟨0, none, 0, 0, rfl, rfl, Nat.zero_le _, NRow.nil _ _ _, Fresh.nil _, G.refl _⟩
  case round =>
    rename_i wr hout
    obtain ⟨i, ra, rn, rc, rfl, rfl, hik, hro, hfo, hg⟩ := hrel
    have kb1 := (HB1.out.G hg).cell
    have hsm := HSM.out
    have hW2 : wrap64 ((i : Int) + 2) = (i : Int) + 2 := by unfold wrap64; omega
    by_cases hil : i < ns.length
    · obtain ⟨x, hx⟩ : ∃ x, ns[i]? = some x := ⟨_, List.getElem?_eq_getElem hil⟩
      obtain ⟨g, cs, rfl, hcap, ⟨v, hcs, hv⟩, -, hcell, -⟩ := (HS.out.1.G hg).at (i := i) (x := x) (by rw [List.getElem?_append_left hil]; exact hx)
      have x1 := hcell 2 (by decide)
      rw [hcs] at x1
      obtain ⟨va, vc, hvf⟩ := hv.form
      obtain ⟨vn, hvn⟩ : ∃ vn, vn = x.ps.length := ⟨_, rfl⟩
      rw [← hvn] at hvf
      subst hvf
      replace x1 : wr.cell? ⟨g, i * 3 + 2, none⟩ = some (.slice va vn vc) := x1
      have i1 : (i : Int) + 2 < (nn : Int) := by have := HL.out; omega
      have i2 : (i : Int) < (nn : Int) := by omega
      have hln := hro.len_eq
      rw [List.length_map, List.length_take] at hln
      obtain ⟨i0, hi0, hz0, hz1, hz2⟩ := info_Ps
      have hmx : (1073741824 : Nat) ≤ maxLen := of_decide_eq_true (by kernel_rfl)
      obtain ⟨cR, hcR⟩ : ∃ cR : Raw dRm.s, cR.1 = [.slice va vn vc] := ⟨⟨[.slice va vn vc], rfl, fun u hu => by simp at hu; rcases hu with rfl; rfl⟩, rfl⟩
      obtain ⟨a5, c5, w7, r1, r2, r3, r4, r5⟩ := pushN (P := Tryz.prog) (D := dRm) (tr := 27) i0 _ 24 Tryz.underlying27 hi0 hz0 hz1 hz2 rfl (by decide) hro cR x.ps (by rw [hcR]; exact ⟨_, rfl, hv⟩) (by decide) hg hfo (by omega) (by omega)
      rw [hcR] at r1
      have HR := hide r1
      have HF : Hid (i < ns.length ∧ NRow dRm 42 w7 (.slice a5 (rn + 1) c5) ((ns.take (i + 1)).map fun y => y.ps) ∧ Fresh w2 (.slice a5 (rn + 1) c5) ∧ G w2 w7) := ⟨hil, by rw [List.take_add_one, hx, List.map_append]; exact r2, r4, r3⟩
      have HW : Hid (wrap64 ((i : Int) + 1) = (i : Int) + 1) := by show _ = _; unfold wrap64; omega
      clear hik hro hfo hg hil hx hcell hcs hv hln hi0 hz0 hz1 hz2 hmx hcR r1 r2 r3 r4 r5 hcap hsm hvn
      go_wp2_with (first | (at_builtin; refine wpList_append_run rfl _ _ 27 rfl (.slice ra rn rc) (.slice (some ⟨wr.heap.size, 0, none⟩) 1 1) rfl rfl HR.out ?_) | fail)
      exact ⟨⟨i + 1, a5, rn + 1, c5, by rw [HW.out]; exact srl i, rfl, HF.out.1, HF.out.2.1, HF.out.2.2.1, HF.out.2.2.2⟩, by rw [HW.out]; exact sms HF.out.1⟩
    · have i1 : ¬ (i : Int) + 2 < (nn : Int) := by have := HL.out; omega
      have htk : ns.take i = ns := List.take_of_length_le (by omega)
      rw [htk] at hro
      have HR0 := hide (And.intro hro (And.intro hfo hg))
      clear hik hro hfo hg hil htk hsm
      go_wp2_with fail
      clear i1 hW2 kb1
      generalize ra = oa at HR0 ⊢
      generalize rn = on at HR0 ⊢
      generalize rc = oc at HR0 ⊢
      go_loopw [5, 3] (fun iv ov wr => ∃ (i : Nat) (ra : Option Addr) (rn rc : Nat), iv = I i ∧ ov = .slice ra rn rc ∧ i ≤ es.length ∧ NRow dRm 42 wr (.slice ra rn rc) ((ns.map fun y => y.ps) ++ (es.take i).map fun y => y.ps) ∧ Fresh w2 (.slice ra rn rc) ∧ G w2 wr) (fun iv _ _ => es.length - (RowKit.intOf iv).toNat)
      case atStart => exact ⟨0, oa, on, oc, rfl, rfl, Nat.zero_le _, by simpa using HR0.out.1, HR0.out.2.1, HR0.out.2.2⟩
      case round =>
        clear HR0
        rename_i wr hout
        obtain ⟨i, ra, rn, rc, rfl, rfl, hik, hro, hfo, hg⟩ := hrel
        have kb1 := (HB1.out.G hg).cell
        have hsm := HSM.out
        have hW2 : wrap64 ((i : Int) + 2) = (i : Int) + 2 := by unfold wrap64; omega
        by_cases hil : i < es.length
        · obtain ⟨x, hx⟩ : ∃ x, es[i]? = some x := ⟨_, List.getElem?_eq_getElem hil⟩
          obtain ⟨g, cs, rfl, hcap, ⟨v, hcs, hv⟩, -, hcell, -⟩ := (HS.out.2.G hg).at (i := i) (x := x) (by rw [List.getElem?_append_left hil]; exact hx)
          have x1 := hcell 4 (by decide)
          rw [hcs] at x1
          obtain ⟨va, vc, hvf⟩ := hv.form
          obtain ⟨vn, hvn⟩ : ∃ vn, vn = x.ps.length := ⟨_, rfl⟩
          rw [← hvn] at hvf
          subst hvf
          replace x1 : wr.cell? ⟨g, i * 5 + 4, none⟩ = some (.slice va vn vc) := x1
          have i1 : (i : Int) + 2 < (en : Int) := by have := HL.out; omega
          have i2 : (i : Int) < (en : Int) := by omega
          have hln := hro.len_eq
          rw [List.length_append, List.length_map, List.length_map, List.length_take] at hln
          obtain ⟨i0, hi0, hz0, hz1, hz2⟩ := info_Ps
          have hmx : (1073741824 : Nat) ≤ maxLen := of_decide_eq_true (by kernel_rfl)
          obtain ⟨cR, hcR⟩ : ∃ cR : Raw dRm.s, cR.1 = [.slice va vn vc] := ⟨⟨[.slice va vn vc], rfl, fun u hu => by simp at hu; rcases hu with rfl; rfl⟩, rfl⟩
          obtain ⟨a5, c5, w7, r1, r2, r3, r4, r5⟩ := pushN (P := Tryz.prog) (D := dRm) (tr := 27) i0 _ 24 Tryz.underlying27 hi0 hz0 hz1 hz2 rfl (by decide) hro cR x.ps (by rw [hcR]; exact ⟨_, rfl, hv⟩) (by decide) hg hfo (by omega) (by omega)
          rw [hcR] at r1
          have HR := hide r1
          have HF : Hid (i < es.length ∧ NRow dRm 42 w7 (.slice a5 (rn + 1) c5) ((ns.map fun y => y.ps) ++ (es.take (i + 1)).map fun y => y.ps) ∧ Fresh w2 (.slice a5 (rn + 1) c5) ∧ G w2 w7) := ⟨hil, by rw [List.take_add_one, hx, List.map_append, ← List.append_assoc]; exact r2, r4, r3⟩
          have HW : Hid (wrap64 ((i : Int) + 1) = (i : Int) + 1) := by show _ = _; unfold wrap64; omega
          clear hik hro hfo hg hil hx hcell hcs hv hln hi0 hz0 hz1 hz2 hmx hcR r1 r2 r3 r4 r5 hcap hsm hvn
          go_wp2_with (first | (at_builtin; refine wpList_append_run rfl _ _ 27 rfl (.slice ra rn rc) (.slice (some ⟨wr.heap.size, 0, none⟩) 1 1) rfl rfl HR.out ?_) | fail)
          exact ⟨⟨i + 1, a5, rn + 1, c5, by rw [HW.out]; exact srl i, rfl, HF.out.1, HF.out.2.1, HF.out.2.2.1, HF.out.2.2.2⟩, by rw [HW.out]; exact sms HF.out.1⟩
        · have i1 : ¬ (i : Int) + 2 < (en : Int) := by have := HL.out; omega
          have htk : es.take i = es := List.take_of_length_le (by omega)
          rw [htk] at hro
          have HR0 := hide (And.intro hro (And.intro hfo hg))
          clear hik hro hfo hg hil htk hsm
          go_wp2_with fail
          go_ret
          exact ⟨ra, rn, rc, rfl, HR0.out.1, HR0.out.2.1.old HGW.out, HGW.out.trans HR0.out.2.2⟩
end Go.Proofs.YtifioikdhfhljaaGreatDoor
