/- PathsOrders: the walk. -/
import Derived.Test.YtcbjcienjolceabDoorPz18
import Derived.Test.YtcbjcienjolceabDoorPm4
namespace Go.Proofs.YtcbjcienjolceabDoor
open Go.RowKit

/-- A row of ids stays where only the asked list turns, which is another one. -/
theorem Rw.askO {lo n : Nat} {W W' : World} {v av av' : Value} {xs : List Value} (h : Rw lo 2 1 W v n xs) (k : AskO W W' av av') (hne : ∀ b, v.ownBlock = some b → av.ownBlock ≠ some b) : Rw lo 2 1 W' v n xs := h.keep fun b hb => by
  obtain ⟨_, _, ys, hy⟩ := h.own hb
  exact k.1 b ys hy (hne b hb)
theorem noown : ∀ b, (Value.slice none 0 0).ownBlock ≠ some b := fun b e => by simp [Value.ownBlock] at e
theorem Rw.relo {lo m n : Nat} {e : TypeId} {w : World} {v : Value} {xs : List Value} (h : Rw lo e 1 w v n xs) (hb : ∀ b, v.ownBlock = some b → m ≤ b) : Rw m e 1 w v n xs := by
  refine ⟨h.1, ?_⟩
  rcases h.2 with q | ⟨g, cap, cur, rfl, h1, h2⟩
  · exact .inl q
  · exact .inr ⟨g, cap, cur, rfl, hb g rfl, h2⟩
theorem half_ids {w : World} {la : Option Addr} {lc : Nat} {l : List Int} (h : Ids w (.slice la l.length lc) l) (k : Nat) (hk : k ≤ l.length) : Ids w (.slice la k lc) (l.take k) := by
  have e : (l.take k).length = k := by rw [List.length_take]; omega
  obtain ⟨a, c, e1, h1, h2⟩ := h.at_
  simp only [Value.slice.injEq] at e1
  obtain ⟨rfl, -, rfl⟩ := e1
  refine ⟨⟨la, lc, by rw [e], h1, ?_⟩, fun x hx => h.ok x (List.mem_of_mem_take hx)⟩
  rcases h2 with rfl | ⟨b, off, rfl, h3⟩
  · exact .inl (by simp)
  · refine .inr ⟨b, off, rfl, fun o ho => ?_⟩
    rw [e] at ho
    rw [h3 o (by omega), List.map_take, List.getElem?_take, if_pos ho]
theorem three_ls (lo m1 m2 : Nat) (w : World) (v0 v1 v2 : Value) (l0 l1 l2 : List Int) (r0 : Rw lo 2 1 w v0 l0.length (l0.map I)) (r1 : Rw lo 2 1 w v1 l1.length (l1.map I)) (r2 : Rw lo 2 1 w v2 l2.length (l2.map I)) (o0 : ∀ b, v0.ownBlock = some b → b < m1) (o1 : ∀ b, v1.ownBlock = some b → m1 ≤ b ∧ b < m2) (o2 : ∀ b, v2.ownBlock = some b → m2 ≤ b) (hm : m1 ≤ m2) : Ls lo w [v0, v1, v2] [l0, l1, l2] := by
  refine ⟨rfl, fun j v l hv hl => ?_, fun i j v v' b hij hv hv' hb e => ?_⟩
  · match j, hv, hl with
    | 0, hv, hl => simp only [List.getElem?_cons_zero, Option.some.injEq] at hv hl; subst hv; subst hl; exact r0
    | 1, hv, hl => simp only [List.getElem?_cons_zero, List.getElem?_cons_succ, Option.some.injEq] at hv hl; subst hv; subst hl; exact r1
    | 2, hv, hl => simp only [List.getElem?_cons_zero, List.getElem?_cons_succ, Option.some.injEq] at hv hl; subst hv; subst hl; exact r2
    | j + 3, hv, hl => simp at hv
  · match i, j, hv, hv' with
    | 0, 0, _, _ => exact absurd rfl hij
    | 1, 1, _, _ => exact absurd rfl hij
    | 2, 2, _, _ => exact absurd rfl hij
    | 0, 1, hv, hv' => simp only [List.getElem?_cons_zero, List.getElem?_cons_succ, Option.some.injEq] at hv hv'; subst hv; subst hv'; have := o0 b hb; have := o1 b e; omega
    | 0, 2, hv, hv' => simp only [List.getElem?_cons_zero, List.getElem?_cons_succ, Option.some.injEq] at hv hv'; subst hv; subst hv'; have := o0 b hb; have := o2 b e; omega
    | 1, 2, hv, hv' => simp only [List.getElem?_cons_zero, List.getElem?_cons_succ, Option.some.injEq] at hv hv'; subst hv; subst hv'; have := o1 b hb; have := o2 b e; omega
    | 1, 0, hv, hv' => simp only [List.getElem?_cons_zero, List.getElem?_cons_succ, Option.some.injEq] at hv hv'; subst hv; subst hv'; have := o1 b hb; have := o0 b e; omega
    | 2, 0, hv, hv' => simp only [List.getElem?_cons_zero, List.getElem?_cons_succ, Option.some.injEq] at hv hv'; subst hv; subst hv'; have := o2 b hb; have := o0 b e; omega
    | 2, 1, hv, hv' => simp only [List.getElem?_cons_zero, List.getElem?_cons_succ, Option.some.injEq] at hv hv'; subst hv; subst hv'; have := o2 b hb; have := o1 b e; omega
    | i + 3, _, hv, _ => simp at hv
    | _, j + 3, _, hv' => simp at hv'
/-- The room, cut to the nodes. -/
theorem room_ids {lo g cap : Nat} {w : World} {l : List Int} (hf : Rw lo 2 1 w (.slice (some ⟨g, 0, none⟩) (l.length + 2) cap) (l.length + 2) ((l ++ [-81, -82]).map I)) (hr : ∀ x ∈ l, R64 x) : Ids w (.slice (some ⟨g, 0, none⟩) l.length cap) l := by
  obtain ⟨g', cap', rest, e, -, hblk, hlen⟩ := Rw.blk hf (by omega)
  have eg : g = g' := by simp at e; exact e.1
  subst eg
  exact ⟨⟨_, cap, rfl, fun q => (by cases q), .inr ⟨g, 0, rfl, fun o ho => by
    rw [hblk.cell, Nat.zero_add, List.getElem?_append_left (by rw [List.length_map, List.length_append]; omega), List.map_append, List.getElem?_append_left (by rw [List.length_map]; exact ho)]⟩⟩, hr⟩
theorem room_form {lo n : Nat} {w : World} {v : Value} {xs : List Value} (h : Rw lo 2 1 w v (n + 2) xs) : ∃ g cap, v = .slice (some ⟨g, 0, none⟩) (n + 2) cap ∧ lo ≤ g ∧ g < w.heap.size ∧ n + 2 ≤ cap := by
  rcases h.2 with ⟨-, h0⟩ | ⟨g, cap, cur, rfl, h1, h2, h3, -⟩
  · omega
  · exact ⟨g, cap, rfl, h1, (Rw.own h (b := g) rfl).2.1, h3⟩
set_option maxRecDepth 100000 in
set_option maxHeartbeats 4000000 in
theorem orders_law (W : World) (rv : Value) (rs : List Nr) (tail : Bool) (la : Option Addr) (lc : Nat) (nodes : List Int) (hN : Nrs W rv rs) (hM : Mk W) (hrl : rs.length ≤ 1048576) (hal : ∀ id, (netOf rs tail id).1.length ≤ 1048576) (hI : Ids W (.slice la nodes.length lc) nodes) (hnl : nodes.length ≤ 1048576) (hcap : nodes.length ≤ lc) :
    Calls Tryd.prog 5 #[.agg #[rv, .bool tail], .slice la nodes.length lc] W fun e W' => e = .returned (.bool true) ∧ G W W' := by
  obtain ⟨rva, rvc, hrv⟩ : ∃ a c, rv = .slice a rs.length c := by obtain ⟨a, c, e, _⟩ := hN; exact ⟨a, c, e⟩
  subst hrv
  have HAL := hide hal
  have gB : G W ((W.alloc (.cells #[.slice rva rs.length rvc, .bool tail] 24)).alloc (.cells #[.slice rva rs.length rvc, .bool tail, .slice none 0 0, .slice none 0 0] 29)) := ((G.refl W).alloc _).alloc _
  have hb3 := (Blk.new W [.slice rva rs.length rvc, .bool tail] 24).G ((G.refl _).alloc (.cells #[.slice rva rs.length rvc, .bool tail, .slice none 0 0, .slice none 0 0] 29))
  have hbs := Blk.new (W.alloc (.cells #[.slice rva rs.length rvc, .bool tail] 24)) [.slice rva rs.length rvc, .bool tail, .slice none 0 0, .slice none 0 0] 29
  rw [World.size_alloc] at hbs
  have HSH : Hid (∀ V b, G W V → Blk V b 29 [.slice rva rs.length rvc, .bool tail, .slice none 0 0, .slice none 0 0] → W.heap.size ≤ b → Shn W V b (.slice rva rs.length rvc) rs tail (.slice none 0 0) (.slice none 0 0) [] []) := fun V b gV hb hlo =>
    ⟨gV, hb, Rw.nil _ _ _ _, Rw.nil _ _ _ _, rfl, fun i id v h => by simp at h, hN, hlo, hM⟩
  have HRM := hide (room_any ((W.alloc (.cells #[.slice rva rs.length rvc, .bool tail] 24)).alloc (.cells #[.slice rva rs.length rvc, .bool tail, .slice none 0 0, .slice none 0 0] 29)) _ nodes (hI.G gB) hnl)
  have HG1 := hide gB
  have HB3 := hide hb3
  have HBS := hide hbs
  have HN := hide hN
  have HI := hide hI
  clear gB hb3 hbs hN hM hal hI
  go_enter Tryd.func5, Tryd.ntmps5
  go_wp2_with fail
  refine HRM.out.mono ?_
  rintro e w2 ⟨fv, rfl, hrf, hg12⟩
  obtain ⟨fg, fc, rfl, hflo, hfhi, hfc⟩ := room_form hrf
  have hgW2 := HG1.out.trans hg12
  have HF2 : Hid (Rw W.heap.size 2 1 w2 (.slice (some ⟨fg, 0, none⟩) (nodes.length + 2) fc) (nodes.length + 2) ((nodes ++ [-81, -82]).map I)) := Rw.base hrf HG1.out.size
  have HOR := hide (ordp_any W w2 (W.heap.size + 1) (.slice rva rs.length rvc) rs tail _ _ [] [] (by simp) (HSH.out w2 _ hgW2 (HBS.out.G hg12) (Nat.le_succ _)) hrl HAL.out _ nodes (room_ids HF2.out HI.out.ok) hnl (eachL nodes) (eachL_up nodes) (fun _ => eachL_mem))
  have HB32 := hide (HB3.out.G hg12)
  have HGW2 := hide hgW2
  have HFG := hide hfhi
  have i1 : (nodes.length : Int) ≤ (fc : Int) := by omega
  have i2 : (nodes.length : Int) ≤ (lc : Int) := by omega
  clear hrf hg12 hflo hfhi hgW2 HRM HB3 HBS HG1
  go_wp2_with fail
  refine HOR.out.mono ?_
  rintro e w3 ⟨out, ok, code, asked, av3, gv3, gl3, nv3, hR, rfl, hr3, hsn, hmv, hnd, hao⟩
  rw [List.nil_append] at hsn
  have hlen := hR.len
  have HLN := hide hlen
  have HR64 : Hid (∀ id ∈ asked, R64 id) := fun id h => HI.out.ok id (eachL_mem.1 (hlen.2.2 id h))
  have HR := hide hR
  have c3 : ∀ o, w3.cell? ⟨W.heap.size, o, none⟩ = ([.slice rva rs.length rvc, .bool tail] : List Value)[o]? := (HB32.out.mv hmv (by decide)).cell
  have HB33 := hide (HB32.out.mv hmv (by decide))
  have HF3 := hide (Rw.askO HF2.out hao (fun b _ => noown b))
  have HW3 : Hid (Rw W.heap.size 2 1 w3 nv3 out.length (out.map I)) := Rw.base hr3 HGW2.out.size
  have HWN : Hid (∀ b, nv3.ownBlock = some b → w2.heap.size ≤ b) := fun b hb => (Rw.own hr3 hb).1
  have HS3 := hide hsn
  have HM3 : Hid (w2.heap.size ≤ w3.heap.size) := hmv.size
  have HRO := hide (ordr_any w3 (.slice rva rs.length rvc) rs tail (HN.out.G hsn.g) hrl HAL.out (.slice la nodes.length lc) nodes (HI.out.G hsn.g) hnl)
  obtain ⟨na3, nc3, rfl⟩ := Rw.form hr3
  clear hlen hR hr3 hsn hmv hnd hao HOR HB32 HF2
  go_wp2_with fail
  refine HRO.out.mono ?_
  rintro e w4 ⟨out', ok', code', asked', ov, qv, hR', rfl, hro, hrq, hg4⟩
  obtain ⟨rfl, rfl, rfl, rfl⟩ := HR.out.uniq hR'
  obtain ⟨oa, oc, rfl⟩ := Rw.form hro
  obtain ⟨qa, qc, rfl⟩ := Rw.form hrq
  have HW4 := hide (Rw.G HW3.out hg4)
  have HF4 := hide (Rw.G HF3.out hg4)
  have HO4 := hide hro
  have HQ4 := hide hrq
  have HS4 := hide (HS3.out.G hg4)
  have HB34 := hide (HB33.out.G hg4)
  have HM4 : Hid (w2.heap.size ≤ w4.heap.size) := Nat.le_trans HM3.out hg4.size
  have HID := hide (ids_eq W.heap.size w3.heap.size w4 _ _ out HW4.out HO4.out (by have := HLN.out.1; omega))
  clear hro hrq hg4 hR' HRO c3 HB33 HF3 HW3 HS3 HM3
  go_wp2_with fail
  refine HID.out.mono ?_
  rintro e w5 ⟨rfl, hg5⟩
  have HWH := hide (whole_any W w5 _ _ rs tail av3 gv3 asked gl3 (HS4.out.G hg5) w3.heap.size _ (Rw.G HQ4.out hg5) HR64.out hrl HAL.out (by have := HLN.out.2.1; omega))
  have HW5 := hide (Rw.G HW4.out hg5)
  have HF5 := hide (Rw.G HF4.out hg5)
  have HO5 := hide (Rw.G HO4.out hg5)
  have HB35 := hide (HB34.out.G hg5)
  have HG5 := hide (HS4.out.g.trans hg5)
  have HM5 : Hid (w2.heap.size ≤ w5.heap.size) := Nat.le_trans HM4.out hg5.size
  clear hg5 HID HW4 HF4 HO4 HQ4 HS4 HB34 HM4
  go_wp2_with fail
  refine HWH.out.mono ?_
  rintro e w6 ⟨rfl, hg6⟩
  have HST := hide (stays_any W.heap.size w6 _ _ nodes (Rw.G HF5.out hg6) (HI.out.G (HG5.out.trans hg6)) hnl)
  have HG6 := hide hg6
  clear hg6 HWH
  go_wp2_with fail
  refine HST.out.mono ?_
  rintro e w7 ⟨rfl, hg7⟩
  have hg57 := HG6.out.trans hg7
  have c3 : ∀ o, w7.cell? ⟨W.heap.size, o, none⟩ = ([.slice rva rs.length rvc, .bool tail] : List Value)[o]? := (HB35.out.G hg57).cell
  have gC : G w7 (w7.alloc (.cells #[.slice rva rs.length rvc, .bool tail, .slice none 0 0, .slice none 0 0] 29)) := (G.refl w7).alloc _
  have HBT := hide (Blk.new w7 [.slice rva rs.length rvc, .bool tail, .slice none 0 0, .slice none 0 0] 29)
  have HG8 := hide ((HG5.out.trans hg57).trans gC)
  have HW8 := hide (Rw.G (Rw.G HW5.out hg57) gC)
  have HF8 := hide (Rw.G (Rw.G HF5.out hg57) gC)
  have HO8 := hide (Rw.G (Rw.G HO5.out hg57) gC)
  have HM8 : Hid (w2.heap.size ≤ w7.heap.size) := Nat.le_trans HM5.out hg57.size
  have HZ8 : Hid (W.heap.size ≤ w7.heap.size) := (HG5.out.trans hg57).size
  clear hg7 hg57 gC HST HG6 HB35 HG5 HW5 HF5 HO5 HM5
  go_wp2_with fail
  obtain ⟨half, hhalf⟩ : ∃ half, half = nodes.take (nodes.length / 2) := ⟨_, rfl⟩
  have hhl : half.length = nodes.length / 2 := by rw [hhalf, List.length_take]; omega
  have HHI : Hid (Ids W (.slice la (nodes.length / 2) lc) half) := by
    rw [hhalf]
    exact half_ids HI.out _ (by omega)
  have HHL : Hid (half.length ≤ 1048576) := by show _ ≤ _; omega
  have HHK : Hid (∀ x ∈ half, R64 x) := HHI.out.ok
  obtain ⟨w8, hw8⟩ : ∃ w8, w8 = w7.alloc (.cells #[.slice rva rs.length rvc, .bool tail, .slice none 0 0, .slice none 0 0] 29) := ⟨_, rfl⟩
  rw [← hw8] at HBT HG8 HW8 HF8 HO8 ⊢
  have HZ88 : Hid (w7.heap.size ≤ w8.heap.size) := by rw [hw8, World.size_alloc]; exact Nat.le_succ _
  have HCP := hide (copy_any w8 _ half (HHI.out.G HG8.out) (by omega))
  clear hhalf hhl hw8 c3 HHI
  refine HCP.out.mono ?_
  rintro e w9 ⟨cv, rfl, hrc, hg9⟩
  obtain ⟨ca, cc, rfl⟩ := Rw.form hrc
  have HW9 := hide (Rw.G HW8.out hg9)
  have HF9 := hide (Rw.G HF8.out hg9)
  have HO9 := hide (Rw.G HO8.out hg9)
  have HM9 : Hid (w2.heap.size ≤ w9.heap.size) := Nat.le_trans HM8.out (Nat.le_trans HZ88.out hg9.size)
  have HG9 := hide (HG8.out.trans hg9)
  have HOR := hide (ordp_any W w9 w7.heap.size (.slice rva rs.length rvc) rs tail _ _ [] [] (by simp) (HSH.out w9 _ HG9.out (HBT.out.G hg9) HZ8.out) hrl HAL.out _ half (Rw.ids hrc HHK.out) HHL.out (eachL half) (eachL_up half) (fun _ => eachL_mem))
  clear hrc hg9 HCP HW8 HF8 HO8 HG8 HBT
  go_wp2_with fail
  refine HOR.out.mono ?_
  rintro e w10 ⟨out2, ok2, code2, asked2, av10, gv10, gl10, nv10, hR2, rfl, hr10, hsn10, hmv10, hnd10, hao10⟩
  rw [List.nil_append] at hsn10
  have HLN2 := hide hR2.len
  have HW10 := hide (Rw.askO HW9.out hao10 (fun b _ => noown b))
  have HF10 := hide (Rw.askO HF9.out hao10 (fun b _ => noown b))
  have HO10 := hide (Rw.askO HO9.out hao10 (fun b _ => noown b))
  have HX10 := hide hr10
  have HND10 := hide hnd10
  have HNA : Hid (∀ (u : Value) lo n xs, Rw lo 2 1 w9 u n xs → ∀ b, u.ownBlock = some b → av10.ownBlock ≠ some b) := fun u lo n xs hu b hb e => by
    rcases hao10.2 b e with q | q
    · exact noown b q
    · have := (Rw.own hu hb).2.1
      omega
  have HXN : Hid (∀ b, nv10.ownBlock = some b → w9.heap.size ≤ b) := fun b hb => (Rw.own hr10 hb).1
  have HXL : Hid (∀ b, nv10.ownBlock = some b → b < w10.heap.size) := fun b hb => (Rw.own hr10 hb).2.1
  have HWL : Hid (∀ b, (Value.slice na3 out.length nc3).ownBlock = some b → b < w9.heap.size) := fun b hb => (Rw.own HW9.out hb).2.1
  have HM10 : Hid (w9.heap.size ≤ w10.heap.size) := hmv10.size
  have HOR2 := hide (ordp_any W w10 w7.heap.size (.slice rva rs.length rvc) rs tail av10 gv10 asked2 gl10 (by have := HLN2.out.2.1; omega) hsn10 hrl HAL.out _ nodes (room_ids HF10.out HI.out.ok) hnl (eachL nodes) (eachL_up nodes) (fun _ => eachL_mem))
  obtain ⟨na10, nc10, rfl⟩ := Rw.form hr10
  clear hR2 hr10 hsn10 hmv10 hnd10 hao10 HOR HHL HHK HG9
  go_wp2_with fail
  refine HOR2.out.mono ?_
  rintro e w11 ⟨out3, ok3, code3, asked3, av11, gv11, gl11, nv11, hR3, rfl, hr11, hsn11, hmv11, hnd11, hao11⟩
  obtain ⟨rfl, rfl, rfl, rfl⟩ := HR.out.uniq hR3
  have HW11 := hide (Rw.askO HW10.out hao11 (HNA.out _ _ _ _ HW9.out))
  have HF11 := hide (Rw.askO HF10.out hao11 (HNA.out _ _ _ _ HF9.out))
  have HO11 := hide (Rw.askO HO10.out hao11 (HNA.out _ _ _ _ HO9.out))
  have HX11 := hide (Rw.askO HX10.out hao11 HND10.out)
  have HY11 := hide hr11
  have HYN : Hid (∀ b, nv11.ownBlock = some b → w10.heap.size ≤ b) := fun b hb => (Rw.own hr11 hb).1
  have HG11 := hide hsn11.g
  have HM11 : Hid (w10.heap.size ≤ w11.heap.size) := hmv11.size
  have HID := hide (ids_eq w10.heap.size w3.heap.size w11 _ _ out HY11.out HO11.out (by have := HLN.out.1; omega))
  obtain ⟨na11, nc11, rfl⟩ := Rw.form hr11
  clear hR3 hr11 hsn11 hmv11 hnd11 hao11 HOR2 HW9 HF9 HO9 HW10 HF10 HO10 HX10 HND10 HNA
  go_wp2_with fail
  refine HID.out.mono ?_
  rintro e w12 ⟨rfl, hg12⟩
  have HID2 := hide (ids_eq W.heap.size w3.heap.size w12 _ _ out (Rw.G HW11.out hg12) (Rw.G HO11.out hg12) (by have := HLN.out.1; omega))
  have HG12 := hide hg12
  clear hg12 HID
  go_wp2_with fail
  refine HID2.out.mono ?_
  rintro e w13 ⟨rfl, hg13⟩
  have hgs : G w11 w13 := HG12.out.trans hg13
  have gD : G w11 (w13.alloc (.cells #[.slice na3 out.length nc3, .slice na10 out2.length nc10, .slice na11 out.length nc11] 25)) := hgs.trans ((G.refl w13).alloc _)
  have hBD := Blk.new w13 [.slice na3 out.length nc3, .slice na10 out2.length nc10, .slice na11 out.length nc11] 25
  obtain ⟨wz, hwz⟩ : ∃ wz, wz = w13.alloc (.cells #[.slice na3 out.length nc3, .slice na10 out2.length nc10, .slice na11 out.length nc11] 25) := ⟨_, rfl⟩
  rw [← hwz] at gD
  have hBD2 : Blk wz w13.heap.size 25 [.slice na3 out.length nc3, .slice na10 out2.length nc10, .slice na11 out.length nc11] := by rw [hwz]; exact hBD
  have hmz : w2.heap.size ≤ wz.heap.size := Nat.le_trans HM9.out (Nat.le_trans HM10.out (Nat.le_trans HM11.out gD.size))
  have HMZ := hide hmz
  have h9 := HM9.out
  have h10 := HM10.out
  have hls : Ls (cutW wz w2.heap.size).heap.size wz [.slice na3 out.length nc3, .slice na10 out2.length nc10, .slice na11 out.length nc11] [out, out2, out] := by
    rw [cut_size hmz]
    exact three_ls w2.heap.size w9.heap.size w10.heap.size wz _ _ _ _ _ _ (Rw.relo (Rw.G HW11.out gD) HWN.out) (Rw.relo (Rw.G HX11.out gD) (fun b hb => Nat.le_trans h9 (HXN.out b hb))) (Rw.relo (Rw.G HY11.out gD) (fun b hb => Nat.le_trans h9 (Nat.le_trans h10 (HYN.out b hb)))) HWL.out (fun b hb => ⟨HXN.out b hb, HXL.out b hb⟩) HYN.out h10
  have HAP := hide (apart_any (cutW wz w2.heap.size) wz w13.heap.size [.slice na3 out.length nc3, .slice na10 out2.length nc10, .slice na11 out.length nc11] [out.length, out2.length, out.length] [out, out2, out] ⟨hls, rfl, hBD2, cut_G hmz⟩ (by simp) (fun n hn => by have := HLN.out.1; have := HLN2.out.1; simp at hn; rcases hn with rfl | rfl | rfl <;> omega) 3 rfl)
  have HFZ := hide (Rw.G HF11.out gD)
  have HGZ := hide (HG11.out.trans gD)
  rw [hwz] at HAP HFZ HGZ HMZ
  clear hg13 hgs gD hBD hwz hBD2 hmz hls h9 h10 HID2 HG12
  go_wp2_with fail
  refine HAP.out.mono ?_
  rintro e w14 ⟨rfl, hg14⟩
  have hF14 := cut_rw HMZ.out hg14 HFZ.out (fun b hb => by
    have e : fg = b := by simpa [Value.ownBlock] using hb
    rw [← e]
    exact HFG.out)
  have hG14 := cut_to HMZ.out HGW2.out.size HGZ.out hg14
  have HG14 := hide hG14
  have HST := hide (stays_any W.heap.size w14 _ _ nodes hF14 (HI.out.G hG14) hnl)
  clear hg14 hF14 hG14 HAP HFZ HGZ HMZ
  go_wp2_with fail
  refine HST.out.mono ?_
  rintro e w15 ⟨rfl, hg15⟩
  go_wp2_with fail
  go_ret
  exact ⟨rfl, HG14.out.trans hg15⟩
end Go.Proofs.YtcbjcienjolceabDoor
