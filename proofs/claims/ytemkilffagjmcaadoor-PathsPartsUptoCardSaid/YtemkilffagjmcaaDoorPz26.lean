/- PathsParts: the walk. -/
import Derived.Test.YtemkilffagjmcaaDoorPz25
import Derived.Test.YtemkilffagjmcaaDoorPz19
import Derived.Test.YtemkilffagjmcaaDoorPm4
namespace Go.Proofs.YtemkilffagjmcaaDoor
open Go.RowKit

theorem PrtR.len {rs : List Nr} {tail : Bool} {ids nodes out : List Int} {code : Int} {asked : List Int} (h : PrtR rs tail ids nodes out code asked) (hn : nodes.length ≤ 1048576) : out.length ≤ 1048576 ∧ asked.length ≤ 4096 ∧ ∀ id ∈ asked, id ∈ ids := by
  rcases h with ⟨a1, rfl, rfl, rfl⟩ | ⟨a1, k, id, a2, a3, a4, rfl, rfl, rfl⟩ | ⟨a1, a2, rfl, rfl, G1, a3, a4, rfl⟩
  · simp
  · refine ⟨by simp, ?_, fun id h => List.mem_of_mem_take h⟩
    rw [List.length_take]
    omega
  · exact ⟨by rw [List.length_map]; exact hn, a1, fun _ h => h⟩
set_option maxRecDepth 100000 in
set_option maxHeartbeats 4000000 in
theorem parts_law (W : World) (rv : Value) (rs : List Nr) (tail : Bool) (la : Option Addr) (lc : Nat) (nodes : List Int) (hN : Nrs W rv rs) (hM : Mk W) (hrl : rs.length ≤ 1048576) (hal : ∀ id, (netOf rs tail id).1.length ≤ 1048576) (hI : Ids W (.slice la nodes.length lc) nodes) (hnl : nodes.length ≤ 1048576) (hcap : nodes.length ≤ lc) :
    Calls Tryd.prog 4 #[.agg #[rv, .bool tail], .slice la nodes.length lc] W fun e W' => e = .returned (.bool true) ∧ G W W' := by
  obtain ⟨rva, rvc, hrv⟩ : ∃ a c, rv = .slice a rs.length c := by obtain ⟨a, c, e, _⟩ := hN; exact ⟨a, c, e⟩
  subst hrv
  have HAL := hide hal
  have gB : G W ((W.alloc (.cells #[.slice rva rs.length rvc, .bool tail] 26)).alloc (.cells #[.slice rva rs.length rvc, .bool tail, .slice none 0 0, .slice none 0 0] 30)) := ((G.refl W).alloc _).alloc _
  have hb3 := (Blk.new W [.slice rva rs.length rvc, .bool tail] 26).G ((G.refl _).alloc (.cells #[.slice rva rs.length rvc, .bool tail, .slice none 0 0, .slice none 0 0] 30))
  have hbs := Blk.new (W.alloc (.cells #[.slice rva rs.length rvc, .bool tail] 26)) [.slice rva rs.length rvc, .bool tail, .slice none 0 0, .slice none 0 0] 30
  rw [World.size_alloc] at hbs
  have HSH : Hid (∀ V b, G W V → Blk V b 30 [.slice rva rs.length rvc, .bool tail, .slice none 0 0, .slice none 0 0] → W.heap.size ≤ b → Shn W V b (.slice rva rs.length rvc) rs tail (.slice none 0 0) (.slice none 0 0) [] []) := fun V b gV hb hlo =>
    ⟨gV, hb, Rw.nil _ _ _ _, Rw.nil _ _ _ _, rfl, fun i id v h => by simp at h, hN, hlo, hM⟩
  have HRM := hide (room_any ((W.alloc (.cells #[.slice rva rs.length rvc, .bool tail] 26)).alloc (.cells #[.slice rva rs.length rvc, .bool tail, .slice none 0 0, .slice none 0 0] 30)) _ nodes (hI.G gB) hnl)
  have HG1 := hide gB
  have HB3 := hide hb3
  have HBS := hide hbs
  have HN := hide hN
  have HI := hide hI
  clear gB hb3 hbs hN hM hal hI
  go_enter Tryd.func4, Tryd.ntmps4
  go_wp2_with fail
  refine HRM.out.mono ?_
  rintro e w2 ⟨fv, rfl, hrf, hg12⟩
  obtain ⟨fg, fc, rfl, hflo, hfhi, hfc⟩ := room_form hrf
  have hgW2 := HG1.out.trans hg12
  have HF2 : Hid (Rw W.heap.size 2 1 w2 (.slice (some ⟨fg, 0, none⟩) (nodes.length + 2) fc) (nodes.length + 2) ((nodes ++ [-81, -82]).map I)) := Rw.base hrf HG1.out.size
  have HOR := hide (partp_any W w2 (W.heap.size + 1) (.slice rva rs.length rvc) rs tail _ _ [] [] (by simp) (HSH.out w2 _ hgW2 (HBS.out.G hg12) (Nat.le_succ _)) hrl HAL.out _ nodes (room_ids HF2.out HI.out.ok) hnl (eachL nodes) (eachL_up nodes) (fun _ => eachL_mem) (fun w' av' k => room_ids (Rw.askO HF2.out k (fun b _ => noown b)) HI.out.ok))
  have HB32 := hide (HB3.out.G hg12)
  have HGW2 := hide hgW2
  have HFG := hide hfhi
  have i1 : (nodes.length : Int) ≤ (fc : Int) := by omega
  have i2 : (nodes.length : Int) ≤ (lc : Int) := by omega
  clear hrf hg12 hflo hfhi hgW2 HRM HB3 HBS HG1
  go_wp2_with fail
  refine HOR.out.mono ?_
  rintro e w3 ⟨out, code, asked, av3, gv3, gl3, nv3, hR, rfl, hr3, hsn, hmv, hnd, hao⟩
  rw [List.nil_append] at hsn
  have hlen := hR.len hnl
  have HLN := hide hlen
  have HR64 : Hid (∀ id ∈ asked, R64 id) := fun id h => HI.out.ok id (eachL_mem.1 (hlen.2.2 id h))
  have HR := hide hR
  have c3 : ∀ o, w3.cell? ⟨W.heap.size, o, none⟩ = ([.slice rva rs.length rvc, .bool tail] : List Value)[o]? := (HB32.out.mv hmv (by decide)).cell
  have HB33 := hide (HB32.out.mv hmv (by decide))
  have HF3 := hide (Rw.askO HF2.out hao (fun b _ => noown b))
  have HW3 : Hid (Rw W.heap.size 2 1 w3 nv3 out.length (out.map I)) := Rw.base hr3 HGW2.out.size
  have HWN : Hid (∀ b, nv3.ownBlock = some b → w2.heap.size ≤ b) := fun b hb => (Rw.own hr3 hb).1
  have HS3 := hide hsn
  have HM3 : Hid (w2.heap.size ≤ w3.heap.size) := hmv.size
  have HRO := hide (rparts_any w3 (.slice rva rs.length rvc) rs tail (HN.out.G hsn.g) hrl HAL.out (.slice la nodes.length lc) nodes (HI.out.G hsn.g) hnl)
  obtain ⟨na3, nc3, rfl⟩ := Rw.form hr3
  clear hlen hR hr3 hsn hmv hnd hao HOR HB32 HF2
  go_wp2_with fail
  refine HRO.out.mono ?_
  rintro e w4 ⟨out', code', asked', ov, qv, hR', rfl, hro, hrq, hg4⟩
  obtain ⟨rfl, rfl, rfl⟩ := HR.out.uniq hR'
  obtain ⟨oa, oc, rfl⟩ := Rw.form hro
  obtain ⟨qa, qc, rfl⟩ := Rw.form hrq
  have HW4 := hide (Rw.G HW3.out hg4)
  have HF4 := hide (Rw.G HF3.out hg4)
  have HO4 := hide hro
  have HQ4 := hide hrq
  have HS4 := hide (HS3.out.G hg4)
  have HB34 := hide (HB33.out.G hg4)
  have HM4 : Hid (w2.heap.size ≤ w4.heap.size) := Nat.le_trans HM3.out hg4.size
  have HID := hide (ids_eq W.heap.size w3.heap.size w4 _ _ out HW4.out HO4.out (by have := HLN.out.1; omega))
  clear hro hrq hg4 hR' HRO c3 HB33 HF3 HW3 HS3 HM3
  go_wp2_with fail
  refine HID.out.mono ?_
  rintro e w5 ⟨rfl, hg5⟩
  have HWH := hide (whole_any W w5 _ _ rs tail av3 gv3 asked gl3 (HS4.out.G hg5) w3.heap.size _ (Rw.G HQ4.out hg5) HR64.out hrl HAL.out (by have := HLN.out.2.1; omega))
  have HW5 := hide (Rw.G HW4.out hg5)
  have HF5 := hide (Rw.G HF4.out hg5)
  have HO5 := hide (Rw.G HO4.out hg5)
  have HB35 := hide (HB34.out.G hg5)
  have HG5 := hide (HS4.out.g.trans hg5)
  have HM5 : Hid (w2.heap.size ≤ w5.heap.size) := Nat.le_trans HM4.out hg5.size
  clear hg5 HID HW4 HF4 HO4 HQ4 HS4 HB34 HM4
  go_wp2_with fail
  refine HWH.out.mono ?_
  rintro e w6 ⟨rfl, hg6⟩
  have HST := hide (stays_any W.heap.size w6 _ _ nodes (Rw.G HF5.out hg6) (HI.out.G (HG5.out.trans hg6)) hnl)
  have HG6 := hide hg6
  clear hg6 HWH
  go_wp2_with fail
  refine HST.out.mono ?_
  rintro e w7 ⟨rfl, hg7⟩
  have hg57 := HG6.out.trans hg7
  have c3 : ∀ o, w7.cell? ⟨W.heap.size, o, none⟩ = ([.slice rva rs.length rvc, .bool tail] : List Value)[o]? := (HB35.out.G hg57).cell
  have gC : G w7 (w7.alloc (.cells #[.slice rva rs.length rvc, .bool tail, .slice none 0 0, .slice none 0 0] 30)) := (G.refl w7).alloc _
  have HBT := hide (Blk.new w7 [.slice rva rs.length rvc, .bool tail, .slice none 0 0, .slice none 0 0] 30)
  have HG8 := hide ((HG5.out.trans hg57).trans gC)
  have HW8 := hide (Rw.G (Rw.G HW5.out hg57) gC)
  have HF8 := hide (Rw.G (Rw.G HF5.out hg57) gC)
  have HO8 := hide (Rw.G (Rw.G HO5.out hg57) gC)
  have HM8 : Hid (w2.heap.size ≤ w7.heap.size) := Nat.le_trans HM5.out hg57.size
  have HZ8 : Hid (W.heap.size ≤ w7.heap.size) := (HG5.out.trans hg57).size
  clear hg7 hg57 gC HST HG6 HB35 HG5 HW5 HF5 HO5 HM5
  go_wp2_with fail
  obtain ⟨half, hhalf⟩ : ∃ half, half = nodes.take (nodes.length / 2) := ⟨_, rfl⟩
  have hhl : half.length = nodes.length / 2 := by rw [hhalf, List.length_take]; omega
  have HHI : Hid (Ids W (.slice la (nodes.length / 2) lc) half) := by
    rw [hhalf]
    exact half_ids HI.out _ (by omega)
  have HHL : Hid (half.length ≤ 1048576) := by show _ ≤ _; omega
  have HHK : Hid (∀ x ∈ half, R64 x) := HHI.out.ok
  obtain ⟨w8, hw8⟩ : ∃ w8, w8 = w7.alloc (.cells #[.slice rva rs.length rvc, .bool tail, .slice none 0 0, .slice none 0 0] 30) := ⟨_, rfl⟩
  rw [← hw8] at HBT HG8 HW8 HF8 HO8 ⊢
  have HZ88 : Hid (w7.heap.size ≤ w8.heap.size) := by rw [hw8, World.size_alloc]; exact Nat.le_succ _
  have HCP := hide (copy_any w8 _ half (HHI.out.G HG8.out) (by omega))
  clear hhalf hhl hw8 c3 HHI
  refine HCP.out.mono ?_
  rintro e w9 ⟨cv, rfl, hrc, hg9⟩
  obtain ⟨ca, cc, rfl⟩ := Rw.form hrc
  have HW9 := hide (Rw.G HW8.out hg9)
  have HF9 := hide (Rw.G HF8.out hg9)
  have HO9 := hide (Rw.G HO8.out hg9)
  have HM9 : Hid (w2.heap.size ≤ w9.heap.size) := Nat.le_trans HM8.out (Nat.le_trans HZ88.out hg9.size)
  have HG9 := hide (HG8.out.trans hg9)
  have HOR := hide (partp_any W w9 w7.heap.size (.slice rva rs.length rvc) rs tail _ _ [] [] (by simp) (HSH.out w9 _ HG9.out (HBT.out.G hg9) HZ8.out) hrl HAL.out _ half (Rw.ids hrc HHK.out) HHL.out (eachL half) (eachL_up half) (fun _ => eachL_mem) (fun w' av' k => Rw.ids (Rw.askO hrc k (fun b _ => noown b)) HHK.out))
  clear hrc hg9 HCP HW8 HF8 HO8 HG8 HBT
  go_wp2_with fail
  refine HOR.out.mono ?_
  rintro e w10 ⟨out2, code2, asked2, av10, gv10, gl10, nv10, hR2, rfl, hr10, hsn10, hmv10, hnd10, hao10⟩
  rw [List.nil_append] at hsn10
  have HLN2 := hide (hR2.len HHL.out)
  have HW10 := hide (Rw.askO HW9.out hao10 (fun b _ => noown b))
  have HF10 := hide (Rw.askO HF9.out hao10 (fun b _ => noown b))
  have HO10 := hide (Rw.askO HO9.out hao10 (fun b _ => noown b))
  have HX10 := hide hr10
  have HND10 := hide hnd10
  have HNA : Hid (∀ (u : Value) lo n xs, Rw lo 2 1 w9 u n xs → ∀ b, u.ownBlock = some b → av10.ownBlock ≠ some b) := fun u lo n xs hu b hb e => by
    rcases hao10.2 b e with q | q
    · exact noown b q
    · have := (Rw.own hu hb).2.1
      omega
  have HXN : Hid (∀ b, nv10.ownBlock = some b → w9.heap.size ≤ b) := fun b hb => (Rw.own hr10 hb).1
  have HXL : Hid (∀ b, nv10.ownBlock = some b → b < w10.heap.size) := fun b hb => (Rw.own hr10 hb).2.1
  have HWL : Hid (∀ b, (Value.slice na3 out.length nc3).ownBlock = some b → b < w9.heap.size) := fun b hb => (Rw.own HW9.out hb).2.1
  have HM10 : Hid (w9.heap.size ≤ w10.heap.size) := hmv10.size
  have HOR2 := hide (partp_any W w10 w7.heap.size (.slice rva rs.length rvc) rs tail av10 gv10 asked2 gl10 (by have := HLN2.out.2.1; omega) hsn10 hrl HAL.out _ nodes (room_ids HF10.out HI.out.ok) hnl (eachL nodes) (eachL_up nodes) (fun _ => eachL_mem) (fun w' av' k => room_ids (Rw.askO HF10.out k (HNA.out _ _ _ _ HF9.out)) HI.out.ok))
  obtain ⟨na10, nc10, rfl⟩ := Rw.form hr10
  clear hR2 hr10 hsn10 hmv10 hnd10 hao10 HOR HHL HHK HG9
  go_wp2_with fail
  refine HOR2.out.mono ?_
  rintro e w11 ⟨out3, code3, asked3, av11, gv11, gl11, nv11, hR3, rfl, hr11, hsn11, hmv11, hnd11, hao11⟩
  obtain ⟨rfl, rfl, rfl⟩ := HR.out.uniq hR3
  have HW11 := hide (Rw.askO HW10.out hao11 (HNA.out _ _ _ _ HW9.out))
  have HF11 := hide (Rw.askO HF10.out hao11 (HNA.out _ _ _ _ HF9.out))
  have HO11 := hide (Rw.askO HO10.out hao11 (HNA.out _ _ _ _ HO9.out))
  have HX11 := hide (Rw.askO HX10.out hao11 HND10.out)
  have HY11 := hide hr11
  have HYN : Hid (∀ b, nv11.ownBlock = some b → w10.heap.size ≤ b) := fun b hb => (Rw.own hr11 hb).1
  have HG11 := hide hsn11.g
  have HM11 : Hid (w10.heap.size ≤ w11.heap.size) := hmv11.size
  have HID := hide (ids_eq w10.heap.size w3.heap.size w11 _ _ out HY11.out HO11.out (by have := HLN.out.1; omega))
  obtain ⟨na11, nc11, rfl⟩ := Rw.form hr11
  clear hR3 hr11 hsn11 hmv11 hnd11 hao11 HOR2 HW9 HF9 HO9 HW10 HF10 HO10 HX10 HND10 HNA
  go_wp2_with fail
  refine HID.out.mono ?_
  rintro e w12 ⟨rfl, hg12⟩
  have HID2 := hide (ids_eq W.heap.size w3.heap.size w12 _ _ out (Rw.G HW11.out hg12) (Rw.G HO11.out hg12) (by have := HLN.out.1; omega))
  have HG12 := hide hg12
  clear hg12 HID
  go_wp2_with fail
  refine HID2.out.mono ?_
  rintro e w13 ⟨rfl, hg13⟩
  have hgs : G w11 w13 := HG12.out.trans hg13
  have gD : G w11 (w13.alloc (.cells #[.slice na3 out.length nc3, .slice na10 out2.length nc10, .slice na11 out.length nc11] 23)) := hgs.trans ((G.refl w13).alloc _)
  have hBD := Blk.new w13 [.slice na3 out.length nc3, .slice na10 out2.length nc10, .slice na11 out.length nc11] 23
  obtain ⟨wz, hwz⟩ : ∃ wz, wz = w13.alloc (.cells #[.slice na3 out.length nc3, .slice na10 out2.length nc10, .slice na11 out.length nc11] 23) := ⟨_, rfl⟩
  rw [← hwz] at gD
  have hBD2 : Blk wz w13.heap.size 23 [.slice na3 out.length nc3, .slice na10 out2.length nc10, .slice na11 out.length nc11] := by rw [hwz]; exact hBD
  have hmz : w2.heap.size ≤ wz.heap.size := Nat.le_trans HM9.out (Nat.le_trans HM10.out (Nat.le_trans HM11.out gD.size))
  have HMZ := hide hmz
  have h9 := HM9.out
  have h10 := HM10.out
  have hls : Ls (cutW wz w2.heap.size).heap.size wz [.slice na3 out.length nc3, .slice na10 out2.length nc10, .slice na11 out.length nc11] [out, out2, out] := by
    rw [cut_size hmz]
    exact three_ls w2.heap.size w9.heap.size w10.heap.size wz _ _ _ _ _ _ (Rw.relo (Rw.G HW11.out gD) HWN.out) (Rw.relo (Rw.G HX11.out gD) (fun b hb => Nat.le_trans h9 (HXN.out b hb))) (Rw.relo (Rw.G HY11.out gD) (fun b hb => Nat.le_trans h9 (Nat.le_trans h10 (HYN.out b hb)))) HWL.out (fun b hb => ⟨HXN.out b hb, HXL.out b hb⟩) HYN.out h10
  have HAP := hide (apart_any (cutW wz w2.heap.size) wz w13.heap.size [.slice na3 out.length nc3, .slice na10 out2.length nc10, .slice na11 out.length nc11] [out.length, out2.length, out.length] [out, out2, out] ⟨hls, rfl, hBD2, cut_G hmz⟩ (by simp) (fun n hn => by have := HLN.out.1; have := HLN2.out.1; simp at hn; rcases hn with rfl | rfl | rfl <;> omega) 3 rfl)
  have HFZ := hide (Rw.G HF11.out gD)
  have HGZ := hide (HG11.out.trans gD)
  rw [hwz] at HAP HFZ HGZ HMZ
  clear hg13 hgs gD hBD hwz hBD2 hmz hls h9 h10 HID2 HG12
  go_wp2_with fail
  refine HAP.out.mono ?_
  rintro e w14 ⟨rfl, hg14⟩
  have hF14 := cut_rw HMZ.out hg14 HFZ.out (fun b hb => by
    have e : fg = b := by simpa [Value.ownBlock] using hb
    rw [← e]
    exact HFG.out)
  have hG14 := cut_to HMZ.out HGW2.out.size HGZ.out hg14
  have HG14 := hide hG14
  have HST := hide (stays_any W.heap.size w14 _ _ nodes hF14 (HI.out.G hG14) hnl)
  clear hg14 hF14 hG14 HAP HFZ HGZ HMZ
  go_wp2_with fail
  refine HST.out.mono ?_
  rintro e w15 ⟨rfl, hg15⟩
  go_wp2_with fail
  go_ret
  exact ⟨rfl, HG14.out.trans hg15⟩
end Go.Proofs.YtemkilffagjmcaaDoor
