/- trellisref1.Decode. -/
import Derived.Test.YtficmpaeochcgaaGreatDoorDec9
import Derived.Test.YtficmpaeochcgaaGreatDoorDec6
import Derived.Test.YtficmpaeochcgaaGreatDoorEnc9
namespace Go.Proofs.YtficmpaeochcgaaGreatDoor
open Go.RowKit Go.Shelf Go.PlainAid Go.Lib

theorem strN_inj (xs ys : List Nat) (hx : ∀ d ∈ xs, d < 256) (hy : ∀ d ∈ ys, d < 256) (h : (strN xs).toList = (strN ys).toList) : xs = ys := by
  have e : ∀ l : List Nat, (strN l).toList = l.map UInt8.ofNat := fun l => by
    rw [show (strN l).toList = bytesOf (l.map fun d : Nat => (d : Int)) from strOfNums_toList _]
    simp [bytesOf]
  rw [e, e] at h
  induction xs generalizing ys with
  | nil => cases ys with
    | nil => rfl
    | cons y ys => cases h
  | cons x xs ih =>
    cases ys with
    | nil => cases h
    | cons y ys =>
      simp only [List.map_cons, List.cons.injEq] at h
      have h1 : x = y := by
        have := congrArg UInt8.toNat h.1
        have h2 := hx x (by simp); have h3 := hy y (by simp)
        simp at this
        omega
      rw [h1, ih ys (fun d hd => hx d (by simp [hd])) (fun d hd => hy d (by simp [hd])) h.2]
theorem addr_add0 (a : Addr) : a.add 0 = a := rfl
theorem slice_front (p : Option Addr) (n cap L : Nat) (h : L ≤ cap) (w : World) : (Instr.slice 33 (.slice p n cap) none (some (.int .i64 (L : Int))) none).run Tryz.prog w = .ok (.slice p L cap) w := by
  have h1 : (L : Int) ≤ (cap : Int) := by omega
  obtain ⟨i0, hi, hz0, hz1, hz2⟩ := info_parts info_u8
  cases p <;> simp [hi, Instr.slice, Instr.sliceBounds, Instr.sliceBound, run_underlying Tryz.underlying33, asIntOf, sizeOf, typeInfo, h, addr_add0]
theorem take_pfx {ys bs : List Nat} (h : ys.isPrefixOf bs = true) : bs.take ys.length = ys := by
  obtain ⟨r, rfl⟩ := List.isPrefixOf_iff_prefix.1 h
  simp
theorem pfx_take {ys bs : List Nat} (h : bs.take ys.length = ys) : ys.isPrefixOf bs = true := List.isPrefixOf_iff_prefix.2 (h ▸ List.take_prefix _ _)
theorem pfx_len {ys bs : List Nat} (h : ys.isPrefixOf bs = true) : ys.length ≤ bs.length := (List.isPrefixOf_iff_prefix.1 h).length_le
set_option maxRecDepth 100000 in
set_option maxHeartbeats 16000000 in
theorem rde_nil (p : Option Addr) (cap : Nat) (bs : List Nat) (w : World) (h0 : bs.length = 0) : Calls Tryz.prog 63 #[.slice p bs.length cap] w (DecA bs w) := by
  have HN : Hid (DAns bs 0 0 0 E0 0 15) := .inr ⟨fun k0 a0 b0 s0 rest g1 g2 _ g4 => by
    obtain ⟨c, t, h1, _⟩ := enc_head k0 a0 b0 s0 g1 g2
    rw [g4, h1] at h0
    simp at h0, rfl, rfl, rfl, rfl, rfl, rfl⟩
  rw [h0]
  go_enter Tryz.func63, Tryz.ntmps63
  go_wp2
  exact bodyPost_ret (v := .tuple #[V0, .int .i64 0, .int .i64 15]) (by simp [results, Tryz.results63, go_sem]) rfl ⟨0, 0, 0, E0, 0, 15, rfl, HN.out, by repeat (first | exact G.refl _ | assumption | refine G.alloc ?_ _ | refine G.drewNE ?_ _ | refine G.drew ?_ | refine G.setCell ?_ (by simp) _)⟩
set_option maxRecDepth 100000 in
set_option maxHeartbeats 16000000 in
theorem rde_some (p : Option Addr) (cap : Nat) (bs : List Nat) (w : World) (hx : RowB w (.slice p bs.length cap) bs) (hb : ∀ d ∈ bs, d < 256) (hl : bs.length ≤ 140737488355328) (hcap : bs.length ≤ cap) (h0 : 0 < bs.length) : Calls Tryz.prog 63 #[.slice p bs.length cap] w (DecA bs w) := by
  have H1 : Hid (∀ W, G w W → Calls Tryz.prog 108 #[.slice p bs.length cap] W (GBA bs W)) := fun W g => rd_any _ bs W (hx.G g) hb hl h0
  have HX : Hid (RowB w (.slice p bs.length cap) bs) := hx
  have HB : Hid _ := hb
  have hne : ((bs.length : Int) == 0) = false := beq_false_of_ne (by omega)
  clear hb hx
  go_enter Tryz.func63, Tryz.ntmps63
  go_wp2_with fail
  refine (H1.out _ ((G.refl w).alloc _)).mono ?_
  rintro e w1 ⟨k, a, b, s, rfl, ha, hb', hs, hp, hb1⟩
  have hc1 : ∀ o, w1.cell? { block := w.heap.size, off := o } = [I 0, I 0, I 0, .string E0][o]? := G.cells hb1 (by simp) (by simp)
  have hf1 : ∀ o, w1.frozen? { block := w.heap.size, off := o } = false := G.frozens hb1 (by simp) (by simp)
  have hz1 : w.heap.size < w1.heap.size := by have := hb1.size; simp at this; omega
  have HG1 : Hid (G w w1) := ((G.refl w).alloc _).trans hb1
  have HP : Hid (GuessP bs k a b s) := hp
  clear hb1 H1 hp
  cases hok : okV k a b s
  · have HN : Hid (DAns bs 0 0 0 E0 0 15) := dans_no HP.out (.inl hok)
    have HE : Hid _ := ren_no k a b s hs hok
    clear hok
    go_wp2_with fail
    refine (HE.out _).mono ?_
    rintro e w2 ⟨rfl, hb2⟩
    have g2 : G w1 w2 := ((G.refl w1).alloc _).trans hb2
    have hc2 : ∀ o, w2.cell? { block := w.heap.size, off := o } = [I 0, I 0, I 0, .string E0][o]? := G.cells g2 hc1 hz1
    have hf2 : ∀ o, w2.frozen? { block := w.heap.size, off := o } = false := G.frozens g2 hf1 hz1
    have HG : Hid (G w w2) := HG1.out.trans g2
    clear g2 hb2 HE
    go_wp2
    go_quiet (fail)
    go_wp2
    exact bodyPost_ret (v := .tuple #[V0, .int .i64 0, .int .i64 15]) (by simp [results, Tryz.results63, go_sem, hc2]) rfl ⟨0, 0, 0, E0, 0, 15, rfl, HN.out, by repeat (first | exact G.refl _ | assumption | exact HG.out | refine G.alloc ?_ _ | refine G.drewNE ?_ _ | refine G.drew ?_ | refine G.setCell ?_ (by simp) _)⟩
  · have HE : Hid _ := ren_yes k a b s hs hok ha
    have HL : Hid _ := enc_lt k a b s hok ha hb'
    generalize hys : encV k a b s = ys at HE HL
    go_wp2_with fail
    refine (HE.out _).mono ?_
    rintro e w2 ⟨x2, rfl, hB2⟩
    have g2 : G w1 w2 := ((G.refl w1).alloc _).trans hB2.g
    have hc5 : ∀ o, w2.cell? { block := w1.heap.size, off := o } = [I k, I a, I b, .string s][o]? := G.cells hB2.g (by simp) (by simp)
    have hz5 : w1.heap.size < w2.heap.size := by have := hB2.g.size; simp at this; omega
    have hc2 : ∀ o, w2.cell? { block := w.heap.size, off := o } = [I 0, I 0, I 0, .string E0][o]? := G.cells g2 hc1 hz1
    have hf2 : ∀ o, w2.frozen? { block := w.heap.size, off := o } = false := G.frozens g2 hf1 hz1
    have HG : Hid (G w w2) := HG1.out.trans g2
    have hcv : ∀ n, (convert 33 9 x2).run Tryz.prog (w2.drewN n) = .ok (.string (strN ys)) (w2.drewN n) := fun n => row_str (hB2.row.G ((G.refl w2).drewNE n))
    have hrow2 := hB2.row
    obtain ⟨p2, c2, e2, hcap2, _⟩ := hB2.row
    subst e2
    have HR : Hid (RowB w2 (.slice p bs.length cap) bs) := HX.out.G (HG1.out.trans g2)
    clear g2 hB2 HE hrow2 hc1 hf1
    by_cases hlen : bs.length < ys.length
    · have hleni : (bs.length : Int) < (ys.length : Int) := by omega
      have HN : Hid (DAns bs 0 0 0 E0 0 15) := dans_no HP.out (.inr (by
        rw [hys]
        cases h : ys.isPrefixOf bs
        · rfl
        · have := pfx_len h; omega))
      clear hys HR hcv
      go_wp2
      go_quiet (fail)
      go_wp2
      exact bodyPost_ret (v := .tuple #[V0, .int .i64 0, .int .i64 15]) (by simp [results, Tryz.results63, go_sem, hc2]) rfl ⟨0, 0, 0, E0, 0, 15, rfl, HN.out, by repeat (first | exact G.refl _ | assumption | exact HG.out | refine G.alloc ?_ _ | refine G.drewNE ?_ _ | refine G.drew ?_ | refine G.setCell ?_ (by simp) _)⟩
    · have hleni : ¬ (bs.length : Int) < (ys.length : Int) := by omega
      have hsl := slice_front p bs.length cap ys.length (by omega)
      have hcv2 : ∀ n, (convert 33 9 (.slice p ys.length cap)).run Tryz.prog (w2.drewN n) = .ok (.string (strN (bs.take ys.length))) (w2.drewN n) := fun n => by
        refine row_str ?_
        obtain ⟨p', cap', he, h1, h2⟩ := RowB.G HR.out ((G.refl w2).drewNE n)
        cases he
        refine ⟨p, cap, by rw [List.length_take]; congr 1; omega, by rw [List.length_take]; omega, fun i d hi => ?_⟩
        rw [List.getElem?_take] at hi
        split at hi
        · exact h2 i d hi
        · cases hi
      cases hpf : ys.isPrefixOf bs
      · have HN : Hid (DAns bs 0 0 0 E0 0 15) := dans_no HP.out (.inr (by rw [hys]; exact hpf))
        have hsne : ((strN (bs.take ys.length)).toList == (strN ys).toList) = false := by
          refine beq_false_of_ne fun he => ?_
          have := strN_inj _ _ (fun d hd => HB.out d (List.mem_of_mem_take hd)) HL.out he
          have := pfx_take this
          rw [this] at hpf; cases hpf
        clear hys hpf HR HL
        go_wp2
        go_quiet (fail)
        go_wp2
        exact bodyPost_ret (v := .tuple #[V0, .int .i64 0, .int .i64 15]) (by simp [results, Tryz.results63, go_sem, hc2]) rfl ⟨0, 0, 0, E0, 0, 15, rfl, HN.out, by repeat (first | exact G.refl _ | assumption | exact HG.out | refine G.alloc ?_ _ | refine G.drewNE ?_ _ | refine G.drew ?_ | refine G.setCell ?_ (by simp) _)⟩
      · have HN : Hid (DAns bs k a b s (ys.length : Int) 0) := by
          have := dans_yes hok ha hb' HP.out (by rw [hys]; exact hpf)
          rwa [hys] at this
        have htk := take_pfx hpf
        rw [htk] at hcv2
        clear htk
        clear hys hpf HR HL
        go_wp2
        go_quiet (fail)
        go_wp2
        exact bodyPost_ret (v := .tuple #[V k a b s, .int .i64 (ys.length : Int), .int .i64 0]) (by simp [results, Tryz.results63, go_sem, hc2]) rfl ⟨k, a, b, s, _, 0, rfl, HN.out, by repeat (first | exact G.refl _ | assumption | exact HG.out | refine G.alloc ?_ _ | refine G.drewNE ?_ _ | refine G.drew ?_ | refine G.setCell ?_ (by simp) _)⟩
end Go.Proofs.YtficmpaeochcgaaGreatDoor
