/- What ParseExpr and Parse answer for texts of a known form. -/
import Derived.Test.YthpflfkgbapbnaaGreatDoorRd11
namespace Go.Proofs.YthpflfkgbapbnaaGreatDoor
section
section
section
section
open Go.RowKit

set_option maxRecDepth 100000 in
set_option maxHeartbeats 1000000 in
theorem lp_ok {rb g : Nat} {ts : List Tok} {i j : Nat} {W : World} (h : Rd rb g ts i W) {w0 : World} (g0 : G w0 W) (hr : w0.heap.size ≤ rb) {a b : Int} {x : Tok} (hx : ts[i]? = some x) (hs : seB x ⟨#[114, 101, 116, 117, 114, 110]⟩ = true) (hl : i + 1 < ts.length) (HC : ∀ W, Rd rb g ts (i + 1) W → G w0 W → Calls Tryz.prog 45 #[ptr rb, .agg #[.slice none 0 0, .slice none 0 0, .bool false, .bool false, .slice none 0 0, .slice none 0 0, I (-1), I (-1), .slice none 0 0], .func (.func 46) #[] #[]] W fun e W' => (∃ gb cap, e = .returned (.agg #[.slice none 0 0, .slice none 0 0, .bool true, .bool false, .slice (some ⟨gb, 0, none⟩) 1 cap, .slice none 0 0, I a, I b, .slice none 0 0])) ∧ Rd rb g ts j W' ∧ Qr rb W W') : Calls Tryz.prog 27 #[ptr rb, .agg #[.slice none 0 0, .slice none 0 0, .bool false, .bool false, .slice none 0 0, .slice none 0 0, I (-1), I (-1), .slice none 0 0]] W fun e W' => (∃ gb cap, e = .returned (.agg #[.slice none 0 0, .slice none 0 0, .bool true, .bool false, .slice (some ⟨gb, 0, none⟩) 1 cap, .slice none 0 0, I a, I b, .slice none 0 0])) ∧ Rd rb g ts j W' ∧ Qr rb W W' := by
  have HX0 : Hid (Ry rb [.slice none 0 0, .slice none 0 0, .bool false, .bool false, .slice none 0 0, .slice none 0 0, I (-1), I (-1), .slice none 0 0] W.heap.size ((W.alloc (.cells #[.slice none 0 0, .slice none 0 0, .bool false, .bool false, .slice none 0 0, .slice none 0 0, I (-1), I (-1), .slice none 0 0] 42)).alloc (.cells #[.slice none 0 0, .slice none 0 0, .bool false, .bool false, .slice none 0 0, .slice none 0 0, I 0, I 0, .slice none 0 0] 42))) := (Ry.new h.Q0.1 [.slice none 0 0, .slice none 0 0, .bool false, .bool false, .slice none 0 0, .slice none 0 0, I (-1), I (-1), .slice none 0 0] 42).G ((G.refl _).alloc _)
  have HZ0 : Hid (Ry rb [.slice none 0 0, .slice none 0 0, .bool false, .bool false, .slice none 0 0, .slice none 0 0, I 0, I 0, .slice none 0 0] (W.heap.size + 1) ((W.alloc (.cells #[.slice none 0 0, .slice none 0 0, .bool false, .bool false, .slice none 0 0, .slice none 0 0, I (-1), I (-1), .slice none 0 0] 42)).alloc (.cells #[.slice none 0 0, .slice none 0 0, .bool false, .bool false, .slice none 0 0, .slice none 0 0, I 0, I 0, .slice none 0 0] 42))) := by
    have := Ry.new (w := W.alloc (.cells #[.slice none 0 0, .slice none 0 0, .bool false, .bool false, .slice none 0 0, .slice none 0 0, I (-1), I (-1), .slice none 0 0] 42)) (rb := rb) (by have := h.Q0.1; simp; omega) [.slice none 0 0, .slice none 0 0, .bool false, .bool false, .slice none 0 0, .slice none 0 0, I 0, I 0, .slice none 0 0] 42
    rwa [World.size_alloc] at this
  have HGN := xh h.Q0.2
  have HGZ : Hid (W.heap.size + 1 ≠ g) := by have := h.gl; unfold Hid; omega
  have hga : G W ((W.alloc (.cells #[.slice none 0 0, .slice none 0 0, .bool false, .bool false, .slice none 0 0, .slice none 0 0, I (-1), I (-1), .slice none 0 0] 42)).alloc (.cells #[.slice none 0 0, .slice none 0 0, .bool false, .bool false, .slice none 0 0, .slice none 0 0, I 0, I 0, .slice none 0 0] 42)) := ((G.refl W).alloc _).alloc _
  have HR0 := xh (h.G hga)
  have HGA := xh hga
  have HXX := xh hx
  have HS := xh hs
  have HG0 := xh (g0.trans hga)
  have HRR := xh hr
  have HCC := xh HC
  clear h g0 hr HC hx hs hga
  go_enter Tryz.func27, Tryz.ntmps27
  go_wp2_with (first | (go_at_call 44; refine Hid.out ?_) | fail)
  unfold Hid
  obtain ⟨nb, hnb⟩ : ∃ nb, nb = W.heap.size := ⟨_, rfl⟩
  rw [← hnb] at HX0 HZ0 HGN HGZ ⊢
  have HNB : Hid (W.heap.size ≤ nb) := by unfold Hid; omega
  clear hnb
  generalize ((W.alloc (.cells #[.slice none 0 0, .slice none 0 0, .bool false, .bool false, .slice none 0 0, .slice none 0 0, I (-1), I (-1), .slice none 0 0] 42)).alloc (.cells #[.slice none 0 0, .slice none 0 0, .bool false, .bool false, .slice none 0 0, .slice none 0 0, I 0, I 0, .slice none 0 0] 42)) = wa at HX0 HZ0 HR0 HGA HG0 ⊢
  refine (took_yes HR0.out HXX.out ⟨#[114, 101, 116, 117, 114, 110]⟩ HS.out hl).mono ?_
  rintro e w1 ⟨rfl, hrd, hq⟩
  have HR1 := xh hrd
  have HX1 := xh (HX0.out.Q hq)
  have HZ1 := xh (HZ0.out.Q hq)
  have HQ1 : Hid (Qr rb W w1) := (Qr.of HGA.out).trans hq
  have HG1 : Hid (G w0 w1) := hq.G HG0.out HRR.out
  clear hrd hq HR0 HX0 HZ0 HG0 HGA
  have hcr := HX1.out.c
  have hfr := HX1.out.f
  go_wp2_with (first | (go_at_call 45; refine Hid.out ?_) | fail)
  unfold Hid
  clear hcr hfr
  refine (HCC.out _ HR1.out HG1.out).mono ?_
  rintro e w2 ⟨⟨gb, cap, rfl⟩, hrd, hq⟩
  have HR2 := xh hrd
  have HZ2 := xh (HZ1.out.Q hq)
  have HQ2 := xh (HQ1.out.trans hq)
  clear hrd hq HR1 HX1 HZ1 HG1 HQ1
  have hcz := HZ2.out.c
  have hfz := HZ2.out.f
  go_wp2
  refine bodyPost_ret (v := .agg #[.slice none 0 0, .slice none 0 0, .bool true, .bool false, .slice (some ⟨gb, 0, none⟩) 1 cap, .slice none 0 0, I a, I b, .slice none 0 0]) (by simp [results, Tryz.results27, go_sem, hcz]) rfl ⟨⟨gb, cap, rfl⟩, HR2.out.ni HZ2.out.n HGZ.out _ _ _ _ _ _ _ _ _, HQ2.out.ni (Nat.le_succ_of_le HNB.out) _ _ _ _ _ _ _ _ _⟩
set_option maxRecDepth 100000 in
set_option maxHeartbeats 1000000 in
theorem lp_no {rb g : Nat} {ts : List Tok} {i : Nat} {W : World} (h : Rd rb g ts i W) {w0 : World} (g0 : G w0 W) (hr : w0.heap.size ≤ rb) {x : Tok} (hx : ts[i]? = some x) (hs : seB x ⟨#[114, 101, 116, 117, 114, 110]⟩ = true) (hl : i + 1 < ts.length) (HC : ∀ W, Rd rb g ts (i + 1) W → G w0 W → Calls Tryz.prog 45 #[ptr rb, .agg #[.slice none 0 0, .slice none 0 0, .bool false, .bool false, .slice none 0 0, .slice none 0 0, I (-1), I (-1), .slice none 0 0], .func (.func 46) #[] #[]] W fun e W' => (∃ pp, e = .panicked [{ v := .iface 55 (.agg #[I 101, I pp]), recovered := false }]) ∧ Qr rb W W') : Calls Tryz.prog 27 #[ptr rb, .agg #[.slice none 0 0, .slice none 0 0, .bool false, .bool false, .slice none 0 0, .slice none 0 0, I (-1), I (-1), .slice none 0 0]] W fun e W' => (∃ pp, e = .panicked [{ v := .iface 55 (.agg #[I 101, I pp]), recovered := false }]) ∧ Qr rb W W' := by
  have HX0 : Hid (Ry rb [.slice none 0 0, .slice none 0 0, .bool false, .bool false, .slice none 0 0, .slice none 0 0, I (-1), I (-1), .slice none 0 0] W.heap.size ((W.alloc (.cells #[.slice none 0 0, .slice none 0 0, .bool false, .bool false, .slice none 0 0, .slice none 0 0, I (-1), I (-1), .slice none 0 0] 42)).alloc (.cells #[.slice none 0 0, .slice none 0 0, .bool false, .bool false, .slice none 0 0, .slice none 0 0, I 0, I 0, .slice none 0 0] 42))) := (Ry.new h.Q0.1 [.slice none 0 0, .slice none 0 0, .bool false, .bool false, .slice none 0 0, .slice none 0 0, I (-1), I (-1), .slice none 0 0] 42).G ((G.refl _).alloc _)
  have HZ0 : Hid (Ry rb [.slice none 0 0, .slice none 0 0, .bool false, .bool false, .slice none 0 0, .slice none 0 0, I 0, I 0, .slice none 0 0] (W.heap.size + 1) ((W.alloc (.cells #[.slice none 0 0, .slice none 0 0, .bool false, .bool false, .slice none 0 0, .slice none 0 0, I (-1), I (-1), .slice none 0 0] 42)).alloc (.cells #[.slice none 0 0, .slice none 0 0, .bool false, .bool false, .slice none 0 0, .slice none 0 0, I 0, I 0, .slice none 0 0] 42))) := by
    have := Ry.new (w := W.alloc (.cells #[.slice none 0 0, .slice none 0 0, .bool false, .bool false, .slice none 0 0, .slice none 0 0, I (-1), I (-1), .slice none 0 0] 42)) (rb := rb) (by have := h.Q0.1; simp; omega) [.slice none 0 0, .slice none 0 0, .bool false, .bool false, .slice none 0 0, .slice none 0 0, I 0, I 0, .slice none 0 0] 42
    rwa [World.size_alloc] at this
  have HGN := xh h.Q0.2
  have HGZ : Hid (W.heap.size + 1 ≠ g) := by have := h.gl; unfold Hid; omega
  have hga : G W ((W.alloc (.cells #[.slice none 0 0, .slice none 0 0, .bool false, .bool false, .slice none 0 0, .slice none 0 0, I (-1), I (-1), .slice none 0 0] 42)).alloc (.cells #[.slice none 0 0, .slice none 0 0, .bool false, .bool false, .slice none 0 0, .slice none 0 0, I 0, I 0, .slice none 0 0] 42)) := ((G.refl W).alloc _).alloc _
  have HR0 := xh (h.G hga)
  have HGA := xh hga
  have HXX := xh hx
  have HS := xh hs
  have HG0 := xh (g0.trans hga)
  have HRR := xh hr
  have HCC := xh HC
  clear h g0 hr HC hx hs hga
  go_enter Tryz.func27, Tryz.ntmps27
  go_wp2_with (first | (go_at_call 44; refine Hid.out ?_) | fail)
  unfold Hid
  obtain ⟨nb, hnb⟩ : ∃ nb, nb = W.heap.size := ⟨_, rfl⟩
  rw [← hnb] at HX0 HZ0 HGN HGZ ⊢
  have HNB : Hid (W.heap.size ≤ nb) := by unfold Hid; omega
  clear hnb
  generalize ((W.alloc (.cells #[.slice none 0 0, .slice none 0 0, .bool false, .bool false, .slice none 0 0, .slice none 0 0, I (-1), I (-1), .slice none 0 0] 42)).alloc (.cells #[.slice none 0 0, .slice none 0 0, .bool false, .bool false, .slice none 0 0, .slice none 0 0, I 0, I 0, .slice none 0 0] 42)) = wa at HX0 HZ0 HR0 HGA HG0 ⊢
  refine (took_yes HR0.out HXX.out ⟨#[114, 101, 116, 117, 114, 110]⟩ HS.out hl).mono ?_
  rintro e w1 ⟨rfl, hrd, hq⟩
  have HR1 := xh hrd
  have HX1 := xh (HX0.out.Q hq)
  have HZ1 := xh (HZ0.out.Q hq)
  have HQ1 : Hid (Qr rb W w1) := (Qr.of HGA.out).trans hq
  have HG1 : Hid (G w0 w1) := hq.G HG0.out HRR.out
  clear hrd hq HR0 HX0 HZ0 HG0 HGA
  have hcr := HX1.out.c
  have hfr := HX1.out.f
  go_wp2_with (first | (go_at_call 45; refine Hid.out ?_) | fail)
  unfold Hid
  clear hcr hfr
  refine (HCC.out _ HR1.out HG1.out).mono ?_
  rintro e w2 ⟨⟨pp, rfl⟩, hq⟩
  have HQ2 := xh (HQ1.out.trans hq)
  clear hq
  go_wp2
  exact ⟨rfl, ⟨pp, rfl⟩, HQ2.out⟩
set_option maxRecDepth 100000 in
set_option maxHeartbeats 1000000 in
theorem part_no {rb g : Nat} {ts : List Tok} {i : Nat} {W : World} (h : Rd rb g ts i W) {x : Tok} (hx : ts[i]? = some x) (hm : ∀ t ∈ ([⟨#[111, 112, 116, 105, 111, 110, 97, 108]⟩, ⟨#[109, 97, 116, 99, 104]⟩] : List ByteArray), seB x t = false) (ha : ∀ t ∈ ([⟨#[99, 114, 101, 97, 116, 101]⟩, ⟨#[109, 101, 114, 103, 101]⟩, ⟨#[115, 101, 116]⟩, ⟨#[114, 101, 109, 111, 118, 101]⟩, ⟨#[100, 101, 116, 97, 99, 104]⟩, ⟨#[100, 101, 108, 101, 116, 101]⟩, ⟨#[97, 98, 111, 114, 116]⟩] : List ByteArray), seB x t = false) : Calls Tryz.prog 25 #[ptr rb] W fun e W' => e = .returned (.agg #[.slice none 0 0, .slice none 0 0, .bool false, .bool false, .slice none 0 0, .slice none 0 0, I (-1), I (-1), .slice none 0 0]) ∧ Rd rb g ts i W' ∧ Qr rb W W' := by
  have HX0 : Hid (Ry rb [.slice none 0 0, .slice none 0 0, .bool false, .bool false, .slice none 0 0, .slice none 0 0, I 0, I 0, .slice none 0 0] W.heap.size ((W.alloc (.cells #[.slice none 0 0, .slice none 0 0, .bool false, .bool false, .slice none 0 0, .slice none 0 0, I 0, I 0, .slice none 0 0] 42)).alloc (.cells #[.slice none 0 0, .slice none 0 0, .bool false, .bool false, .slice none 0 0, .slice none 0 0, I (-1), I (-1), .slice none 0 0] 42))) := (Ry.new h.Q0.1 [.slice none 0 0, .slice none 0 0, .bool false, .bool false, .slice none 0 0, .slice none 0 0, I 0, I 0, .slice none 0 0] 42).G ((G.refl _).alloc _)
  have HZ0 : Hid (Ry rb [.slice none 0 0, .slice none 0 0, .bool false, .bool false, .slice none 0 0, .slice none 0 0, I (-1), I (-1), .slice none 0 0] (W.heap.size + 1) ((W.alloc (.cells #[.slice none 0 0, .slice none 0 0, .bool false, .bool false, .slice none 0 0, .slice none 0 0, I 0, I 0, .slice none 0 0] 42)).alloc (.cells #[.slice none 0 0, .slice none 0 0, .bool false, .bool false, .slice none 0 0, .slice none 0 0, I (-1), I (-1), .slice none 0 0] 42))) := by
    have := Ry.new (w := W.alloc (.cells #[.slice none 0 0, .slice none 0 0, .bool false, .bool false, .slice none 0 0, .slice none 0 0, I 0, I 0, .slice none 0 0] 42)) (rb := rb) (by have := h.Q0.1; simp; omega) [.slice none 0 0, .slice none 0 0, .bool false, .bool false, .slice none 0 0, .slice none 0 0, I (-1), I (-1), .slice none 0 0] 42
    rwa [World.size_alloc] at this
  have HGN := xh h.Q0.2
  have HGZ : Hid (W.heap.size + 1 ≠ g) := by have := h.gl; unfold Hid; omega
  have hga : G W ((W.alloc (.cells #[.slice none 0 0, .slice none 0 0, .bool false, .bool false, .slice none 0 0, .slice none 0 0, I 0, I 0, .slice none 0 0] 42)).alloc (.cells #[.slice none 0 0, .slice none 0 0, .bool false, .bool false, .slice none 0 0, .slice none 0 0, I (-1), I (-1), .slice none 0 0] 42)) := ((G.refl W).alloc _).alloc _
  have HR0 := xh (h.G hga)
  have HGA := xh hga
  have HXX := xh hx
  have HM := xh hm
  have HA := xh ha
  clear h hx hm ha hga
  go_enter Tryz.func25, Tryz.ntmps25
  go_wp2_with fail
  obtain ⟨nb, hnb⟩ : ∃ nb, nb = W.heap.size := ⟨_, rfl⟩
  rw [← hnb] at HX0 HZ0 HGN HGZ ⊢
  have HNB : Hid (W.heap.size ≤ nb) := by unfold Hid; omega
  clear hnb
  generalize ((W.alloc (.cells #[.slice none 0 0, .slice none 0 0, .bool false, .bool false, .slice none 0 0, .slice none 0 0, I 0, I 0, .slice none 0 0] 42)).alloc (.cells #[.slice none 0 0, .slice none 0 0, .bool false, .bool false, .slice none 0 0, .slice none 0 0, I (-1), I (-1), .slice none 0 0] 42)) = wa at HX0 HZ0 HR0 HGA ⊢
  go_loopw [] (fun W' => W' = wa) (fun _ => 0)
  case atStart => exact rfl
  case round =>
    have hw := hrel
    subst hw
    go_wp2_with (first | (go_at_call 40; refine Hid.out ?_) | fail)
    unfold Hid
    refine (am_no HR0.out HXX.out HM.out).mono ?_
    rintro e w1 ⟨rfl, hg⟩
    have HR1 := xh (HR0.out.G hg)
    have HX1 := xh (HX0.out.G hg)
    have HZ1 := xh (HZ0.out.G hg)
    have HG1 := xh (HGA.out.trans hg)
    clear hg HR0 HX0 HZ0 HGA
    go_wp2_with fail
    go_loopw [] (fun W' => W' = w1) (fun _ => 0)
    case atStart => exact rfl
    case round =>
      have hw := hrel
      subst hw
      go_wp2_with (first | (go_at_call 42; refine Hid.out ?_) | fail)
      unfold Hid
      refine (ac_no HR1.out HXX.out HA.out).mono ?_
      rintro e w2 ⟨rfl, hg⟩
      have HR2 := xh (HR1.out.G hg)
      have HX2 := xh (HX1.out.G hg)
      have HZ2 := xh (HZ1.out.G hg)
      have HQ2 : Hid (Qr rb W w2) := Qr.of (HG1.out.trans hg)
      clear hg HR1 HX1 HZ1 HG1
      have hcr := HX2.out.c
      have hfr := HX2.out.f
      have hcz := HZ2.out.c
      have hfz := HZ2.out.f
      go_wp2
      refine bodyPost_ret (v := .agg #[.slice none 0 0, .slice none 0 0, .bool false, .bool false, .slice none 0 0, .slice none 0 0, I (-1), I (-1), .slice none 0 0]) (by simp [results, Tryz.results25, go_sem, hcr]) rfl ⟨rfl, HR2.out.ni HX2.out.n HGN.out _ _ _ _ _ _ _ _ _, HQ2.out.ni HNB.out _ _ _ _ _ _ _ _ _⟩
end
open Go.RowKit

section
variable {P : Program} {ops : Array Oper} {rest : List Oper} {op : Oper} {a : Act} {w : World} {K : Act → World → Prop} {Q : Exit → Act → World → Prop}
theorem wp_of_exec {v : Value} {w' : World} (h : (execOp a.eval op).run P w = .ok (.value v) w') (hK : K (a.put op.dst v) w') : op.wp P a w K Q := by
  unfold Oper.wp
  rw [h]
  exact hK
theorem exec_append {ρ : Operand → Value} (s x : Operand) (t : TypeId) (ho : op.op = .call { callee := .builtin .append, args := #[s, x], argTypes := #[t, t] }) (y z : Value) (hs : ρ s = y) (hx : ρ x = z) (ty : TypeId) (hty : op.type = ty) {v : Value} {w' : World} (h : (Builtin.append_ #[t, t] ty #[y, z]).run P w = .ok v w') : (execOp ρ op).run P w = .ok (.value v) w' := by
  subst hty
  unfold execOp
  simp only [ho, resolve, invoke, builtin, Sem.run_bind, Sem.run_pure, Result.andThen_ok, List.map_toArray, List.map_cons, List.map_nil, hs, hx, h]
end

/-- A part in memory: what it skips, what it is limited to. -/
structure PtM (pb : Nat) (a b : Int) (W : World) : Prop where
  s : W.cell? ⟨pb, 6, none⟩ = some (I a)
  l : W.cell? ⟨pb, 7, none⟩ = some (I b)
theorem PtM.keep {pb : Nat} {a b : Int} {W W' : World} (h : PtM pb a b W) (hb : W'.heap[pb]? = W.heap[pb]?) : PtM pb a b W' := ⟨(World.cell?_of_block hb).trans h.s, (World.cell?_of_block hb).trans h.l⟩
theorem PtM.G {pb : Nat} {a b : Int} {W W' : World} (h : PtM pb a b W) (g : G W W') : PtM pb a b W' := h.keep (g.block pb (cell_lt h.s))
theorem PtM.set {pb : Nat} {a b : Int} {W : World} (h : PtM pb a b W) {k : Nat} (o : Nat) (v : Value) (hk : k ≠ pb) : PtM pb a b (W.setCell ⟨k, o, none⟩ v) := h.keep (set_other W k o pb v hk)
theorem app_part (gb : Nat) (cap : Nat) (a b : Int) (W : World) : ∃ pb c2 W3, (Builtin.append_ #[32, 32] 32 #[.slice none 0 0, .slice (some ⟨W.heap.size, 0, none⟩) 1 1]).run Tryz.prog (W.alloc (.cells #[.slice none 0 0, .slice none 0 0, .bool true, .bool false, .slice (some ⟨gb, 0, none⟩) 1 cap, .slice none 0 0, I a, I b, .slice none 0 0] 42)) = .ok (.slice (some ⟨pb, 0, none⟩) 1 c2) W3 ∧ G W W3 ∧ PtM pb a b W3 ∧ W.heap.size ≤ pb ∧ 1 ≤ c2 := by
  obtain ⟨i0, hi, hz0, hz1, hz2⟩ := info_parts (show (Tryz.prog.info? 42).map (fun i => (i.zero, i.size, i.bytes)) = some (some (.agg #[.slice none 0 0, .slice none 0 0, .bool false, .bool false, .slice none 0 0, .slice none 0 0, I 0, I 0, .slice none 0 0]), 9, 144) from by kernel_rfl)
  have g3 : G W (W.alloc (.cells #[.slice none 0 0, .slice none 0 0, .bool true, .bool false, .slice (some ⟨gb, 0, none⟩) 1 cap, .slice none 0 0, I a, I b, .slice none 0 0] 42)) := (G.refl W).alloc _
  obtain ⟨v', W3, q1, q2, q3, -, -⟩ := run_append_own_at (P := Tryz.prog) (w := W.alloc (.cells #[.slice none 0 0, .slice none 0 0, .bool true, .bool false, .slice (some ⟨gb, 0, none⟩) 1 cap, .slice none 0 0, I a, I b, .slice none 0 0] 42)) W.heap.size 32 32 42 i0 _ 9 144 Tryz.underlying32 hi hz0 hz1 hz2 rfl (by decide) (.slice none 0 0) 0 [] (World.ownsRow_nil _ _ _ _) ⟨W.heap.size, 0, none⟩ 1 1 [.slice none 0 0, .slice none 0 0, .bool true, .bool false, .slice (some ⟨gb, 0, none⟩) 1 cap, .slice none 0 0, I a, I b, .slice none 0 0] rfl (fun j u hj => by
    have h1 : (W.alloc (.cells #[.slice none 0 0, .slice none 0 0, .bool true, .bool false, .slice (some ⟨gb, 0, none⟩) 1 cap, .slice none 0 0, I a, I b, .slice none 0 0] 42)).cell? ⟨W.heap.size, j, none⟩ = ([.slice none 0 0, .slice none 0 0, .bool true, .bool false, .slice (some ⟨gb, 0, none⟩) 1 cap, .slice none 0 0, I a, I b, .slice none 0 0] : List Value)[j]? := by simp
    rw [hj] at h1
    by_cases hj0 : j = 0
    · subst hj0; simpa [Addr.add] using h1
    · simpa [Addr.add, hj0] using h1) (by simp [Value.oneCell']) (by have : (1099511627776 : Nat) ≤ maxLen := of_decide_eq_true (by kernel_rfl); omega) (by omega) g3.size
  rcases q2.2 with ⟨-, hn⟩ | ⟨pb, c2, cur, rfl, hb, hcu, hc1, -, -, htk⟩
  · simp at hn
  · refine ⟨pb, c2, W3, q1, ⟨q3.os.trans g3.os, q3.tape.trans g3.tape, q3.output.trans g3.output, Nat.le_trans g3.size q3.size, fun k hk => by
      rw [q3.block k (Nat.lt_of_lt_of_le hk g3.size) (by simp [Value.ownBlock]), g3.block k hk]⟩, ?_, hb, by omega⟩
    have hce : ∀ o v, ([.slice none 0 0, .slice none 0 0, .bool true, .bool false, .slice (some ⟨gb, 0, none⟩) 1 cap, .slice none 0 0, I a, I b, .slice none 0 0] : List Value)[o]? = some v → W3.cell? ⟨pb, o, none⟩ = some v := fun o v hv => by
      have h1 : cur.toList[o]? = some v := by
        have h2 : (cur.toList.take 9)[o]? = some v := by
          have e9 : (0 + 1) * 9 = 9 := rfl
          rw [e9] at htk
          rw [htk]
          exact hv
        rw [List.getElem?_take] at h2
        split at h2
        · exact h2
        · cases h2
      simp [World.cell?, hcu]
      simpa using h1
    exact ⟨hce 6 _ rfl, hce 7 _ rfl⟩
set_option maxRecDepth 100000 in
set_option maxHeartbeats 1000000 in
theorem query_ok {rb g : Nat} {ts : List Tok} {i j : Nat} {W : World} (h : Rd rb g ts i W) {w0 : World} (g0 : G w0 W) (hr : w0.heap.size ≤ rb) {a b : Int} {x : Tok} (hx : ts[i]? = some x) (hw : seB x ⟨#[119, 105, 116, 104]⟩ = false) (HP : ∀ W, Rd rb g ts i W → Calls Tryz.prog 25 #[ptr rb] W fun e W' => e = .returned (.agg #[.slice none 0 0, .slice none 0 0, .bool false, .bool false, .slice none 0 0, .slice none 0 0, I (-1), I (-1), .slice none 0 0]) ∧ Rd rb g ts i W' ∧ Qr rb W W') (HC : ∀ W, Rd rb g ts i W → G w0 W → Calls Tryz.prog 27 #[ptr rb, .agg #[.slice none 0 0, .slice none 0 0, .bool false, .bool false, .slice none 0 0, .slice none 0 0, I (-1), I (-1), .slice none 0 0]] W fun e W' => (∃ gb cap, e = .returned (.agg #[.slice none 0 0, .slice none 0 0, .bool true, .bool false, .slice (some ⟨gb, 0, none⟩) 1 cap, .slice none 0 0, I a, I b, .slice none 0 0])) ∧ Rd rb g ts j W' ∧ Qr rb W W') : Calls Tryz.prog 12 #[ptr rb] W fun e W' => (∃ pb cap, e = .returned (.agg #[.slice (some ⟨pb, 0, none⟩) 1 cap]) ∧ PtM pb a b W' ∧ W.heap.size ≤ pb ∧ 1 ≤ cap) ∧ Rd rb g ts j W' ∧ Qr rb W W' := by
  have HX0 : Hid (Ry rb [.slice none 0 0] W.heap.size ((W.alloc (.cells #[.slice none 0 0] 34)).alloc (.cells #[.slice none 0 0] 34))) := (Ry.new h.Q0.1 [.slice none 0 0] 34).G ((G.refl _).alloc _)
  have HZ0 : Hid (Ry rb [.slice none 0 0] (W.heap.size + 1) ((W.alloc (.cells #[.slice none 0 0] 34)).alloc (.cells #[.slice none 0 0] 34))) := by
    have := Ry.new (w := W.alloc (.cells #[.slice none 0 0] 34)) (rb := rb) (by have := h.Q0.1; simp; omega) [.slice none 0 0] 34
    rwa [World.size_alloc] at this
  have HGN := xh h.Q0.2
  have HGZ : Hid (W.heap.size + 1 ≠ g) := by have := h.gl; unfold Hid; omega
  have hga : G W ((W.alloc (.cells #[.slice none 0 0] 34)).alloc (.cells #[.slice none 0 0] 34)) := ((G.refl W).alloc _).alloc _
  have HR0 := xh (h.G hga)
  have HGA := xh hga
  have HXX := xh hx
  have HWW := xh hw
  have HPP := xh HP
  have HCC := xh HC
  have HRR := xh hr
  have HG0 := xh (g0.trans hga)
  clear h g0 hr hx hw HP HC hga
  go_enter Tryz.func12, Tryz.ntmps12
  go_wp2_with fail
  obtain ⟨nb, hnb⟩ : ∃ nb, nb = W.heap.size := ⟨_, rfl⟩
  rw [← hnb] at HX0 HZ0 HGN HGZ ⊢
  have HNB : Hid (W.heap.size = nb) := hnb.symm
  clear hnb
  generalize (W.alloc (.cells #[.slice none 0 0] 34)).alloc (.cells #[.slice none 0 0] 34) = wa at HX0 HZ0 HR0 HGA HG0 ⊢
  go_loopw [] (fun W' => W' = wa) (fun _ => 0)
  case atStart => exact rfl
  case round =>
    have hwr := hrel
    subst hwr
    go_wp2_with (first | (go_at_call 25; refine Hid.out ?_) | fail)
    unfold Hid
    refine (HPP.out _ HR0.out).mono ?_
    rintro e w1 ⟨rfl, hrd, hq⟩
    have hga : G w1 (w1.alloc (.cells #[.slice none 0 0, .slice none 0 0, .bool false, .bool false, .slice none 0 0, .slice none 0 0, I (-1), I (-1), .slice none 0 0] 42)) := (G.refl _).alloc _
    have HP1 := xh (Ry.new hrd.Q0.1 [.slice none 0 0, .slice none 0 0, .bool false, .bool false, .slice none 0 0, .slice none 0 0, I (-1), I (-1), .slice none 0 0] 42)
    have HR1 := xh (hrd.G hga)
    have HX1 := xh ((HX0.out.Q hq).G hga)
    have HZ1 := xh ((HZ0.out.Q hq).G hga)
    have HQ1 : Hid (Qr rb W (w1.alloc (.cells #[.slice none 0 0, .slice none 0 0, .bool false, .bool false, .slice none 0 0, .slice none 0 0, I (-1), I (-1), .slice none 0 0] 42))) := (Qr.of HGA.out).trans (hq.trans (Qr.of hga))
    have HG1 : Hid (G w0 (w1.alloc (.cells #[.slice none 0 0, .slice none 0 0, .bool false, .bool false, .slice none 0 0, .slice none 0 0, I (-1), I (-1), .slice none 0 0] 42))) := (hq.G HG0.out HRR.out).trans hga
    clear hrd hq hga HR0 HX0 HZ0 HGA HG0 HPP
    go_wp2_with (first | (go_at_call 26; refine Hid.out ?_) | fail)
    unfold Hid
    obtain ⟨pb, hpb⟩ : ∃ pb, pb = w1.heap.size := ⟨_, rfl⟩
    rw [← hpb] at HP1 ⊢
    clear hpb
    generalize w1.alloc (.cells #[.slice none 0 0, .slice none 0 0, .bool false, .bool false, .slice none 0 0, .slice none 0 0, I (-1), I (-1), .slice none 0 0] 42) = w3 at HP1 HR1 HX1 HZ1 HQ1 HG1 ⊢
    have HSE := xh (sees_any HR1.out HXX.out ⟨#[119, 105, 116, 104]⟩)
    rw [HWW.out] at HSE
    refine HSE.out.mono ?_
    rintro e w4 ⟨rfl, hg⟩
    have HP4 := xh (HP1.out.G hg)
    have HR4 := xh (HR1.out.G hg)
    have HX4 := xh (HX1.out.G hg)
    have HZ4 := xh (HZ1.out.G hg)
    have HQ4 : Hid (Qr rb W w4) := HQ1.out.trans (Qr.of hg)
    have HG4 : Hid (G w0 w4) := HG1.out.trans hg
    clear hg HP1 HR1 HX1 HZ1 HQ1 HG1 HSE HWW HXX
    go_wp2_with fail
    refine wp_region_noPanic ?_
    refine wp_region_L (S := (fun V => (∀ o, V.cell? ⟨nb + 1, o, none⟩ = ([.slice none 0 0] : List Value)[o]?) ∧ (∀ o, V.cell? ⟨pb, o, none⟩ = ([.slice none 0 0, .slice none 0 0, .bool false, .bool false, .slice none 0 0, .slice none 0 0, I (-1), I (-1), .slice none 0 0] : List Value)[o]?))) 8 (by kernel_rfl) (⟨(HZ4.out.G (G.drew (G.refl _))).c, (HP4.out.G (G.drew (G.refl _))).c⟩) (fun hHeld => ?_)
    refine wpAnyL_take (i := 0) (v := ?_) rfl (by kernel_rfl) (by kernel_rfl) (by kernel_rfl) (by kernel_rfl) (fun _ _ _ h => h) (Or.inl ⟨by rfl, ?_⟩) hHeld ?_
    rotate_left 1
    · (intro w hSw; (try dsimp only at hSw); go_simp; try with_reducible rfl)
    try simp only [Act.put, List.getElem_toArray, List.getElem_cons_zero, List.setIfInBounds_toArray, List.set_cons_zero, List.set_cons_succ]
    refine wpAnyL_take (i := 1) (v := ?_) rfl (by kernel_rfl) (by kernel_rfl) (by kernel_rfl) (by kernel_rfl) (fun _ _ _ h => h) (Or.inl ⟨by rfl, ?_⟩) hHeld ?_
    rotate_left 1
    · (intro w hSw; have q1 := hSw.1; have q2 := hSw.2; go_simp; try with_reducible rfl)
    try simp only [Act.put, List.getElem_toArray, List.getElem_cons_zero, List.getElem_cons_succ, List.setIfInBounds_toArray, List.set_cons_zero, List.set_cons_succ]
    refine wpAnyL_take (i := 2) (v := ?_) rfl (by kernel_rfl) (by kernel_rfl) (by kernel_rfl) (by kernel_rfl) (fun _ _ _ h => h) (Or.inl ⟨by rfl, ?_⟩) hHeld ?_
    rotate_left 1
    · (intro w hSw; (try dsimp only at hSw); go_simp; try with_reducible rfl)
    try simp only [Act.put, List.getElem_toArray, List.getElem_cons_zero, List.getElem_cons_succ, List.setIfInBounds_toArray, List.set_cons_zero, List.set_cons_succ]
    refine wpAnyL_take (i := 3) (v := ?_) rfl (by kernel_rfl) (by kernel_rfl) (by kernel_rfl) (by kernel_rfl) (fun _ _ _ h => h) (Or.inl ⟨by rfl, ?_⟩) hHeld ?_
    rotate_left 1
    · (intro w hSw; have q1 := hSw.1; have q2 := hSw.2; go_simp; try with_reducible rfl)
    try simp only [Act.put, List.getElem_toArray, List.getElem_cons_zero, List.getElem_cons_succ, List.setIfInBounds_toArray, List.set_cons_zero, List.set_cons_succ]
    refine wpAnyL_one (i := 4) (by kernel_rfl) rfl (by kernel_rfl) (fun K hK => ?_)
    clear hHeld
    refine (if_pos rfl).mpr ?_
    go_simp
    refine (HCC.out _ (HR4.out.G (G.drew (G.refl _))) (G.drew HG4.out)).mono ?_
    rintro e w5 ⟨⟨gb, cap, rfl⟩, hrd, hq⟩
    have HR5 := xh hrd
    have HQ5 : Hid (Qr rb w4 w5) := (Qr.of (G.drew (G.refl _))).trans hq
    clear hrd hq
    go_wp2_with fail
    refine hK.out _ _ (⟨(HZ4.out.Q HQ5.out).c, (HP4.out.Q HQ5.out).c⟩) (fun hHeld => ?_)
    clear hK K
    try simp only [Act.put, List.getElem_toArray, List.getElem_cons_zero, List.getElem_cons_succ, List.setIfInBounds_toArray, List.set_cons_zero, List.set_cons_succ]
    refine wpAnyL_one (i := 5) (by kernel_rfl) rfl (by kernel_rfl) (fun K hK => ?_)
    clear hHeld
    obtain ⟨b2, c2, w6, hrun, r2, r3, r4, r5⟩ := app_part gb cap a b w5
    have HRUN := xh hrun
    have HG6 := xh r2
    have HPM := xh r3
    have HB2 := xh r4
    have HC2 := xh r5
    have HQ5b : Hid (Qr rb w4 (w5.alloc (.cells #[.slice none 0 0, .slice none 0 0, .bool true, .bool false, .slice (some ⟨gb, 0, none⟩) 1 cap, .slice none 0 0, I a, I b, .slice none 0 0] 42))) := HQ5.out.trans (Qr.of ((G.refl _).alloc _))
    clear hrun r2 r3 r4 r5
    go_simp
    generalize w5.alloc (.cells #[.slice none 0 0, .slice none 0 0, .bool true, .bool false, .slice (some ⟨gb, 0, none⟩) 1 cap, .slice none 0 0, I a, I b, .slice none 0 0] 42) = w5b at HRUN HQ5b ⊢
    refine hK.out _ _ (⟨(HZ4.out.Q HQ5b.out).c, (HP4.out.Q HQ5b.out).c⟩) (fun hHeld => ?_)
    clear hK K
    try simp only [Act.put, List.getElem_toArray, List.getElem_cons_zero, List.getElem_cons_succ, List.setIfInBounds_toArray, List.set_cons_zero, List.set_cons_succ]
    refine wpAnyL_one (i := 6) (by kernel_rfl) rfl (by kernel_rfl) (fun K hK => ?_)
    clear hHeld
    refine (if_pos rfl).mpr ?_
    refine wp_of_exec (exec_append _ _ 32 rfl (.slice none 0 0) (.slice (some ⟨w5.heap.size, 0, none⟩) 1 1) rfl rfl 32 rfl HRUN.out) ?_
    clear HRUN
    have HQ6 : Hid (Qr rb w4 w6) := HQ5.out.trans (Qr.of HG6.out)
    refine hK.out _ _ (⟨(HZ4.out.Q HQ6.out).c, (HP4.out.Q HQ6.out).c⟩) (fun hHeld => ?_)
    clear hK K
    try simp only [Act.put, List.getElem_toArray, List.getElem_cons_zero, List.getElem_cons_succ, List.setIfInBounds_toArray, List.set_cons_zero, List.set_cons_succ]
    refine wpAnyL_take (i := 7) (v := ?_) rfl (by kernel_rfl) (by kernel_rfl) (by kernel_rfl) (by kernel_rfl) (fun _ _ _ h => h) (Or.inl ⟨by rfl, ?_⟩) hHeld ?_
    rotate_left 1
    · (intro w hSw; (try dsimp only at hSw); go_simp; try with_reducible rfl)
    try simp only [Act.put, List.getElem_toArray, List.getElem_cons_zero, List.getElem_cons_succ, List.setIfInBounds_toArray, List.set_cons_zero, List.set_cons_succ]
    refine wpAnyL_last (by kernel_rfl) rfl (by kernel_rfl) (fun K hK => ?_)
    clear hHeld
    have hc7 := (HZ4.out.Q HQ6.out).c
    have hz7 := (HZ4.out.Q HQ6.out).f
    go_simp
    refine hK.out _ _ ?_
    clear hK K
    refine NoPanic.normal ?_
    clear hc7 hz7
    have hls : nb + 1 < b2 := by have h1 := HZ4.out.z; have h2 := HQ5.out.size; have h3 := HB2.out; omega
    have HX7 := xh ((HX4.out.Q HQ6.out).far 0 (.slice (some ⟨b2, 0, none⟩) 1 c2) (show nb + 1 ≠ nb by omega))
    have HZ7 : Hid (Ry rb [.slice (some ⟨b2, 0, none⟩) 1 c2] (nb + 1) (w6.setCell ⟨nb + 1, 0, none⟩ (.slice (some ⟨b2, 0, none⟩) 1 c2))) := (HZ4.out.Q HQ6.out).set 0 _ (by simp)
    have HR7 := xh ((HR5.out.G HG6.out).set 0 (.slice (some ⟨b2, 0, none⟩) 1 c2) HZ4.out.n HGZ.out)
    have HQ7 := xh ((HQ4.out.trans HQ6.out).set 0 (.slice (some ⟨b2, 0, none⟩) 1 c2) (show W.heap.size ≤ nb + 1 by have := HNB.out; omega))
    have HM7 := xh (HPM.out.set 0 (.slice (some ⟨b2, 0, none⟩) 1 c2) (show nb + 1 ≠ b2 by omega))
    have HBW : Hid (W.heap.size ≤ b2 ∧ nb ≠ b2) := ⟨by have := HNB.out; omega, by omega⟩
    clear HX4 HZ4 HP4 HR4 HQ4 HG4 HR5 HQ5 HG6 HPM HB2 HQ5b HQ6 hls
    generalize w6.setCell ⟨nb + 1, 0, none⟩ (.slice (some ⟨b2, 0, none⟩) 1 c2) = w7 at HX7 HZ7 HR7 HQ7 HM7 ⊢
    have hcx := HX7.out.c
    have hfx := HX7.out.f
    have hcz := HZ7.out.c
    have hfz := HZ7.out.f
    go_wp2
    refine bodyPost_ret (v := .agg #[.slice (some ⟨b2, 0, none⟩) 1 c2]) (by simp [results, Tryz.results12, go_sem, hcx]) rfl ⟨⟨b2, c2, rfl, HM7.out.set 0 _ HBW.out.2, HBW.out.1, HC2.out⟩, HR7.out.set 0 _ HX7.out.n HGN.out, HQ7.out.set 0 _ (Nat.le_of_eq HNB.out)⟩
set_option maxRecDepth 100000 in
set_option maxHeartbeats 1000000 in
theorem query_no {rb g : Nat} {ts : List Tok} {i : Nat} {W : World} (h : Rd rb g ts i W) {w0 : World} (g0 : G w0 W) (hr : w0.heap.size ≤ rb) {x : Tok} (hx : ts[i]? = some x) (hw : seB x ⟨#[119, 105, 116, 104]⟩ = false) (HP : ∀ W, Rd rb g ts i W → Calls Tryz.prog 25 #[ptr rb] W fun e W' => e = .returned (.agg #[.slice none 0 0, .slice none 0 0, .bool false, .bool false, .slice none 0 0, .slice none 0 0, I (-1), I (-1), .slice none 0 0]) ∧ Rd rb g ts i W' ∧ Qr rb W W') (HC : ∀ W, Rd rb g ts i W → G w0 W → Calls Tryz.prog 27 #[ptr rb, .agg #[.slice none 0 0, .slice none 0 0, .bool false, .bool false, .slice none 0 0, .slice none 0 0, I (-1), I (-1), .slice none 0 0]] W fun e W' => (∃ pp, e = .panicked [{ v := .iface 55 (.agg #[I 101, I pp]), recovered := false }]) ∧ Qr rb W W') : Calls Tryz.prog 12 #[ptr rb] W fun e W' => (∃ pp, e = .panicked [{ v := .iface 55 (.agg #[I 101, I pp]), recovered := false }]) ∧ Qr rb W W' := by
  have HX0 : Hid (Ry rb [.slice none 0 0] W.heap.size ((W.alloc (.cells #[.slice none 0 0] 34)).alloc (.cells #[.slice none 0 0] 34))) := (Ry.new h.Q0.1 [.slice none 0 0] 34).G ((G.refl _).alloc _)
  have HZ0 : Hid (Ry rb [.slice none 0 0] (W.heap.size + 1) ((W.alloc (.cells #[.slice none 0 0] 34)).alloc (.cells #[.slice none 0 0] 34))) := by
    have := Ry.new (w := W.alloc (.cells #[.slice none 0 0] 34)) (rb := rb) (by have := h.Q0.1; simp; omega) [.slice none 0 0] 34
    rwa [World.size_alloc] at this
  have HGN := xh h.Q0.2
  have HGZ : Hid (W.heap.size + 1 ≠ g) := by have := h.gl; unfold Hid; omega
  have hga : G W ((W.alloc (.cells #[.slice none 0 0] 34)).alloc (.cells #[.slice none 0 0] 34)) := ((G.refl W).alloc _).alloc _
  have HR0 := xh (h.G hga)
  have HGA := xh hga
  have HXX := xh hx
  have HWW := xh hw
  have HPP := xh HP
  have HCC := xh HC
  have HRR := xh hr
  have HG0 := xh (g0.trans hga)
  clear h g0 hr hx hw HP HC hga
  go_enter Tryz.func12, Tryz.ntmps12
  go_wp2_with fail
  obtain ⟨nb, hnb⟩ : ∃ nb, nb = W.heap.size := ⟨_, rfl⟩
  rw [← hnb] at HX0 HZ0 HGN HGZ ⊢
  have HNB : Hid (W.heap.size = nb) := hnb.symm
  clear hnb
  generalize (W.alloc (.cells #[.slice none 0 0] 34)).alloc (.cells #[.slice none 0 0] 34) = wa at HX0 HZ0 HR0 HGA HG0 ⊢
  go_loopw [] (fun W' => W' = wa) (fun _ => 0)
  case atStart => exact rfl
  case round =>
    have hwr := hrel
    subst hwr
    go_wp2_with (first | (go_at_call 25; refine Hid.out ?_) | fail)
    unfold Hid
    refine (HPP.out _ HR0.out).mono ?_
    rintro e w1 ⟨rfl, hrd, hq⟩
    have hga : G w1 (w1.alloc (.cells #[.slice none 0 0, .slice none 0 0, .bool false, .bool false, .slice none 0 0, .slice none 0 0, I (-1), I (-1), .slice none 0 0] 42)) := (G.refl _).alloc _
    have HP1 := xh (Ry.new hrd.Q0.1 [.slice none 0 0, .slice none 0 0, .bool false, .bool false, .slice none 0 0, .slice none 0 0, I (-1), I (-1), .slice none 0 0] 42)
    have HR1 := xh (hrd.G hga)
    have HX1 := xh ((HX0.out.Q hq).G hga)
    have HZ1 := xh ((HZ0.out.Q hq).G hga)
    have HQ1 : Hid (Qr rb W (w1.alloc (.cells #[.slice none 0 0, .slice none 0 0, .bool false, .bool false, .slice none 0 0, .slice none 0 0, I (-1), I (-1), .slice none 0 0] 42))) := (Qr.of HGA.out).trans (hq.trans (Qr.of hga))
    have HG1 : Hid (G w0 (w1.alloc (.cells #[.slice none 0 0, .slice none 0 0, .bool false, .bool false, .slice none 0 0, .slice none 0 0, I (-1), I (-1), .slice none 0 0] 42))) := (hq.G HG0.out HRR.out).trans hga
    clear hrd hq hga HR0 HX0 HZ0 HGA HG0 HPP
    go_wp2_with (first | (go_at_call 26; refine Hid.out ?_) | fail)
    unfold Hid
    obtain ⟨pb, hpb⟩ : ∃ pb, pb = w1.heap.size := ⟨_, rfl⟩
    rw [← hpb] at HP1 ⊢
    clear hpb
    generalize w1.alloc (.cells #[.slice none 0 0, .slice none 0 0, .bool false, .bool false, .slice none 0 0, .slice none 0 0, I (-1), I (-1), .slice none 0 0] 42) = w3 at HP1 HR1 HX1 HZ1 HQ1 HG1 ⊢
    have HSE := xh (sees_any HR1.out HXX.out ⟨#[119, 105, 116, 104]⟩)
    rw [HWW.out] at HSE
    refine HSE.out.mono ?_
    rintro e w4 ⟨rfl, hg⟩
    have HP4 := xh (HP1.out.G hg)
    have HR4 := xh (HR1.out.G hg)
    have HX4 := xh (HX1.out.G hg)
    have HZ4 := xh (HZ1.out.G hg)
    have HQ4 : Hid (Qr rb W w4) := HQ1.out.trans (Qr.of hg)
    have HG4 : Hid (G w0 w4) := HG1.out.trans hg
    clear hg HP1 HR1 HX1 HZ1 HQ1 HG1 HSE HWW HXX
    go_wp2_with fail
    refine wp_region_L (S := (fun V => (∀ o, V.cell? ⟨nb + 1, o, none⟩ = ([.slice none 0 0] : List Value)[o]?) ∧ (∀ o, V.cell? ⟨pb, o, none⟩ = ([.slice none 0 0, .slice none 0 0, .bool false, .bool false, .slice none 0 0, .slice none 0 0, I (-1), I (-1), .slice none 0 0] : List Value)[o]?))) 8 (by kernel_rfl) (⟨(HZ4.out.G (G.drew (G.refl _))).c, (HP4.out.G (G.drew (G.refl _))).c⟩) (fun hHeld => ?_)
    refine wpAnyL_take (i := 0) (v := ?_) rfl (by kernel_rfl) (by kernel_rfl) (by kernel_rfl) (by kernel_rfl) (fun _ _ _ h => h) (Or.inl ⟨by rfl, ?_⟩) hHeld ?_
    rotate_left 1
    · (intro w hSw; (try dsimp only at hSw); go_simp; try with_reducible rfl)
    try simp only [Act.put, List.getElem_toArray, List.getElem_cons_zero, List.setIfInBounds_toArray, List.set_cons_zero, List.set_cons_succ]
    refine wpAnyL_take (i := 1) (v := ?_) rfl (by kernel_rfl) (by kernel_rfl) (by kernel_rfl) (by kernel_rfl) (fun _ _ _ h => h) (Or.inl ⟨by rfl, ?_⟩) hHeld ?_
    rotate_left 1
    · (intro w hSw; have q1 := hSw.1; have q2 := hSw.2; go_simp; try with_reducible rfl)
    try simp only [Act.put, List.getElem_toArray, List.getElem_cons_zero, List.getElem_cons_succ, List.setIfInBounds_toArray, List.set_cons_zero, List.set_cons_succ]
    refine wpAnyL_take (i := 2) (v := ?_) rfl (by kernel_rfl) (by kernel_rfl) (by kernel_rfl) (by kernel_rfl) (fun _ _ _ h => h) (Or.inl ⟨by rfl, ?_⟩) hHeld ?_
    rotate_left 1
    · (intro w hSw; (try dsimp only at hSw); go_simp; try with_reducible rfl)
    try simp only [Act.put, List.getElem_toArray, List.getElem_cons_zero, List.getElem_cons_succ, List.setIfInBounds_toArray, List.set_cons_zero, List.set_cons_succ]
    refine wpAnyL_take (i := 3) (v := ?_) rfl (by kernel_rfl) (by kernel_rfl) (by kernel_rfl) (by kernel_rfl) (fun _ _ _ h => h) (Or.inl ⟨by rfl, ?_⟩) hHeld ?_
    rotate_left 1
    · (intro w hSw; have q1 := hSw.1; have q2 := hSw.2; go_simp; try with_reducible rfl)
    try simp only [Act.put, List.getElem_toArray, List.getElem_cons_zero, List.getElem_cons_succ, List.setIfInBounds_toArray, List.set_cons_zero, List.set_cons_succ]
    refine wpAnyL_one (i := 4) (by kernel_rfl) rfl (by kernel_rfl) (fun K hK => ?_)
    clear hHeld
    refine (if_pos rfl).mpr ?_
    go_simp
    refine (HCC.out _ (HR4.out.G (G.drew (G.refl _))) (G.drew HG4.out)).mono ?_
    rintro e w5 ⟨⟨pp, rfl⟩, hq⟩
    have HQ5 : Hid (Qr rb W w5) := (HQ4.out.trans (Qr.of (G.drew (G.refl _)))).trans hq
    clear hq
    go_wp2
    exact ⟨rfl, ⟨pp, rfl⟩, HQ5.out⟩
end
open Go.RowKit

theorem PtM.Q {pb rb : Nat} {a b : Int} {W W' : World} (h : PtM pb a b W) (q : Qr rb W W') (hn : pb ≠ rb) : PtM pb a b W' := h.keep (q.block pb (cell_lt h.s) hn)
set_option maxRecDepth 100000 in
set_option maxHeartbeats 1000000 in
theorem endq_ok {rb g : Nat} {ts : List Tok} {i j : Nat} {a b : Int} {x : Tok} (hx : ts[j]? = some x) (hk : x.k = 7) {W : World} (h : Rd rb g ts i W) {w0 : World} (g0 : G w0 W) (HC : ∀ W, Rd rb g ts i W → G w0 W → Calls Tryz.prog 12 #[ptr rb] W fun e W' => (∃ pb cap, e = .returned (.agg #[.slice (some ⟨pb, 0, none⟩) 1 cap]) ∧ PtM pb a b W' ∧ W.heap.size ≤ pb ∧ 1 ≤ cap) ∧ Rd rb g ts j W' ∧ Qr rb W W') : Calls Tryz.prog 24 #[ptr rb, .func (.func 12) #[] #[]] W fun e W' => (∃ pb cap, e = .returned (.agg #[.slice (some ⟨pb, 0, none⟩) 1 cap]) ∧ PtM pb a b W' ∧ W.heap.size ≤ pb ∧ 1 ≤ cap) ∧ Rd rb g ts j W' ∧ Qr rb W W' := by
  have HX0 := xh (Ry.new h.Q0.1 [.slice none 0 0] 34)
  have HGN := xh h.Q0.2
  have HRB := xh h.Q0.1
  have HR0 := xh (h.G ((G.refl W).alloc (.cells #[.slice none 0 0] 34)))
  have HQ0 : Hid (Qr rb W (W.alloc (.cells #[.slice none 0 0] 34))) := Qr.of ((G.refl W).alloc _)
  have HGA := xh (g0.trans ((G.refl W).alloc (.cells #[.slice none 0 0] 34)))
  have HCC := xh HC
  have HXX := xh hx
  have HK := xh hk
  clear h g0 HC hx hk
  go_enter Tryz.func24, Tryz.ntmps24
  go_wp2_with (first | (go_at_call 12; refine Hid.out ?_) | fail)
  unfold Hid
  obtain ⟨nb, hnb⟩ : ∃ nb, nb = W.heap.size := ⟨_, rfl⟩
  have HNB : Hid (W.heap.size = nb) := hnb.symm
  rw [← hnb] at HX0 HGN ⊢
  clear hnb
  have HNA : Hid (W.heap.size < (W.alloc (.cells #[.slice none 0 0] 34)).heap.size) := by unfold Hid; simp
  generalize W.alloc (.cells #[.slice none 0 0] 34) = wa at HX0 HR0 HQ0 HGA HNA ⊢
  refine (HCC.out _ HR0.out HGA.out).mono ?_
  rintro e w1 ⟨⟨pb, cap, rfl, hpm, hpb, hcap⟩, hrd, hq⟩
  have HR1 := xh hrd
  have HX1 := xh (HX0.out.Q hq)
  have HQ1 := xh (HQ0.out.trans hq)
  have HPM := xh hpm
  have HPB : Hid (W.heap.size ≤ pb ∧ nb ≠ pb) := ⟨by have := HNA.out; omega, by have := HNB.out; have := HNA.out; omega⟩
  have HCP := xh hcap
  clear hrd hq hpm hpb hcap HR0 HX0 HQ0 HGA HCC HNA
  have HY1 := xh (Ry.new HR1.out.Q0.1 [.slice (some ⟨pb, 0, none⟩) 1 cap] 34)
  have hga : G w1 (w1.alloc (.cells #[.slice (some ⟨pb, 0, none⟩) 1 cap] 34)) := (G.refl _).alloc _
  have HR2 := xh (HR1.out.G hga)
  have HX2 := xh (HX1.out.G hga)
  have HQ2 := xh (HQ1.out.trans (Qr.of hga))
  have HM2 := xh (HPM.out.G hga)
  have HNO : Hid (nb ≠ w1.heap.size) := by have := HX1.out.z; unfold Hid; omega
  clear hga HR1 HX1 HQ1 HPM
  go_wp2_with (first | (go_at_call 33; refine Hid.out ?_) | fail)
  unfold Hid
  obtain ⟨ob, hob⟩ : ∃ ob, ob = w1.heap.size := ⟨_, rfl⟩
  rw [← hob] at HY1 HNO ⊢
  clear hob
  generalize w1.alloc (.cells #[.slice (some ⟨pb, 0, none⟩) 1 cap] 34) = w2 at HY1 HR2 HX2 HQ2 HM2 ⊢
  refine (atEnd_any HR2.out HXX.out).mono ?_
  rintro e w3 ⟨rfl, hg⟩
  have HR3 := xh (HR2.out.G hg)
  have HX3 := xh (HX2.out.G hg)
  have HY3 := xh (HY1.out.G hg)
  have HQ3 := xh (HQ2.out.trans (Qr.of hg))
  have HM3 := xh (HM2.out.G hg)
  clear hg HR2 HX2 HY1 HQ2 HM2
  rw [HK.out]
  go_wp2_with (first | (go_at_call 32; refine Hid.out ?_) | fail)
  unfold Hid
  refine (must_yes _).mono ?_
  rintro e ww ⟨rfl, rfl⟩
  have hcx := HX3.out.c
  have hfx := HX3.out.f
  have hcy := HY3.out.c
  have hno := HNO.out
  go_wp2
  refine bodyPost_ret (v := .agg #[.slice (some ⟨pb, 0, none⟩) 1 cap]) (by simp [results, Tryz.results24, go_sem, hcx]) rfl ⟨⟨pb, cap, rfl, HM3.out.set 0 _ HPB.out.2, HPB.out.1, HCP.out⟩, HR3.out.set 0 _ HX3.out.n HGN.out, HQ3.out.set 0 _ (Nat.le_of_eq HNB.out)⟩
set_option maxRecDepth 100000 in
set_option maxHeartbeats 1000000 in
theorem endq_no {rb g : Nat} {ts : List Tok} {i : Nat} {W : World} (h : Rd rb g ts i W) {w0 : World} (g0 : G w0 W) (HC : ∀ W, Rd rb g ts i W → G w0 W → Calls Tryz.prog 12 #[ptr rb] W fun e W' => (∃ pp, e = .panicked [{ v := .iface 55 (.agg #[I 101, I pp]), recovered := false }]) ∧ Qr rb W W') : Calls Tryz.prog 24 #[ptr rb, .func (.func 12) #[] #[]] W fun e W' => (∃ pp, e = .panicked [{ v := .iface 55 (.agg #[I 101, I pp]), recovered := false }]) ∧ Qr rb W W' := by
  have HR0 := xh (h.G ((G.refl W).alloc (.cells #[.slice none 0 0] 34)))
  have HQ0 : Hid (Qr rb W (W.alloc (.cells #[.slice none 0 0] 34))) := Qr.of ((G.refl W).alloc _)
  have HGA := xh (g0.trans ((G.refl W).alloc (.cells #[.slice none 0 0] 34)))
  have HCC := xh HC
  clear h g0 HC
  go_enter Tryz.func24, Tryz.ntmps24
  go_wp2_with (first | (go_at_call 12; refine Hid.out ?_) | fail)
  unfold Hid
  refine (HCC.out _ HR0.out HGA.out).mono ?_
  rintro e w1 ⟨⟨pp, rfl⟩, hq⟩
  have HQ1 := xh (HQ0.out.trans hq)
  clear hq
  go_wp2
  exact ⟨rfl, ⟨pp, rfl⟩, HQ1.out⟩
set_option maxRecDepth 100000 in
set_option maxHeartbeats 1000000 in
theorem clQ_idle (p q : Addr) (w : World) : CallsD Tryz.prog 23 #[.pointer (some p), .pointer (some q)] .returning w fun e u' w' => e = .returned (.tuple #[]) ∧ u' = .returning ∧ w' = w := by
  refine callsD_of_wpS Tryz.func23 rfl fun c₀ cs hu => ?_
  apply wpS_seq
  apply wpS_region
  simp [wpOpsS, go_sem, recoverD, hu, Tryz.ntmps23, Exit.thenS]
  refine wpS_of_wp ?_
  go_wp2
  cases c₀
  simp_all [bodyPostS, results, Tryz.results23]
set_option maxRecDepth 100000 in
set_option maxHeartbeats 1000000 in
theorem clQ_panic (bp bq : Nat) (c z c1 z1 : Int) (older : List PanicEntry) (w : World) (hp : w.cell? ⟨bp, 0, none⟩ = some (I c1)) (hpf : w.frozen? ⟨bp, 0, none⟩ = false) (hq : w.cell? ⟨bq, 0, none⟩ = some (I z1)) (hqf : w.frozen? ⟨bq, 0, none⟩ = false) (hne : bp ≠ bq) : CallsD Tryz.prog 23 #[ptr bp, ptr bq] (.panicking ({ v := .iface 55 (.agg #[I c, I z]), recovered := false } :: older)) w fun e u' w' => e = .returned (.tuple #[]) ∧ u' = .panicking ({ v := .iface 55 (.agg #[I c, I z]), recovered := true } :: older) ∧ w' = (((w.setCell ⟨bp, 0, none⟩ (I c)).setCell ⟨bq, 0, none⟩ (I z)).alloc (.cells #[I c, I z] 55)).drew := by
  have gA : G w (w.alloc (.cells #[I c, I z] 55)) := (G.refl w).alloc _
  have hp2 := (gA.cell (cell_lt hp)).trans hp
  have hq2 := (gA.cell (cell_lt hq)).trans hq
  have hpf2 : (w.alloc (.cells #[I c, I z] 55)).frozen? ⟨bp, 0, none⟩ = false := (World.frozen?_of_block (gA.block bp (cell_lt hp))).trans hpf
  have hqf2 : (w.alloc (.cells #[I c, I z] 55)).frozen? ⟨bq, 0, none⟩ = false := (World.frozen?_of_block (gA.block bq (cell_lt hq))).trans hqf
  have l1 := cell_lt hp
  have l2 := cell_lt hq
  have n1 : ¬ bp = w.heap.size := by omega
  have n2 : ¬ bq = w.heap.size := by omega
  have n3 : ¬ w.heap.size = bp := by omega
  have n4 : ¬ w.heap.size = bq := by omega
  have hne2 : ¬ bq = bp := fun e => hne e.symm
  have hta : ∀ w : World, (Instr.typeAssert (.iface 55 (.agg #[I c, I z])) 20 55 false).run Tryz.prog w = .ok (.agg #[I c, I z]) w := fun _ => by kernel_rfl
  refine callsD_of_wpS Tryz.func23 rfl fun c₀ cs hu => ?_
  apply wpS_seq
  apply wpS_region
  simp [wpOpsS, go_sem, recoverD, hu, Tryz.ntmps23, Exit.thenS]
  refine wpS_of_wp ?_
  go_wp2_with fail
  go_region
  all_goals
    go_wp2
    cases c₀
    refine ⟨rfl, _, rfl, .tuple #[], ?_, rfl, rfl, ?_⟩
    · simp [results, Tryz.results23]
    · rfl
set_option maxRecDepth 100000 in
set_option maxHeartbeats 1000000 in
theorem cauq_ok {u : ByteArray} {ts : List Tok} {w0 w : World} (g0 : G w0 w) (hlx : LexOk u ts w0) (hl0 : 0 < ts.length) (hl5 : ts.length ≤ 5000) {j : Nat} {a b : Int} {x : Tok} (hx : ts[j]? = some x) (hk : x.k = 7)
    (HW : ∀ rb g W, w0.heap.size ≤ rb → Rd rb g ts 0 W → G w0 W → Calls Tryz.prog 12 #[ptr rb] W fun e W' => (∃ pb cap, e = .returned (.agg #[.slice (some ⟨pb, 0, none⟩) 1 cap]) ∧ PtM pb a b W' ∧ W.heap.size ≤ pb ∧ 1 ≤ cap) ∧ Rd rb g ts j W' ∧ Qr rb W W') :
    Calls Tryz.prog 11 #[.string u, .func (.func 12) #[] #[]] w fun e W' => (∃ pb cap, e = .returned (.tuple #[.agg #[.slice (some ⟨pb, 0, none⟩) 1 cap], I 0, I 0]) ∧ PtM pb a b W' ∧ w.heap.size ≤ pb ∧ 1 ≤ cap) ∧ G w W' := by
  have hmf : ∀ (fn : Fn) (first cap : Array Value) (w : World), (Instr.makeFunc fn first cap).run Tryz.prog w = .ok (.func fn first cap) w := fun _ _ _ _ => rfl
  have HCZ := xh (Cz.new w 34 27 3 [.slice none 0 0] 0 0)
  have HGW := xh ((((G.refl w).alloc (.cells #[.slice none 0 0] 34)).alloc (.cells #[I 0] 27)).alloc (.cells #[I 0] 3))
  have HLX := xh hlx
  have HWW := xh HW
  have HXX := xh hx
  have HK := xh hk
  clear hx hk
  have HG0 := xh g0
  clear hlx HW g0
  go_enter_defers Tryz.func11, Tryz.ntmps11
  go_wp2_with (first | (go_at_call 13; refine Hid.out ?_) | fail)
  unfold Hid
  generalize (((w.alloc (.cells #[.slice none 0 0] 34)).alloc (.cells #[I 0] 27)).alloc (.cells #[I 0] 3)) = wa at HCZ HGW ⊢
  refine (HLX.out wa (HG0.out.trans HGW.out)).mono ?_
  rintro e w1 ⟨g, cp, rfl, hcap, htk, hgl, hg⟩
  have HC1 := xh (HCZ.out.G hg)
  have HG1 := xh (HGW.out.trans hg)
  have HTK := xh htk
  have hc1 := HC1.out.c1
  have hf1 := HC1.out.f1
  have hc2 := HC1.out.c2
  have hf2 := HC1.out.f2
  have hlI : (0 : Int) < (ts.length : Int) := by omega
  have hcI : (ts.length : Int) ≤ (cp : Int) := by omega
  have hz0 := HCZ.out.z
  clear hg htk HCZ HGW HLX
  go_wp2_with (first | (go_at_call 24; refine Hid.out ?_) | fail)
  unfold Hid
  have HC2 := xh ((HC1.out.set1 0).set2 0)
  have HG2 := xh ((HG1.out.set1 (I 0) 1).set1 (I 0) 2)
  have hz1 := HC1.out.z
  have HT2 : Hid (TkM g ts ((w1.setCell ⟨w.heap.size + 1, 0, none⟩ (I 0)).setCell ⟨w.heap.size + 2, 0, none⟩ (I 0))) := HTK.out.keep ((set_other _ _ _ _ _ (by omega)).trans (set_other _ _ _ _ _ (by omega)))
  have hsz : ((w1.setCell ⟨w.heap.size + 1, 0, none⟩ (I 0)).setCell ⟨w.heap.size + 2, 0, none⟩ (I 0)).heap.size = w1.heap.size := by simp [World.setCell]
  have hgl2 : g < w1.heap.size := by
    obtain ⟨y, hy⟩ : ∃ y, ts[0]? = some y := ⟨_, List.getElem?_eq_getElem hl0⟩
    exact cell_lt (HTK.out 0 y hy).1
  rw [show w.heap.size + 1 + 1 = w.heap.size + 2 from rfl, ← hsz]
  have HSZ : Hid (w.heap.size + 2 < ((w1.setCell ⟨w.heap.size + 1, 0, none⟩ (I 0)).setCell ⟨w.heap.size + 2, 0, none⟩ (I 0)).heap.size) := by rw [hsz]; exact hz1
  have HGL : Hid (g < ((w1.setCell ⟨w.heap.size + 1, 0, none⟩ (I 0)).setCell ⟨w.heap.size + 2, 0, none⟩ (I 0)).heap.size) := by rw [hsz]; exact hgl2
  clear HC1 HG1 HTK hc1 hf1 hc2 hf2 hsz hz1 hgl2
  generalize (w1.setCell ⟨w.heap.size + 1, 0, none⟩ (I 0)).setCell ⟨w.heap.size + 2, 0, none⟩ (I 0) = w2 at HC2 HG2 HT2 HSZ HGL ⊢
  have HRD := xh (Rd.new HT2.out HGL.out hl0 hl5)
  have HG3 := xh (HG2.out.trans ((G.refl w2).alloc (.cells #[.slice (some ⟨g, 0, none⟩) ts.length ts.length] 58)))
  have HC3 := xh (HC2.out.G ((G.refl w2).alloc (.cells #[.slice (some ⟨g, 0, none⟩) ts.length ts.length] 58)))
  have HWR : Hid (w0.heap.size ≤ w2.heap.size) := Nat.le_trans HG0.out.size HG2.out.size
  obtain ⟨rb, hrb⟩ : ∃ rb, rb = w2.heap.size := ⟨_, rfl⟩
  rw [← hrb] at HRD HSZ HWR ⊢
  generalize w2.alloc (.cells #[.slice (some ⟨g, 0, none⟩) ts.length ts.length] 58) = w3 at HRD HG3 HC3 ⊢
  clear HC2 HG2 HT2 HGL hrb
  refine (endq_ok HXX.out HK.out HRD.out (HG0.out.trans HG3.out) (fun W h g0 => HWW.out rb g W HWR.out h g0)).mono ?_
  rintro e w4 ⟨⟨pb, cap, rfl, hpm, hpb, hcp⟩, hrd, hq⟩
  have HC4 := xh (HC3.out.Q hq HSZ.out)
  have HG4 := xh (hq.G HG3.out (by have := HSZ.out; omega))
  have HPM := xh hpm
  have HPB : Hid (w.heap.size + 2 < pb) := by have := HC3.out.z; unfold Hid; omega
  clear hrd hq hpm hpb HRD HG3 HC3 HWW
  have hc0 := HC4.out.c0
  have hf0 := HC4.out.f0
  have hc1 := HC4.out.c1
  have hf1 := HC4.out.f1
  have hc2 := HC4.out.c2
  have hf2 := HC4.out.f2
  go_wp2
  refine leaves_cons (f := 23) (args := #[ptr (w.heap.size + 1), ptr (w.heap.size + 2)]) (by simp) (by simp [go_sem]) ?_
  refine (clQ_idle _ _ _).mono ?_
  rintro e u' w'' ⟨rfl, rfl, rfl⟩
  simp [Leaves, settle, results, Tryz.results11, go_sem, hc0, hc1, hc2]
  have hpb := HPB.out
  exact ⟨⟨pb, cap, ⟨rfl, rfl⟩, ((HPM.out.set 0 _ (by omega)).set 0 _ (by omega)).set 0 _ (by omega), by omega, hcp⟩, ((HG4.out.set1 _ 0).set1 _ 1).set1 _ 2⟩
set_option maxRecDepth 100000 in
set_option maxHeartbeats 1000000 in
theorem cauq_no {u : ByteArray} {ts : List Tok} {w0 w : World} (g0 : G w0 w) (hlx : LexOk u ts w0) (hl0 : 0 < ts.length) (hl5 : ts.length ≤ 5000) 
    (HW : ∀ rb g W, w0.heap.size ≤ rb → Rd rb g ts 0 W → G w0 W → Calls Tryz.prog 12 #[ptr rb] W fun e W' => (∃ pp, e = .panicked [{ v := .iface 55 (.agg #[I 101, I pp]), recovered := false }]) ∧ Qr rb W W') :
    Calls Tryz.prog 11 #[.string u, .func (.func 12) #[] #[]] w fun e W' => (∃ pp, e = .returned (.tuple #[.agg #[.slice none 0 0], I 101, I pp])) ∧ G w W' := by
  have hmf : ∀ (fn : Fn) (first cap : Array Value) (w : World), (Instr.makeFunc fn first cap).run Tryz.prog w = .ok (.func fn first cap) w := fun _ _ _ _ => rfl
  have HCZ := xh (Cz.new w 34 27 3 [.slice none 0 0] 0 0)
  have HGW := xh ((((G.refl w).alloc (.cells #[.slice none 0 0] 34)).alloc (.cells #[I 0] 27)).alloc (.cells #[I 0] 3))
  have HLX := xh hlx
  have HWW := xh HW
  have HG0 := xh g0
  clear hlx HW g0
  go_enter_defers Tryz.func11, Tryz.ntmps11
  go_wp2_with (first | (go_at_call 13; refine Hid.out ?_) | fail)
  unfold Hid
  generalize (((w.alloc (.cells #[.slice none 0 0] 34)).alloc (.cells #[I 0] 27)).alloc (.cells #[I 0] 3)) = wa at HCZ HGW ⊢
  refine (HLX.out wa (HG0.out.trans HGW.out)).mono ?_
  rintro e w1 ⟨g, cp, rfl, hcap, htk, hgl, hg⟩
  have HC1 := xh (HCZ.out.G hg)
  have HG1 := xh (HGW.out.trans hg)
  have HTK := xh htk
  have hc1 := HC1.out.c1
  have hf1 := HC1.out.f1
  have hc2 := HC1.out.c2
  have hf2 := HC1.out.f2
  have hlI : (0 : Int) < (ts.length : Int) := by omega
  have hcI : (ts.length : Int) ≤ (cp : Int) := by omega
  have hz0 := HCZ.out.z
  clear hg htk HCZ HGW HLX
  go_wp2_with (first | (go_at_call 24; refine Hid.out ?_) | fail)
  unfold Hid
  have HC2 := xh ((HC1.out.set1 0).set2 0)
  have HG2 := xh ((HG1.out.set1 (I 0) 1).set1 (I 0) 2)
  have hz1 := HC1.out.z
  have HT2 : Hid (TkM g ts ((w1.setCell ⟨w.heap.size + 1, 0, none⟩ (I 0)).setCell ⟨w.heap.size + 2, 0, none⟩ (I 0))) := HTK.out.keep ((set_other _ _ _ _ _ (by omega)).trans (set_other _ _ _ _ _ (by omega)))
  have hsz : ((w1.setCell ⟨w.heap.size + 1, 0, none⟩ (I 0)).setCell ⟨w.heap.size + 2, 0, none⟩ (I 0)).heap.size = w1.heap.size := by simp [World.setCell]
  have hgl2 : g < w1.heap.size := by
    obtain ⟨y, hy⟩ : ∃ y, ts[0]? = some y := ⟨_, List.getElem?_eq_getElem hl0⟩
    exact cell_lt (HTK.out 0 y hy).1
  rw [show w.heap.size + 1 + 1 = w.heap.size + 2 from rfl, ← hsz]
  have HSZ : Hid (w.heap.size + 2 < ((w1.setCell ⟨w.heap.size + 1, 0, none⟩ (I 0)).setCell ⟨w.heap.size + 2, 0, none⟩ (I 0)).heap.size) := by rw [hsz]; exact hz1
  have HGL : Hid (g < ((w1.setCell ⟨w.heap.size + 1, 0, none⟩ (I 0)).setCell ⟨w.heap.size + 2, 0, none⟩ (I 0)).heap.size) := by rw [hsz]; exact hgl2
  clear HC1 HG1 HTK hc1 hf1 hc2 hf2 hsz hz1 hgl2
  generalize (w1.setCell ⟨w.heap.size + 1, 0, none⟩ (I 0)).setCell ⟨w.heap.size + 2, 0, none⟩ (I 0) = w2 at HC2 HG2 HT2 HSZ HGL ⊢
  have HRD := xh (Rd.new HT2.out HGL.out hl0 hl5)
  have HG3 := xh (HG2.out.trans ((G.refl w2).alloc (.cells #[.slice (some ⟨g, 0, none⟩) ts.length ts.length] 58)))
  have HC3 := xh (HC2.out.G ((G.refl w2).alloc (.cells #[.slice (some ⟨g, 0, none⟩) ts.length ts.length] 58)))
  have HWR : Hid (w0.heap.size ≤ w2.heap.size) := Nat.le_trans HG0.out.size HG2.out.size
  obtain ⟨rb, hrb⟩ : ∃ rb, rb = w2.heap.size := ⟨_, rfl⟩
  rw [← hrb] at HRD HSZ HWR ⊢
  generalize w2.alloc (.cells #[.slice (some ⟨g, 0, none⟩) ts.length ts.length] 58) = w3 at HRD HG3 HC3 ⊢
  clear HC2 HG2 HT2 HGL hrb
  refine (endq_no HRD.out (HG0.out.trans HG3.out) (fun W h g0 => HWW.out rb g W HWR.out h g0)).mono ?_
  rintro e w4 ⟨⟨pp, rfl⟩, hq⟩
  have HC4 := xh (HC3.out.Q hq HSZ.out)
  have HG4 := xh (hq.G HG3.out (by have := HSZ.out; omega))
  clear hq HRD HG3 HC3 HWW
  go_wp2
  refine leaves_cons (f := 23) (args := #[ptr (w.heap.size + 1), ptr (w.heap.size + 2)]) (by simp) (by simp [go_sem]) ?_
  refine (clQ_panic _ _ 101 pp 0 0 [] _ HC4.out.c1 HC4.out.f1 HC4.out.c2 HC4.out.f2 (by omega)).mono ?_
  rintro e u' w'' ⟨rfl, rfl, rfl⟩
  have HC5 := xh ((((HC4.out.set1 101).set2 pp).G ((G.refl _).alloc (.cells #[I 101, I pp] 55))).G (G.drew (G.refl _)))
  have HG5 : Hid (G w (((w4.setCell ⟨w.heap.size + 1, 0, none⟩ (I 101)).setCell ⟨w.heap.size + 2, 0, none⟩ (I pp)).alloc (.cells #[I 101, I pp] 55)).drew) := G.drew (G.alloc ((HG4.out.set1 (I 101) 1).set1 (I pp) 2) _)
  clear HC4 HG4
  generalize (((w4.setCell ⟨w.heap.size + 1, 0, none⟩ (I 101)).setCell ⟨w.heap.size + 2, 0, none⟩ (I pp)).alloc (.cells #[I 101, I pp] 55)).drew = w5 at HC5 HG5 ⊢
  have hc0 := HC5.out.c0
  have hc1 := HC5.out.c1
  have hc2 := HC5.out.c2
  simp [Leaves, settle, results, Tryz.results11, go_sem, hc0, hc1, hc2]
  exact HG5.out
set_option maxRecDepth 100000 in
set_option maxHeartbeats 1000000 in
theorem pq_ok {u : ByteArray} {w : World} {a b : Int} (hc : ∀ W, G w W → w.heap.size < W.heap.size → Calls Tryz.prog 11 #[.string u, .func (.func 12) #[] #[]] W fun e W' => (∃ pb cap, e = .returned (.tuple #[.agg #[.slice (some ⟨pb, 0, none⟩) 1 cap], I 0, I 0]) ∧ PtM pb a b W' ∧ w.heap.size + 1 ≤ pb ∧ 1 ≤ cap) ∧ G W W') : Calls Tryz.prog 7 #[.string u] w fun e W' => (∃ pb cap, e = .returned (.tuple #[.agg #[.slice (some ⟨pb, 0, none⟩) 1 cap], I 0, I 0]) ∧ PtM pb a b W' ∧ w.heap.size + 1 ≤ pb ∧ 1 ≤ cap) ∧ G w W' := by
  have HC := xh hc
  have HGW := xh ((G.refl w).alloc (.cells #[.slice none 0 0] 34))
  have HC0 : Hid (∀ o, (w.alloc (.cells #[.slice none 0 0] 34)).cell? ⟨w.heap.size, o, none⟩ = ([.slice none 0 0] : List Value)[o]?) := fun o => by simp
  have HF0 : Hid (∀ o, (w.alloc (.cells #[.slice none 0 0] 34)).frozen? ⟨w.heap.size, o, none⟩ = false) := fun o => by simp
  have HZ0 : Hid (w.heap.size < (w.alloc (.cells #[.slice none 0 0] 34)).heap.size) := by unfold Hid; simp
  clear hc
  go_enter Tryz.func7, Tryz.ntmps7
  go_wp2_with (first | (go_at_call 11; refine Hid.out ?_) | fail)
  unfold Hid
  generalize w.alloc (.cells #[.slice none 0 0] 34) = wa at HGW HC0 HF0 HZ0 ⊢
  refine (HC.out wa HGW.out HZ0.out).mono ?_
  rintro e w1 ⟨⟨pb, cap, rfl, hpm, hpb, hcp⟩, hg⟩
  have hc0 := G.cells hg HC0.out HZ0.out
  have hf0 := G.frozens hg HF0.out HZ0.out
  have HG1 := xh (HGW.out.trans hg)
  clear hg HC0 HF0 HZ0 HGW HC
  go_wp2
  refine bodyPost_ret (v := .tuple #[.agg #[.slice (some ⟨pb, 0, none⟩) 1 cap], I 0, I 0]) (by simp [results, Tryz.results7, go_sem, hc0]) rfl ⟨⟨pb, cap, rfl, hpm.set 0 _ (by omega), hpb, hcp⟩, HG1.out.set1 _ 0⟩
set_option maxRecDepth 100000 in
set_option maxHeartbeats 1000000 in
theorem pq_no {u : ByteArray} {w : World} (hc : ∀ W, G w W → w.heap.size < W.heap.size → Calls Tryz.prog 11 #[.string u, .func (.func 12) #[] #[]] W fun e W' => (∃ pp, e = .returned (.tuple #[.agg #[.slice none 0 0], I 101, I pp])) ∧ G W W') : Calls Tryz.prog 7 #[.string u] w fun e W' => (∃ pp, e = .returned (.tuple #[.agg #[.slice none 0 0], I 101, I pp])) ∧ G w W' := by
  have HC := xh hc
  have HGW := xh ((G.refl w).alloc (.cells #[.slice none 0 0] 34))
  have HC0 : Hid (∀ o, (w.alloc (.cells #[.slice none 0 0] 34)).cell? ⟨w.heap.size, o, none⟩ = ([.slice none 0 0] : List Value)[o]?) := fun o => by simp
  have HF0 : Hid (∀ o, (w.alloc (.cells #[.slice none 0 0] 34)).frozen? ⟨w.heap.size, o, none⟩ = false) := fun o => by simp
  have HZ0 : Hid (w.heap.size < (w.alloc (.cells #[.slice none 0 0] 34)).heap.size) := by unfold Hid; simp
  clear hc
  go_enter Tryz.func7, Tryz.ntmps7
  go_wp2_with (first | (go_at_call 11; refine Hid.out ?_) | fail)
  unfold Hid
  generalize w.alloc (.cells #[.slice none 0 0] 34) = wa at HGW HC0 HF0 HZ0 ⊢
  refine (HC.out wa HGW.out HZ0.out).mono ?_
  rintro e w1 ⟨⟨pp, rfl⟩, hg⟩
  have hc0 := G.cells hg HC0.out HZ0.out
  have hf0 := G.frozens hg HF0.out HZ0.out
  have HG1 := xh (HGW.out.trans hg)
  clear hg HC0 HF0 HZ0 HGW HC
  go_wp2
  refine bodyPost_ret (v := .tuple #[.agg #[.slice none 0 0], I 101, I pp]) (by simp [results, Tryz.results7, go_sem, hc0]) rfl ⟨⟨pp, rfl⟩, HG1.out.set1 _ 0⟩
end
open Go.RowKit Go.Lib

theorem tkCs_at : ∀ (ts : List Tok) (j : Nat) (x : Tok), ts[j]? = some x → ∀ d v, (tkC x)[d]? = some v → (tkCs ts)[j * 3 + d]? = some v
  | [], j, x, h, _, _, _ => by simp at h
  | y :: ts, 0, x, h, d, v, hv => by
    simp at h; subst h
    have hd : d < (tkC y).length := (List.getElem?_eq_some_iff.1 hv).1
    show (tkC y ++ tkCs ts)[0 * 3 + d]? = some v
    rw [Nat.zero_mul, Nat.zero_add, List.getElem?_append_left hd]
    exact hv
  | y :: ts, j + 1, x, h, d, v, hv => by
    have h2 := tkCs_at ts j x (by simpa using h) d v hv
    show (tkC y ++ tkCs ts)[(j + 1) * 3 + d]? = some v
    rw [List.getElem?_append_right (by simp [tkC]; omega), show (j + 1) * 3 + d - (tkC y).length = j * 3 + d by simp [tkC]; omega]
    exact h2
theorem lex_ok {u : ByteArray} {ts : List Tok} {w0 : World} (hE : Lxe w0) (hs : u.size ≤ 4096) (h0 : 0 < ts.length) (hL : Lx (fun _ _ => False) u.data.toList (skp u.data.toList 0) (.ok ts)) : LexOk u ts w0 := fun W g0 => by
  refine (lex_any u W (hE.G g0)).mono ?_
  rintro e w' ⟨o, x, rfl, hv, hl, hg⟩
  have hll : u.data.toList.length = u.size := by rw [Array.length_toList]; rfl
  unfold LxT at hl
  rw [hll, if_neg (by omega)] at hl
  have e := lx_one (Q := fun _ _ => False) (fun _ _ _ h _ => h.elim) hL hl
  subst e
  obtain ⟨v, rfl, hown⟩ := hv
  rcases hown.2 with ⟨-, hn⟩ | ⟨g, cap, cur, rfl, hb, hcu, hc1, -, -, htk⟩
  · omega
  · refine ⟨g, cap, rfl, hc1, fun j x hx => ?_, hb, hg⟩
    have hce : ∀ d v, (tkC x)[d]? = some v → w'.cell? ⟨g, j * 3 + d, none⟩ = some v := fun d v hv => by
      have h2 := tkCs_at ts j x hx d v hv
      rw [← htk, List.getElem?_take] at h2
      split at h2
      · simp [World.cell?, hcu]
        simpa using h2
      · cases h2
    exact ⟨hce 0 _ rfl, hce 1 _ rfl, hce 2 _ rfl⟩
theorem lex_bad {u : ByteArray} {c : Int} {p : Nat} {w0 : World} (hE : Lxe w0) (hs : u.size ≤ 4096) (hL : Lx (fun _ _ => False) u.data.toList (skp u.data.toList 0) (.bad c p)) : LexBad u c p w0 := fun W g0 => by
  refine (lex_any u W (hE.G g0)).mono ?_
  rintro e w' ⟨o, x, rfl, hv, hl, hg⟩
  have hll : u.data.toList.length = u.size := by rw [Array.length_toList]; rfl
  unfold LxT at hl
  rw [hll, if_neg (by omega)] at hl
  have e := lx_one (Q := fun _ _ => False) (fun _ _ _ h _ => h.elim) hL hl
  subst e
  rw [show x = _ from hv]
  exact ⟨rfl, hg⟩
/-- No blank, no comment begins here. -/
def Gd (d : List UInt8) : Prop := d = [] ∨ ∃ c r, d = c :: r ∧ xB c = false ∧ c.toNat ≠ 47
theorem Gd.z {d : List UInt8} (h : Gd d) : skN false d = 0 := by
  rcases h with rfl | ⟨c, r, rfl, h1, h2⟩
  · rfl
  · simp [skN, h1, h2]
theorem Gd.s {d : List UInt8} (h : Gd d) : skN false (32 :: d) = 1 := by
  have : xB 32 = true := by decide
  simp [skN, this, h.z]
abbrev NQ : List UInt8 → Option ByteArray → Prop := fun _ _ => False
theorem lx_go {l tk bl d : List UInt8} {j m : Nat} {k : Int} {t : ByteArray} {o : Out} (hd : l.drop j = tk ++ (bl ++ d)) (hm : tk.length = m) (ht : Tk NQ (tk ++ (bl ++ d)) (.tok k t m)) (hb : skN false (bl ++ d) = bl.length) (hn : l.drop (j + m + bl.length) = d → Lx NQ l (j + m + bl.length) o) : Lx NQ l j (o.app [⟨k, t, j⟩]) := by
  subst hm
  have h1 : l.drop (j + tk.length) = bl ++ d := by rw [← List.drop_drop, hd]; simp
  refine Lx.step (m := tk.length) (by rw [hd]; exact ht) ?_
  unfold skp
  rw [h1, hb]
  exact hn (by rw [← List.drop_drop, h1]; simp)
theorem spn_app {p : UInt8 → Bool} : ∀ (ds r : List UInt8), (∀ c ∈ ds, p c = true) → (∀ c, r[0]? = some c → p c = false) → spn p (ds ++ r) = ds.length
  | [], r, _, h => by
    cases r with
    | nil => rfl
    | cons c r => simp [spn, h c rfl]
  | d :: ds, r, h, h2 => by
    have := spn_app ds r (fun c hc => h c (List.mem_cons_of_mem _ hc)) h2
    unfold spn at this ⊢
    simp only [List.cons_append, List.takeWhile_cons, h d (List.mem_cons_self ..), if_true, List.length_cons, this]
theorem xD_not {c : UInt8} (h : xD c = true) : ¬ c.toNat = 39 ∧ xA c = false ∧ xB c = false ∧ c.toNat ≠ 47 ∧ c.toNat ≠ 45 := by
  simp [xD] at h
  refine ⟨by omega, by simp [xA]; omega, by simp [xB]; omega, by omega, by omega⟩
theorem xD_W {c : UInt8} (h : xD c = true) : xW c = true := by simp [xW, h]
theorem Gd.ds {ds : List UInt8} (h : isDs ds) (hn : ds ≠ []) (r : List UInt8) : Gd (ds ++ r) := by
  cases ds with
  | nil => exact absurd rfl hn
  | cons c ds =>
    have hc := xD_not (h c (List.mem_cons_self ..))
    exact .inr ⟨c, ds ++ r, rfl, hc.2.2.1, hc.2.2.2.1⟩
theorem tk_num {ds r : List UInt8} (hd : isDs ds) (hn : ds ≠ []) (hN : decN ds ≤ 9223372036854775808) (hr : r = [] ∨ ∃ t, r = 32 :: t) : Tk NQ (ds ++ r) (.tok 3 (sU ds) ds.length) := by
  have hs : spn xD (ds ++ r) = ds.length := spn_app ds r hd (fun c hc => by
    rcases hr with rfl | ⟨t, rfl⟩
    · simp at hc
    · simp at hc; subst hc; decide)
  have hat : (ds ++ r)[ds.length]? = r[0]? := by rw [List.getElem?_append_right (Nat.le_refl _), Nat.sub_self]
  have htk : (ds ++ r).take ds.length = ds := by simp
  have him : imB (ds ++ r) = false := by
    unfold imB
    rw [hs, hat]
    rcases hr with rfl | ⟨t, rfl⟩
    · rfl
    · simp
  have hnu : nuT (ds ++ r) = .tok 3 (sU ds) ds.length := by
    unfold nuT
    rw [him, hs, htk, hat]
    rw [if_neg (by decide), if_neg (by omega), if_neg (by
      rcases hr with rfl | ⟨t, rfl⟩
      · simp
      · have : xA 32 = false := by decide
        simp [this])]
  cases ds with
  | nil => exact absurd rfl hn
  | cons c ds =>
    have hx := hd c (List.mem_cons_self ..)
    have hc := xD_not hx
    show (if c.toNat = 39 then _ else _)
    rw [if_neg hc.1]
    show _ = tkN c (c :: (ds ++ r))
    unfold tkN
    rw [hc.2.1, hx, if_neg (by decide), if_pos rfl]
    exact hnu.symm
theorem tk_im {ds : List UInt8} (hd : isDs ds) (hn : ds ≠ []) : Tk NQ (ds ++ [105]) (if 33554432 < decN ds then .bad 102 0 else .tok 4 (sU (ds ++ [105])) (ds.length + 1)) := by
  have hs : spn xD (ds ++ [105]) = ds.length := spn_app ds [105] hd (fun c hc => by simp at hc; subst hc; decide)
  have hat : (ds ++ [105])[ds.length]? = some 105 := by simp
  have ha2 : (ds ++ [105])[ds.length + 1]? = none := by simp
  have htk : (ds ++ [105]).take ds.length = ds := by simp
  have htk2 : (ds ++ [105]).take (ds.length + 1) = ds ++ [105] := List.take_of_length_le (by simp)
  have him : imB (ds ++ [105]) = true := by
    unfold imB
    rw [hs, hat, ha2]
    rfl
  have hnu : nuT (ds ++ [105]) = if 33554432 < decN ds then .bad 102 0 else .tok 4 (sU (ds ++ [105])) (ds.length + 1) := by
    unfold nuT
    rw [him, hs, htk, htk2, if_pos rfl]
  cases ds with
  | nil => exact absurd rfl hn
  | cons c ds =>
    have hx := hd c (List.mem_cons_self ..)
    have hc := xD_not hx
    show (if c.toNat = 39 then _ else _)
    rw [if_neg hc.1]
    show _ = tkN c (c :: (ds ++ [105]))
    unfold tkN
    rw [hc.2.1, hx, if_neg (show ¬ (false = true) by decide), if_pos rfl]
    exact hnu.symm
theorem tk_minus (r : List UInt8) : Tk NQ ([45] ++ r) (.tok 6 (sU [45]) 1) := by
  have h2 : mk2 (45 :: r) = false := by
    cases r with
    | nil => rfl
    | cons d r => simp [mk2]
  show _ = tkN 45 (45 :: r)
  unfold tkN mkT
  rw [h2]
  rfl
theorem tk_word (wd r : List UInt8) (hw : ∀ c ∈ wd, xW c = true) (hh : wd.head?.any xA = true) (hl : wd.length ≤ 8) (hb : wdB wd = true) : Tk NQ (wd ++ 32 :: r) (.tok 2 (sU wd) wd.length) := by
  have hs : spn xW (wd ++ 32 :: r) = wd.length := spn_app wd (32 :: r) hw (fun c hc => by simp at hc; subst hc; decide)
  have htk : (wd ++ 32 :: r).take wd.length = wd := by simp
  have hnm : nmT (wd ++ 32 :: r) = .tok 2 (sU wd) wd.length := by
    unfold nmT
    rw [hs, htk, if_neg (by omega), hb, if_pos rfl]
  cases wd with
  | nil => cases hh
  | cons c wd =>
    have hc : xA c = true := by simpa using hh
    have h39 : ¬ c.toNat = 39 := by simp [xA] at hc; omega
    show (if c.toNat = 39 then _ else _)
    rw [if_neg h39]
    show _ = tkN c (c :: (wd ++ 32 :: r))
    unfold tkN
    rw [hc, if_pos rfl]
    exact hnm.symm
theorem skp_0 {l : List UInt8} (h : Gd l) : skp l 0 = 0 := by unfold skp; rw [List.drop_zero, h.z]
abbrev tE (p : Nat) : Tok := ⟨7, ⟨#[]⟩, p⟩
abbrev tN (ds : List UInt8) (p : Nat) : Tok := ⟨3, sU ds, p⟩
abbrev tM (p : Nat) : Tok := ⟨6, sU [45], p⟩
abbrev tI (ds : List UInt8) (p : Nat) : Tok := ⟨4, sU (ds ++ [105]), p⟩
theorem lx_num_end {l ds : List UInt8} {j : Nat} (hd : isDs ds) (hn : ds ≠ []) (hN : decN ds ≤ 9223372036854775808) (h : l.drop j = ds) : Lx NQ l j (.ok [tN ds j, tE (j + ds.length)]) := by
  have h1 := lx_go (l := l) (tk := ds) (bl := []) (d := []) (j := j) (m := ds.length) (o := .ok [tE (j + ds.length + 0)]) (by simpa using h) rfl (tk_num hd hn hN (.inl rfl)) rfl (fun hq => Lx.fin (List.drop_eq_nil_iff.1 hq))
  exact h1
theorem lx_im_end {l ds : List UInt8} {j : Nat} (hd : isDs ds) (hn : ds ≠ []) (h : l.drop j = ds ++ [105]) : Lx NQ l j (if 33554432 < decN ds then .bad 102 j else .ok [tI ds j, tE (j + (ds.length + 1))]) := by
  have ht := tk_im hd hn
  by_cases hc : 33554432 < decN ds
  · rw [if_pos hc] at ht ⊢
    exact Lx.bad (o := 0) (by rw [h]; exact ht)
  · rw [if_neg hc] at ht ⊢
    have h1 := lx_go (l := l) (tk := ds ++ [105]) (bl := []) (d := []) (j := j) (m := ds.length + 1) (o := .ok [tE (j + (ds.length + 1) + 0)]) (by simpa using h) (by simp) (by simpa using ht) rfl (fun hq => Lx.fin (List.drop_eq_nil_iff.1 hq))
    exact h1
theorem lx_minus {l r : List UInt8} {j : Nat} {o : Out} (hg : Gd r) (h : l.drop j = 45 :: r) (hn : l.drop (j + 1) = r → Lx NQ l (j + 1) o) : Lx NQ l j (o.app [tM j]) :=
  lx_go (l := l) (tk := [45]) (bl := []) (d := r) (j := j) (m := 1) (by simpa using h) rfl (tk_minus _) hg.z hn
theorem lx_num_sp {l ds r : List UInt8} {j : Nat} {o : Out} (hd : isDs ds) (hn : ds ≠ []) (hN : decN ds ≤ 9223372036854775808) (hg : Gd r) (h : l.drop j = ds ++ 32 :: r) (hx : l.drop (j + ds.length + 1) = r → Lx NQ l (j + ds.length + 1) o) : Lx NQ l j (o.app [tN ds j]) :=
  lx_go (l := l) (tk := ds) (bl := [32]) (d := r) (j := j) (m := ds.length) h rfl (tk_num hd hn hN (.inr ⟨_, rfl⟩)) hg.s hx
theorem lx_word {l r : List UInt8} {j : Nat} {o : Out} (wd : List UInt8) (hw : ∀ c ∈ wd, xW c = true) (hh : wd.head?.any xA = true) (hl : wd.length ≤ 8) (hb : wdB wd = true) (hg : Gd r) (h : l.drop j = wd ++ 32 :: r) (hx : l.drop (j + wd.length + 1) = r → Lx NQ l (j + wd.length + 1) o) : Lx NQ l j (o.app [⟨2, sU wd, j⟩]) :=
  lx_go (l := l) (tk := wd) (bl := [32]) (d := r) (j := j) (m := wd.length) h rfl (tk_word wd r hw hh hl hb) hg.s hx
theorem decN_snoc (l : List UInt8) (c : UInt8) : decN (l ++ [c]) = decN l * 10 + (c.toNat - 48) := by unfold decN; rw [List.foldl_append]; rfl
theorem decN_dec (u : Nat) : decN (decDigits u) = u := by
  induction u using Nat.strongRecOn with
  | _ u ih =>
    rw [decDigits]
    by_cases h : u < 10
    · rw [dif_pos h]
      have := decN_snoc [] (UInt8.ofNat (48 + u))
      rw [List.nil_append, dig_nat u h] at this
      rw [this, show decN [] = 0 from rfl]; omega
    · rw [dif_neg h, decN_snoc, ih (u / 10) (by omega), dig_nat (u % 10) (by omega)]; omega
theorem decD_len : ∀ (k u : Nat), u < 10 ^ (k + 1) → (decDigits u).length ≤ k + 1
  | 0, u, h => by
    rw [decDigits, dif_pos (by simpa using h)]; simp
  | k + 1, u, h => by
    rw [decDigits]
    by_cases c : u < 10
    · rw [dif_pos c]; simp
    · rw [dif_neg c, List.length_append]
      have := decD_len k (u / 10) (by rw [Nat.pow_succ] at h; omega)
      simp; omega
def dsN (z u : Nat) : List UInt8 := List.replicate z 48 ++ decDigits u
theorem dsN_ds (z u : Nat) : isDs (dsN z u) := fun c hc => by
  unfold dsN at hc
  rcases List.mem_append.1 hc with h | h
  · rw [(List.mem_replicate.1 h).2]; decide
  · have := decD_digit u c h
    simp [xD]; omega
theorem dsN_ne (z u : Nat) : dsN z u ≠ [] := fun h => decD_ne u (List.append_eq_nil_iff.1 h).2
theorem decN_48 (l : List UInt8) : decN (48 :: l) = decN l := rfl
theorem dsN_N (z u : Nat) : decN (dsN z u) = u := by
  induction z with
  | zero => exact decN_dec u
  | succ z ih => exact (decN_48 _).trans ih
theorem dsN_len {z u : Nat} (hz : z ≤ 60) (hu : u ≤ 9223372036854775808) : (dsN z u).length ≤ 80 := by
  have := decD_len 19 u (by omega)
  unfold dsN; rw [List.length_append, List.length_replicate]; omega
end
open Go.RowKit Go.Lib

theorem seB_w (a b : List UInt8) (k : Int) (p : Nat) (h : (a == b) = false) : seB ⟨k, sU a, p⟩ ⟨b.toArray⟩ = false := by
  show ((_ || _) && ((sU a).toList == (sU b).toList)) = false
  rw [s_eq, sU_list, h, Bool.and_false]
theorem seB_t (a : List UInt8) (k : Int) (p : Nat) (hk : (k == 2 || k == 6) = true) : seB ⟨k, sU a, p⟩ ⟨a.toArray⟩ = true := by
  show ((k == 2 || k == 6) && ((sU a).toList == (sU a).toList)) = true
  rw [hk, beq_self_eq_true]; rfl
theorem seB_all (a : List UInt8) (k : Int) (p : Nat) (bs : List (List UInt8)) (h : (bs.all fun b => !(a == b)) = true) : ∀ t ∈ bs.map (fun b => (⟨b.toArray⟩ : ByteArray)), seB ⟨k, sU a, p⟩ t = false := fun t ht => by
  obtain ⟨b, hb, rfl⟩ := List.mem_map.1 ht
  exact seB_w a b k p (by simpa using List.all_eq_true.1 h b hb)
theorem stop_w (a : List UInt8) (p : Nat) (h : (opsL.all fun e => !(a == e.1)) = true) (h1 : (a == [105, 115]) = false) (h2 : (a == [105, 110]) = false) : StopT ⟨2, sU a, p⟩ :=
  ⟨fun rank k t r b hk _ => seB_w a t 2 p (by simpa using List.all_eq_true.1 h _ (List.mem_of_getElem? hk)), seB_w a _ 2 p h1, seB_w a _ 2 p h2⟩
theorem stop_e (p : Nat) : StopT (tE p) := ⟨fun _ _ _ _ _ _ _ => seB_num (.inr (.inr rfl)) _, seB_num (.inr (.inr rfl)) _, seB_num (.inr (.inr rfl)) _⟩
theorem OpV.G {w W : World} (h : OpV w) (g : G w W) : OpV W := var_G g h
theorem pe_ok {u : ByteArray} {ts : List Tok} {w : World} (hE : Lxe w) (hO : OpV w) (hs : u.size ≤ 4096) (hL : Lx NQ u.data.toList (skp u.data.toList 0) (.ok ts)) {k a b : Int} {m : Nat} (ho : OpT ts 0 k a b m) {x : Tok} (hx : ts[m]? = some x) (hk : x.k = 7) (h5 : ts.length ≤ 5000) :
    Calls Tryz.prog 5 #[.string u] w fun e W' => e = .returned (.tuple #[litE k a b E0, I 0, I 0]) ∧ G w W' := by
  have hl : 0 < ts.length := by have := (List.getElem?_eq_some_iff.1 hx).1; omega
  have hst : StopT x := ⟨fun _ _ _ _ _ _ _ => seB_num (.inr (.inr hk)) _, seB_num (.inr (.inr hk)) _, seB_num (.inr (.inr hk)) _⟩
  exact pe_of 1 k a b 0 0 (fun W g => caught_ok g (lex_ok hE hs hl hL) hl h5 hx hk (fun rb g W hr h g0 => by
    have := whole_num hO hr ho (x := x) (by rw [Nat.zero_add]; exact hx) hst h g0
    rwa [Nat.zero_add] at this))
theorem pe_bad {u : ByteArray} {w : World} {c : Int} {p : Nat} (hc : ¬ c = 0) (hE : Lxe w) (hs : u.size ≤ 4096) (hL : Lx NQ u.data.toList (skp u.data.toList 0) (.bad c p)) :
    Calls Tryz.prog 5 #[.string u] w fun e W' => e = .returned (.tuple #[.agg #[I 0, I 0, I 0, I 0, I 0, .string E0, .string E0, .string E0, .bool false, .slice none 0 0], I c, I p]) ∧ G w W' :=
  pe_of 0 0 0 0 c p (fun _ g => caught_bad hc g (lex_bad hE hs hL) _)
theorem numT {ds : List UInt8} (p : Nat) (hd : isDs ds) (hn : ds ≠ []) (hl : ds.length ≤ 4096) (hN : decN ds ≤ 9223372036854775808) : NumT (tN ds p) := by
  have hz : (sU ds).size = ds.length := by simp [sU, ByteArray.size]
  refine ⟨rfl, by show isDs (sU ds).data.toList; rw [sU_list]; exact hd, ?_, by show (sU ds).size ≤ _; omega, by show decN (sU ds).data.toList ≤ _; rw [sU_list]; exact hN⟩
  show 0 < (sU ds).size
  have : ds.length ≠ 0 := fun e => hn (List.eq_nil_of_length_eq_zero e)
  omega
theorem imT {ds : List UInt8} (p : Nat) (hd : isDs ds) (hn : ds ≠ []) (hl : ds.length ≤ 4000) (hN : decN ds ≤ 33554432) : ImT (tI ds p) ds :=
  ⟨rfl, sU_list _, hd, hn, by show (sU (ds ++ [105])).size ≤ _; simp [sU, ByteArray.size]; omega, hN⟩
theorem px_pos {ds : List UInt8} {w : World} (hE : Lxe w) (hO : OpV w) (hd : isDs ds) (hn : ds ≠ []) (hl : ds.length ≤ 80) (hN : decN ds ≤ 9223372036854775807) : Calls Tryz.prog 5 #[.string (sU ds)] w fun e W' => e = .returned (.tuple #[litE 2 (decN ds : Nat) 0 E0, I 0, I 0]) ∧ G w W' := by
  have ho := OpT.num (ts := [tN ds 0, tE (0 + ds.length)]) (i := 0) rfl (numT 0 hd hn (by omega) (by omega)) (by rw [sU_list]; exact hN)
  rw [sU_list] at ho
  refine pe_ok hE hO (by rw [sU_size]; omega) ?_ ho rfl rfl (by simp)
  rw [sU_list, skp_0 (by simpa using Gd.ds hd hn [])]
  exact lx_num_end hd hn (by omega) rfl
theorem px_neg {ds : List UInt8} {w : World} (hE : Lxe w) (hO : OpV w) (hd : isDs ds) (hn : ds ≠ []) (hl : ds.length ≤ 80) (hN : decN ds ≤ 9223372036854775808) : Calls Tryz.prog 5 #[.string (sU (45 :: ds))] w fun e W' => e = .returned (.tuple #[litE 2 (-(decN ds : Nat)) 0 E0, I 0, I 0]) ∧ G w W' := by
  have ho := OpT.neg (ts := [tM 0, tN ds (0 + 1), tE (0 + 1 + ds.length)]) (i := 0) rfl (seB_t [45] 6 0 rfl) rfl (numT (0 + 1) hd hn (by omega) (by omega))
  rw [sU_list] at ho
  refine pe_ok hE hO (by rw [sU_size, List.length_cons]; omega) ?_ ho rfl rfl (by simp)
  rw [sU_list, skp_0 (.inr ⟨45, ds, rfl, by decide, by decide⟩)]
  exact lx_minus (o := .ok [tN ds (0 + 1), tE (0 + 1 + ds.length)]) (by simpa using Gd.ds hd hn []) rfl (fun h => lx_num_end hd hn hN h)
theorem py_pos {ds : List UInt8} {w : World} (hE : Lxe w) (hO : OpV w) (hd : isDs ds) (hn : ds ≠ []) (hl : ds.length ≤ 80) (hN : decN ds ≤ 33554432) : Calls Tryz.prog 5 #[.string (sU (ds ++ [105]))] w fun e W' => e = .returned (.tuple #[litE 3 0 (decN ds : Nat) E0, I 0, I 0]) ∧ G w W' := by
  have ho := OpT.img (ts := [tI ds 0, tE (0 + (ds.length + 1))]) (i := 0) rfl (imT 0 hd hn (by omega) hN)
  refine pe_ok hE hO (by rw [sU_size, List.length_append]; simp; omega) ?_ ho rfl rfl (by simp)
  rw [sU_list, skp_0 (Gd.ds hd hn _)]
  have h := lx_im_end (l := ds ++ [105]) (j := 0) hd hn rfl
  rwa [if_neg (by omega)] at h
theorem py_neg {ds : List UInt8} {w : World} (hE : Lxe w) (hO : OpV w) (hd : isDs ds) (hn : ds ≠ []) (hl : ds.length ≤ 80) (hN : decN ds ≤ 33554432) : Calls Tryz.prog 5 #[.string (sU (45 :: (ds ++ [105])))] w fun e W' => e = .returned (.tuple #[litE 3 0 (-(decN ds : Nat)) E0, I 0, I 0]) ∧ G w W' := by
  have ho := OpT.ngi (ts := [tM 0, tI ds (0 + 1), tE (0 + 1 + (ds.length + 1))]) (i := 0) rfl (seB_t [45] 6 0 rfl) rfl (imT (0 + 1) hd hn (by omega) hN)
  refine pe_ok hE hO (by rw [sU_size, List.length_cons, List.length_append]; simp; omega) ?_ ho rfl rfl (by simp)
  rw [sU_list, skp_0 (.inr ⟨45, _, rfl, by decide, by decide⟩)]
  exact lx_minus (o := .ok [tI ds (0 + 1), tE (0 + 1 + (ds.length + 1))]) (Gd.ds hd hn _) rfl (fun h => by
    have h := lx_im_end (j := 0 + 1) hd hn h
    rwa [if_neg (by omega)] at h)
theorem py_long {ds : List UInt8} {w : World} (hE : Lxe w) (hd : isDs ds) (hn : ds ≠ []) (hl : ds.length ≤ 80) (hN : 33554432 < decN ds) : Calls Tryz.prog 5 #[.string (sU (ds ++ [105]))] w fun e W' => e = .returned (.tuple #[.agg #[I 0, I 0, I 0, I 0, I 0, .string E0, .string E0, .string E0, .bool false, .slice none 0 0], I 102, I (0 : Nat)]) ∧ G w W' := by
  refine pe_bad (by decide) hE (by rw [sU_size, List.length_append]; simp; omega) ?_
  rw [sU_list, skp_0 (Gd.ds hd hn _)]
  have h := lx_im_end (l := ds ++ [105]) (j := 0) hd hn rfl
  rwa [if_pos (by omega)] at h
theorem pz_long {ds : List UInt8} {w : World} (hE : Lxe w) (hd : isDs ds) (hn : ds ≠ []) (hl : ds.length ≤ 80) (hN : 33554432 < decN ds) : Calls Tryz.prog 5 #[.string (sU (45 :: (ds ++ [105])))] w fun e W' => e = .returned (.tuple #[.agg #[I 0, I 0, I 0, I 0, I 0, .string E0, .string E0, .string E0, .bool false, .slice none 0 0], I 102, I (1 : Nat)]) ∧ G w W' := by
  refine pe_bad (by decide) hE (by rw [sU_size, List.length_cons, List.length_append]; simp; omega) ?_
  rw [sU_list, skp_0 (.inr ⟨45, _, rfl, by decide, by decide⟩)]
  exact lx_minus (o := .bad 102 (0 + 1)) (Gd.ds hd hn _) rfl (fun h => by
    have h := lx_im_end (j := 0 + 1) hd hn h
    rwa [if_pos (by omega)] at h)
def qT (a b : List UInt8) : List UInt8 := [114, 101, 116, 117, 114, 110] ++ 32 :: ([49] ++ 32 :: ([115, 107, 105, 112] ++ 32 :: (a ++ 32 :: ([108, 105, 109, 105, 116] ++ 32 :: b))))
theorem one_ds : isDs [49] := fun c hc => by simp at hc; subst hc; decide
theorem Gd.w (c : UInt8) (r : List UInt8) (h : (xB c || decide (c.toNat = 47)) = false) : Gd (c :: r) := .inr ⟨c, r, rfl, by simp at h; exact h.1, by simp at h; exact h.2⟩
theorem lx_pos {ds : List UInt8} (hd : isDs ds) (hn : ds ≠ []) (hN : decN ds ≤ 9223372036854775808) : ∃ p4 p5 p6, Lx NQ (qT ds ds) 0 (.ok [⟨2, sU [114, 101, 116, 117, 114, 110], 0⟩, tN [49] 7, ⟨2, sU [115, 107, 105, 112], 9⟩, tN ds 14, ⟨2, sU [108, 105, 109, 105, 116], p4⟩, tN ds p5, tE p6]) := by
  have hg : Gd ds := by simpa using Gd.ds hd hn []
  refine ⟨14 + ds.length + 1, 14 + ds.length + 1 + 5 + 1, 14 + ds.length + 1 + 5 + 1 + ds.length, ?_⟩
  exact lx_word [114, 101, 116, 117, 114, 110] (by decide) (by decide) (by decide) (by decide) (o := .ok [tN [49] 7, ⟨2, sU [115, 107, 105, 112], 9⟩, tN ds 14, ⟨2, sU [108, 105, 109, 105, 116], _⟩, tN ds _, tE _]) (Gd.w 49 _ (by decide)) rfl fun h1 =>
    lx_num_sp (j := 7) (o := .ok [⟨2, sU [115, 107, 105, 112], 9⟩, tN ds 14, ⟨2, sU [108, 105, 109, 105, 116], _⟩, tN ds _, tE _]) one_ds (by decide) (by decide) (Gd.w 115 _ (by decide)) h1 fun h2 =>
    lx_word (j := 9) [115, 107, 105, 112] (by decide) (by decide) (by decide) (by decide) (o := .ok [tN ds 14, ⟨2, sU [108, 105, 109, 105, 116], _⟩, tN ds _, tE _]) (Gd.ds hd hn _) h2 fun h3 =>
    lx_num_sp (j := 14) (o := .ok [⟨2, sU [108, 105, 109, 105, 116], _⟩, tN ds _, tE _]) hd hn hN (Gd.w 108 _ (by decide)) h3 fun h4 =>
    lx_word (j := 14 + ds.length + 1) [108, 105, 109, 105, 116] (by decide) (by decide) (by decide) (by decide) (o := .ok [tN ds _, tE _]) hg h4 fun h5 =>
    lx_num_end hd hn hN h5
theorem lx_neg {ds : List UInt8} (hd : isDs ds) (hn : ds ≠ []) (hN : decN ds ≤ 9223372036854775808) : ∃ p4 p5 p6 p7, Lx NQ (qT (45 :: ds) (45 :: ds)) 0 (.ok [⟨2, sU [114, 101, 116, 117, 114, 110], 0⟩, tN [49] 7, ⟨2, sU [115, 107, 105, 112], 9⟩, tM 14, tN ds 15, ⟨2, sU [108, 105, 109, 105, 116], p4⟩, tM p5, tN ds p6, tE p7]) := by
  have hg : Gd ds := by simpa using Gd.ds hd hn []
  refine ⟨15 + ds.length + 1, 15 + ds.length + 1 + 5 + 1, 15 + ds.length + 1 + 5 + 1 + 1, 15 + ds.length + 1 + 5 + 1 + 1 + ds.length, ?_⟩
  exact lx_word [114, 101, 116, 117, 114, 110] (by decide) (by decide) (by decide) (by decide) (o := .ok [tN [49] 7, ⟨2, sU [115, 107, 105, 112], 9⟩, tM 14, tN ds 15, ⟨2, sU [108, 105, 109, 105, 116], _⟩, tM _, tN ds _, tE _]) (Gd.w 49 _ (by decide)) rfl fun h1 =>
    lx_num_sp (j := 7) (o := .ok [⟨2, sU [115, 107, 105, 112], 9⟩, tM 14, tN ds 15, ⟨2, sU [108, 105, 109, 105, 116], _⟩, tM _, tN ds _, tE _]) one_ds (by decide) (by decide) (Gd.w 115 _ (by decide)) h1 fun h2 =>
    lx_word (j := 9) [115, 107, 105, 112] (by decide) (by decide) (by decide) (by decide) (o := .ok [tM 14, tN ds 15, ⟨2, sU [108, 105, 109, 105, 116], _⟩, tM _, tN ds _, tE _]) (Gd.w 45 _ (by decide)) h2 fun h3 =>
    lx_minus (j := 14) (o := .ok [tN ds 15, ⟨2, sU [108, 105, 109, 105, 116], _⟩, tM _, tN ds _, tE _]) (Gd.ds hd hn _) h3 fun h3b =>
    lx_num_sp (j := 15) (o := .ok [⟨2, sU [108, 105, 109, 105, 116], _⟩, tM _, tN ds _, tE _]) hd hn hN (Gd.w 108 _ (by decide)) h3b fun h4 =>
    lx_word (j := 15 + ds.length + 1) [108, 105, 109, 105, 116] (by decide) (by decide) (by decide) (by decide) (o := .ok [tM _, tN ds _, tE _]) (Gd.w 45 _ (by decide)) h4 fun h5 =>
    lx_minus (o := .ok [tN ds _, tE _]) hg h5 fun h6 =>
    lx_num_end hd hn hN h6
theorem qT_len (a b : List UInt8) : (qT a b).length = a.length + b.length + 21 := by simp [qT]; omega
theorem pp_pos {ds : List UInt8} {w : World} (hE : Lxe w) (hO : OpV w) (hd : isDs ds) (hn : ds ≠ []) (hl : ds.length ≤ 80) (hN : decN ds ≤ 9223372036854775807) : Calls Tryz.prog 7 #[.string (sU (qT ds ds))] w fun e W' => (∃ pb cap, e = .returned (.tuple #[.agg #[.slice (some ⟨pb, 0, none⟩) 1 cap], I 0, I 0]) ∧ PtM pb (decN ds : Nat) (decN ds : Nat) W' ∧ w.heap.size + 1 ≤ pb ∧ 1 ≤ cap) ∧ G w W' := by
  obtain ⟨p4, p5, p6, hL⟩ := lx_pos hd hn (by omega)
  have ho : OpT ([⟨2, sU [114, 101, 116, 117, 114, 110], 0⟩, tN [49] 7, ⟨2, sU [115, 107, 105, 112], 9⟩, tN ds 14, ⟨2, sU [108, 105, 109, 105, 116], p4⟩, tN ds p5, tE p6] : List Tok) 1 2 (decN (tN [49] 7).t.data.toList : Nat) 0 1 := OpT.num rfl (numT 7 one_ds (by decide) (by decide) (by decide)) (by rw [sU_list]; decide)
  have hst : StopT ⟨2, sU [115, 107, 105, 112], 9⟩ := stop_w [115, 107, 105, 112] 9 (by decide) (by decide) (by decide)
  have n49 : NumT (tN [49] 7) := numT 7 one_ds (by decide) (by decide) (by decide)
  have m49 : decN (tN [49] 7).t.data.toList ≤ 9223372036854775807 := by rw [sU_list]; decide
  have HL : ∀ (rb g : Nat), w.heap.size ≤ rb → ∀ W, Rd rb g [⟨2, sU [114, 101, 116, 117, 114, 110], 0⟩, tN [49] 7, ⟨2, sU [115, 107, 105, 112], 9⟩, tN ds 14, ⟨2, sU [108, 105, 109, 105, 116], p4⟩, tN ds p5, tE p6] 1 W → G w W → Calls Tryz.prog 81 #[ptr rb, .slice none 0 0, .int .i64 12, .func (.func 82) #[] #[], .func (.func 46) #[] #[]] W fun e W' => (∃ gb cap, e = .returned (.slice (some ⟨gb, 0, none⟩) 1 cap)) ∧ Rd rb g [⟨2, sU [114, 101, 116, 117, 114, 110], 0⟩, tN [49] 7, ⟨2, sU [115, 107, 105, 112], 9⟩, tN ds 14, ⟨2, sU [108, 105, 109, 105, 116], p4⟩, tN ds p5, tE p6] 2 W' ∧ Qr rb W W' := fun rb g hr W h g0 =>
    list_num h g0 rfl n49 m49 (j := 2) rfl (seB_w [115, 107, 105, 112] [44] 2 9 (by decide)) hr fun W h g0 => item_num h g0 (j := 2) rfl (seB_w [115, 107, 105, 112] [97, 115] 2 9 (by decide)) fun W h g0 => whole_num hO hr ho (x := ⟨2, sU [115, 107, 105, 112], 9⟩) rfl hst h g0
  have nT : ∀ p, NumT (tN ds p) := fun p => numT p hd hn (by omega) (by omega)
  have mT : ∀ p, decN (tN ds p).t.data.toList ≤ 9223372036854775807 := fun p => by rw [sU_list]; exact hN
  have HW : ∀ rb g W, w.heap.size ≤ rb → Rd rb g [⟨2, sU [114, 101, 116, 117, 114, 110], 0⟩, tN [49] 7, ⟨2, sU [115, 107, 105, 112], 9⟩, tN ds 14, ⟨2, sU [108, 105, 109, 105, 116], p4⟩, tN ds p5, tE p6] 0 W → G w W → Calls Tryz.prog 12 #[ptr rb] W fun e W' => (∃ pb cap, e = .returned (.agg #[.slice (some ⟨pb, 0, none⟩) 1 cap]) ∧ PtM pb (decN ds : Nat) (decN ds : Nat) W' ∧ W.heap.size ≤ pb ∧ 1 ≤ cap) ∧ Rd rb g [⟨2, sU [114, 101, 116, 117, 114, 110], 0⟩, tN [49] 7, ⟨2, sU [115, 107, 105, 112], 9⟩, tN ds 14, ⟨2, sU [108, 105, 109, 105, 116], p4⟩, tN ds p5, tE p6] 6 W' ∧ Qr rb W W' := fun rb g W hr h g0 =>
    query_ok h g0 hr (j := 6) rfl (seB_w [114, 101, 116, 117, 114, 110] [119, 105, 116, 104] 2 0 (by decide)) (fun W h => part_no h rfl (seB_all [114, 101, 116, 117, 114, 110] 2 0 [[111, 112, 116, 105, 111, 110, 97, 108], [109, 97, 116, 99, 104]] (by decide)) (seB_all [114, 101, 116, 117, 114, 110] 2 0 [[99, 114, 101, 97, 116, 101], [109, 101, 114, 103, 101], [115, 101, 116], [114, 101, 109, 111, 118, 101], [100, 101, 116, 97, 99, 104], [100, 101, 108, 101, 116, 101], [97, 98, 111, 114, 116]] (by decide))) fun W h g0 =>
      lp_ok h g0 hr (j := 6) rfl (seB_t [114, 101, 116, 117, 114, 110] 2 0 rfl) (by simp) fun W h g0 => by
        have := given_ok h g0 hr (j := 2) rfl rfl (HL rb g hr) (x1 := ⟨2, sU [115, 107, 105, 112], 9⟩) (x2 := tN ds 14) (x3 := ⟨2, sU [108, 105, 109, 105, 116], p4⟩) (x4 := tN ds p5) rfl (seB_w [115, 107, 105, 112] [111, 114, 100, 101, 114] 2 9 (by decide)) (seB_t [115, 107, 105, 112] 2 9 rfl) rfl (nT 14) (mT 14) rfl (seB_t [108, 105, 109, 105, 116] 2 p4 rfl) rfl (nT p5) (mT p5) (by simp)
        rwa [sU_list] at this
  have hs : (sU (qT ds ds)).size ≤ 4096 := by rw [sU_size, qT_len]; omega
  have hlx := lex_ok (ts := [⟨2, sU [114, 101, 116, 117, 114, 110], 0⟩, tN [49] 7, ⟨2, sU [115, 107, 105, 112], 9⟩, tN ds 14, ⟨2, sU [108, 105, 109, 105, 116], p4⟩, tN ds p5, tE p6]) hE hs (by simp) (by rw [sU_list, skp_0 (show Gd (qT _ _) from Gd.w 114 _ (by decide))]; exact hL)
  exact pq_ok fun W g hz => (cauq_ok g hlx (by simp) (by simp) (j := 6) rfl rfl HW).mono (by
    rintro e w' ⟨⟨pb, cap, he, hpm, hpb, hcp⟩, hg⟩
    exact ⟨⟨pb, cap, he, hpm, by omega, hcp⟩, hg⟩)
theorem pp_neg {ds : List UInt8} {w : World} (hE : Lxe w) (hO : OpV w) (hd : isDs ds) (hn : ds ≠ []) (hl : ds.length ≤ 80) (hN : decN ds ≤ 9223372036854775808) : Calls Tryz.prog 7 #[.string (sU (qT (45 :: ds) (45 :: ds)))] w fun e W' => (∃ pp, e = .returned (.tuple #[.agg #[.slice none 0 0], I 101, I pp])) ∧ G w W' := by
  obtain ⟨p4, p5, p6, p7, hL⟩ := lx_neg hd hn hN
  have ho : OpT ([⟨2, sU [114, 101, 116, 117, 114, 110], 0⟩, tN [49] 7, ⟨2, sU [115, 107, 105, 112], 9⟩, tM 14, tN ds 15, ⟨2, sU [108, 105, 109, 105, 116], p4⟩, tM p5, tN ds p6, tE p7] : List Tok) 1 2 (decN (tN [49] 7).t.data.toList : Nat) 0 1 := OpT.num rfl (numT 7 one_ds (by decide) (by decide) (by decide)) (by rw [sU_list]; decide)
  have hst : StopT ⟨2, sU [115, 107, 105, 112], 9⟩ := stop_w [115, 107, 105, 112] 9 (by decide) (by decide) (by decide)
  have n49 : NumT (tN [49] 7) := numT 7 one_ds (by decide) (by decide) (by decide)
  have m49 : decN (tN [49] 7).t.data.toList ≤ 9223372036854775807 := by rw [sU_list]; decide
  have HL : ∀ (rb g : Nat), w.heap.size ≤ rb → ∀ W, Rd rb g [⟨2, sU [114, 101, 116, 117, 114, 110], 0⟩, tN [49] 7, ⟨2, sU [115, 107, 105, 112], 9⟩, tM 14, tN ds 15, ⟨2, sU [108, 105, 109, 105, 116], p4⟩, tM p5, tN ds p6, tE p7] 1 W → G w W → Calls Tryz.prog 81 #[ptr rb, .slice none 0 0, .int .i64 12, .func (.func 82) #[] #[], .func (.func 46) #[] #[]] W fun e W' => (∃ gb cap, e = .returned (.slice (some ⟨gb, 0, none⟩) 1 cap)) ∧ Rd rb g [⟨2, sU [114, 101, 116, 117, 114, 110], 0⟩, tN [49] 7, ⟨2, sU [115, 107, 105, 112], 9⟩, tM 14, tN ds 15, ⟨2, sU [108, 105, 109, 105, 116], p4⟩, tM p5, tN ds p6, tE p7] 2 W' ∧ Qr rb W W' := fun rb g hr W h g0 =>
    list_num h g0 rfl n49 m49 (j := 2) rfl (seB_w [115, 107, 105, 112] [44] 2 9 (by decide)) hr fun W h g0 => item_num h g0 (j := 2) rfl (seB_w [115, 107, 105, 112] [97, 115] 2 9 (by decide)) fun W h g0 => whole_num hO hr ho (x := ⟨2, sU [115, 107, 105, 112], 9⟩) rfl hst h g0
  have HW : ∀ rb g W, w.heap.size ≤ rb → Rd rb g [⟨2, sU [114, 101, 116, 117, 114, 110], 0⟩, tN [49] 7, ⟨2, sU [115, 107, 105, 112], 9⟩, tM 14, tN ds 15, ⟨2, sU [108, 105, 109, 105, 116], p4⟩, tM p5, tN ds p6, tE p7] 0 W → G w W → Calls Tryz.prog 12 #[ptr rb] W fun e W' => (∃ pp, e = .panicked [{ v := .iface 55 (.agg #[I 101, I pp]), recovered := false }]) ∧ Qr rb W W' := fun rb g W hr h g0 =>
    query_no h g0 hr rfl (seB_w [114, 101, 116, 117, 114, 110] [119, 105, 116, 104] 2 0 (by decide)) (fun W h => part_no h rfl (seB_all [114, 101, 116, 117, 114, 110] 2 0 [[111, 112, 116, 105, 111, 110, 97, 108], [109, 97, 116, 99, 104]] (by decide)) (seB_all [114, 101, 116, 117, 114, 110] 2 0 [[99, 114, 101, 97, 116, 101], [109, 101, 114, 103, 101], [115, 101, 116], [114, 101, 109, 111, 118, 101], [100, 101, 116, 97, 99, 104], [100, 101, 108, 101, 116, 101], [97, 98, 111, 114, 116]] (by decide))) fun W h g0 =>
      lp_no h g0 hr rfl (seB_t [114, 101, 116, 117, 114, 110] 2 0 rfl) (by simp) fun W h g0 =>
        given_no h g0 hr (j := 2) rfl rfl (HL rb g hr) (x1 := ⟨2, sU [115, 107, 105, 112], 9⟩) (x2 := tM 14) rfl (seB_w [115, 107, 105, 112] [111, 114, 100, 101, 114] 2 9 (by decide)) (seB_t [115, 107, 105, 112] 2 9 rfl) rfl (by decide) (by show (sU [45]).size ≤ _; rw [sU_size]; decide) hE.e (by simp)
  have hs : (sU (qT (45 :: ds) (45 :: ds))).size ≤ 4096 := by rw [sU_size, qT_len, List.length_cons]; omega
  have hlx := lex_ok (ts := [⟨2, sU [114, 101, 116, 117, 114, 110], 0⟩, tN [49] 7, ⟨2, sU [115, 107, 105, 112], 9⟩, tM 14, tN ds 15, ⟨2, sU [108, 105, 109, 105, 116], p4⟩, tM p5, tN ds p6, tE p7]) hE hs (by simp) (by rw [sU_list, skp_0 (show Gd (qT _ _) from Gd.w 114 _ (by decide))]; exact hL)
  exact pq_no fun W g _ => cauq_no g hlx (by simp) (by simp) HW
end Go.Proofs.YthpflfkgbapbnaaGreatDoor
