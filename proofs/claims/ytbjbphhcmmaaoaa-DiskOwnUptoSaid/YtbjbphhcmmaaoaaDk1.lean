/- Disks: spend, has, Sectors, Cut. -/
import Derived.Test.YtbjbphhcmmaaoaaDk0
namespace Go.Proofs.Ytbjbphhcmmaaoaa
open Go.RowKit

theorem chg1 (w : World) (p o : Nat) (v : Value) : Chg (fun k => k = p) w (w.setCell ⟨p, o, none⟩ v) := chg_setCell w v (.inl rfl)
/-- The disk behind an operation that was let through, or not. -/
def DM.spent (m : DM) : DM × Bool := if m.off then (m, false) else match m.fuse with | none => (m, true) | some 0 => ({ m with off := true, fuse := none }, false) | some (k + 1) => ({ m with fuse := some k }, true)
set_option maxRecDepth 100000 in
set_option maxHeartbeats 2000000 in
theorem spend_any (m : DM) (hok : m.ok) (ls ps : Value) (p : Nat) (w : World) (hb : Blk w p 79 (headC m ls ps)) : Calls Try.prog 51 #[.pointer (some ⟨p, 2, none⟩)] w fun e w' => e = .returned (.bool m.spent.2) ∧ Blk w' p 79 (headC m.spent.1 ls ps) ∧ Chg (fun k => k = p) w w' ∧ w'.heap.size = w.heap.size := by
  obtain ⟨n, laid, pend, off, fuse, wr, fl⟩ := m
  have ho := hok.o
  have hf := hok.f
  have HB := hide (hb)
  have hc := hb.cell
  have hz := hb.frozen
  clear hb hok
  simp only at ho hf
  cases off with
  | true =>
    obtain rfl := ho rfl
    clear hf ho
    simp only [headC, fuseI, Option.isSome_none] at hc
    go_enter Try.func51, Try.ntmps51
    go_wp2
    go_ret
    exact ⟨rfl, HB.out, Chg.refl _ _, rfl⟩
  | false =>
    cases fuse with
    | none =>
      clear hf ho
      simp only [headC, fuseI, Option.isSome_none] at hc
      go_enter Try.func51, Try.ntmps51
      go_wp2
      go_ret
      exact ⟨rfl, HB.out, Chg.refl _ _, rfl⟩
    | some k =>
      have hk := hf k rfl
      clear hf ho
      simp only [headC, fuseI, Option.isSome_some] at hc
      cases k with
      | zero =>
        clear hk
        go_enter Try.func51, Try.ntmps51
        go_wp2
        go_ret
        refine ⟨rfl, ?_, ((chg1 _ _ _ _).trans (chg1 _ _ _ _)).trans (chg1 _ _ _ _), by simp⟩
        exact (((HB.out.set 2 _).set 3 _).set 4 _)
      | succ k =>
        obtain ⟨z, hz1⟩ : ∃ z : Int, z = ((k + 1 : Nat) : Int) := ⟨_, rfl⟩
        rw [← hz1] at hc
        have h1 : 1 ≤ z := by omega
        have h2 : z ≤ 9223372036854775807 := by omega
        have HZ := hide (hz1)
        clear hk hz1
        go_enter Try.func51, Try.ntmps51
        go_wp2
        go_ret
        refine ⟨rfl, ?_, chg1 _ _ _ _, by simp⟩
        have := HB.out.set 4 (I k)
        rw [show z - 1 = (k : Int) by have := HZ.out; omega]
        exact this
theorem Blk.headC {w : World} {p : Nat} {m : DM} {ls ps : Value} (hb : Blk w p 79 (headC m ls ps)) : ∀ o, w.cell? ⟨p, o, none⟩ = [ls, ps, .bool m.off, .bool m.fuse.isSome, I (fuseI m), I m.writes, I m.flushes][o]? := hb.cell
set_option maxRecDepth 100000 in
set_option maxHeartbeats 2000000 in
theorem has_any (m : DM) (hok : m.ok) (lb : Nat) (ps : Value) (p : Nat) (at' : Int) (w : World) (hb : Blk w p 79 (headC m (.slice (some ⟨lb, 0, none⟩) m.n m.n) ps)) : Calls Try.prog 30 #[.pointer (some ⟨p, 0, none⟩), .int .i64 at'] w fun e w' => e = .returned (.bool (decide (0 ≤ at') && decide (at' < m.n))) ∧ w' = w := by
  have hc := hb.headC
  have h2 := hok.n2
  clear hb hok
  generalize m.n = n at *
  by_cases h : 0 ≤ at'
  · go_enter Try.func30, Try.ntmps30
    go_wp2
    go_ret
    exact ⟨by simp [h], rfl⟩
  · have h' : at' < 0 := by omega
    go_enter Try.func30, Try.ntmps30
    go_wp2
    go_ret
    exact ⟨by simp; omega, rfl⟩
set_option maxRecDepth 100000 in
set_option maxHeartbeats 2000000 in
theorem sectors_any (F : Nat → Prop) (m : DM) (p : Nat) (w : World) (h : PD w F p m) : Calls Try.prog 14 #[.pointer (some ⟨p, 0, none⟩)] w fun e w' => e = .returned (.int .i64 m.n) ∧ w' = w := by
  obtain ⟨_, ⟨lb, ps, hb, _⟩, _⟩ := h
  have hc := hb.headC
  clear hb
  go_enter Try.func14, Try.ntmps14
  go_wp2
  go_ret
  exact ⟨rfl, rfl⟩
set_option maxRecDepth 100000 in
set_option maxHeartbeats 2000000 in
theorem sectors_nil (w : World) : Calls Try.prog 14 #[.pointer none] w fun e w' => e = .returned (.int .i64 0) ∧ w' = w := by
  go_enter Try.func14, Try.ntmps14
  go_wp2
  go_ret
  exact ⟨rfl, rfl⟩
/-- Cut: the disk behind it, and the answer. -/
def DM.cut (m : DM) (n : Int) : DM × Int := if n < 0 then (m, 1) else if m.off then (m, 2) else ({ m with fuse := some n.toNat }, 0)
theorem PD.head {w w' : World} {F : Nat → Prop} {p : Nat} {m m' : DM} {lb : Nat} {ps : Value} (h : PD w F p m) (hb : Blk w p 79 (Go.Proofs.Ytbjbphhcmmaaoaa.headC m (.slice (some ⟨lb, 0, none⟩) m.n m.n) ps)) (k : Chg (fun k => k = p) w w') (hb' : Blk w' p 79 (Go.Proofs.Ytbjbphhcmmaaoaa.headC m' (.slice (some ⟨lb, 0, none⟩) m.n m.n) ps)) (hok : m'.ok) (h1 : m'.n = m.n) (h2 : m'.laid = m.laid) (h3 : m'.pend = m.pend) : PD w' F p m' := by
  obtain ⟨ok, ⟨lb', ps', q1, q2, q3, q4, q5⟩, f⟩ := h
  have := (q1.type hb).2
  simp [Go.Proofs.Ytbjbphhcmmaaoaa.headC] at this
  obtain ⟨rfl, rfl⟩ := this
  refine ⟨hok, ⟨lb', ps', ?_, ?_, ?_, q4, q5⟩, f⟩
  · rw [h1]; exact hb'
  · rw [h2]; exact q2.chg k (fun e => by subst e; exact absurd (q2.type q1).1 (by decide))
  · rw [h3]; exact own_chg q3 k (fun g hg e => by subst e; exact own_ne q3 q1 (by decide) hg)
set_option maxRecDepth 100000 in
set_option maxHeartbeats 2000000 in
theorem cut_any (F : Nat → Prop) (m : DM) (p : Nat) (n : Int) (hn : n ≤ 9223372036854775807) (w : World) (h : PD w F p m) : Calls Try.prog 26 #[.pointer (some ⟨p, 0, none⟩), .int .i64 n] w fun e w' => e = .returned (.int .i64 (m.cut n).2) ∧ PD w' F p (m.cut n).1 ∧ Chg F w w' ∧ w'.heap.size = w.heap.size := by
  have HP := hide (h)
  obtain ⟨ok, ⟨lb, ps, hb, _⟩, hf⟩ := h
  have HB := hide (hb)
  have HF := hide (hf)
  have HO := hide (ok)
  have hc := hb.headC
  have hz := hb.frozen
  clear hb ok hf
  by_cases h0 : n < 0
  · have e1 : m.cut n = (m, 1) := by simp [DM.cut, h0]
    rw [e1]
    clear e1
    go_enter Try.func26, Try.ntmps26
    go_wp2
    go_ret
    exact ⟨rfl, HP.out, Chg.refl _ _, rfl⟩
  · cases ho : m.off with
    | true =>
      have e1 : m.cut n = (m, 2) := by simp [DM.cut, h0, ho]
      rw [e1]
      clear e1
      rw [ho] at hc
      go_enter Try.func26, Try.ntmps26
      go_wp2
      go_ret
      exact ⟨rfl, HP.out, Chg.refl _ _, rfl⟩
    | false =>
      have e1 : m.cut n = ({ m with fuse := some n.toNat }, 0) := by simp [DM.cut, h0, ho]
      rw [e1]
      clear e1
      have HO1 := hide (ho)
      rw [ho] at hc
      clear ho
      go_enter Try.func26, Try.ntmps26
      go_wp2
      go_ret
      have hch : Chg (fun k => k = p) w (((w.setCell ⟨p, 2, none⟩ (.bool false)).setCell ⟨p, 3, none⟩ (.bool true)).setCell ⟨p, 4, none⟩ (.int .i64 n)) := ((chg1 _ _ _ _).trans (chg1 _ _ _ _)).trans (chg1 _ _ _ _)
      refine ⟨rfl, HP.out.head HB.out hch ?_ ?_ rfl rfl rfl, hch.mono (fun k e => by subst e; exact HF.out), by simp⟩
      · have := ((HB.out.set 2 (.bool false)).set 3 (.bool true)).set 4 (.int .i64 n)
        simp only [headC, List.set_cons_succ, List.set_cons_zero] at this ⊢
        rw [HO1.out]
        simp only [fuseI, Option.isSome_some, show ((n.toNat : Nat) : Int) = n by omega]
        exact this
      · have q := HO.out
        exact ⟨q.n1, q.n2, q.ll, q.lb, q.p, fun e => absurd (HO1.out.symm.trans e) (by decide), fun k e => by have : n.toNat = k := Option.some.inj e; omega⟩
set_option maxRecDepth 100000 in
set_option maxHeartbeats 2000000 in
theorem cut_nil (n : Int) (w : World) : Calls Try.prog 26 #[.pointer none, .int .i64 n] w fun e w' => e = .returned (.int .i64 1) ∧ w' = w := by
  go_enter Try.func26, Try.ntmps26
  go_wp2
  go_ret
  exact ⟨rfl, rfl⟩
end Go.Proofs.Ytbjbphhcmmaaoaa
