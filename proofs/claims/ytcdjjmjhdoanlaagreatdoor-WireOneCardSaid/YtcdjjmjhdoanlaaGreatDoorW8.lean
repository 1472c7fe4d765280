/- Wire: numbers and texts. -/
import Derived.Test.YtcdjjmjhdoanlaaGreatDoorW4
import Derived.Laws.Bits64
import Derived.Lib.AppendStr
namespace Go.Proofs.YtcdjjmjhdoanlaaGreatDoor
section
section
open Go.RowKit

/-- What B has besides writers and bytes is as it was. -/
def Kp (B w : World) : Prop := ∀ (k : Nat) (cs : Array Value) (t : TypeId) (fz : Nat × Nat), B.heap[k]? = some (Obj.cells cs t fz) → t ≠ 67 → t ≠ 5 → w.heap[k]? = B.heap[k]?
theorem Kp.refl (w : World) : Kp w w := fun _ _ _ _ _ _ _ => rfl
theorem Kp.trans {a b c : World} (h : Kp a b) (k : Kp b c) : Kp a c := fun i cs t fz hi h1 h2 => by
  have e := h i cs t fz hi h1 h2
  rw [← e]
  exact k i cs t fz (e.trans hi) h1 h2
theorem Kp.of_G {a b : World} (h : G a b) : Kp a b := fun i _ _ _ hi _ _ => h.block i (Array.getElem?_eq_some_iff.1 hi).1
theorem Kp.chg {B w w' : World} {v : Value} {l : List Nat} (h : Kp B w) (hs : SwB w v l) (hc : Chg (fun k => v.ownBlock = some k) w w') : Kp B w' := fun i cs t fz hi h1 h2 => by
  have e := h i cs t fz hi h1 h2
  rw [← e]
  refine hc.block i (Array.getElem?_eq_some_iff.1 (e.trans hi)).1 (fun q => ?_)
  rcases hs with ⟨rfl, _⟩ | ⟨g, cap, rest, rfl, hb, _⟩
  · simp [Value.ownBlock] at q
  · simp [Value.ownBlock] at q
    subst q
    have := hb.h
    rw [e, hi] at this
    simp at this
    exact h2 this.2.1
theorem Kp.set {B w : World} {b o : Nat} {xs : List Value} (h : Kp B w) (hb : Blk w b 67 xs) (u : Value) : Kp B (w.setCell ⟨b, o, none⟩ u) := fun i cs t fz hi h1 h2 => by
  have e := h i cs t fz hi h1 h2
  rw [← e]
  refine Below.heap_setCell _ _ _ _ (fun q => ?_)
  subst q
  have := hb.h
  rw [e, hi] at this
  simp at this
  exact h1 this.2.1
theorem Kp.blk {B w : World} {k : Nat} {t : TypeId} {xs : List Value} (h : Kp B w) (hb : Blk B k t xs) (h1 : t ≠ 67) (h2 : t ≠ 5) : Blk w k t xs := ⟨(h k _ t _ hb.h h1 h2).trans hb.h⟩
/-- The writer at block b holds l; nothing older than W0 has turned. -/
structure Wr (W0 B w : World) (b : Nat) (l : List Nat) (bad : Bool) : Prop where
  g : G W0 w
  hb : W0.heap.size ≤ b
  len : l.length ≤ 2097152
  h : ∃ v, Blk w b 67 [v, .bool bad] ∧ SwB w v l ∧ Fresh W0 v
  k : Kp B w
/-- The same; none: it is bad. -/
def Wst (W0 B w : World) (b : Nat) (s : Option (List Nat)) : Prop := match s with | some l => Wr W0 B w b l false | none => ∃ l, Wr W0 B w b l true
/-- Some more bytes. -/
def wap (s o : Option (List Nat)) : Option (List Nat) := s.bind fun l => o.bind fun bs => if l.length + bs.length ≤ 2097152 then some (l ++ bs) else none
def cat (a b : Option (List Nat)) : Option (List Nat) := a.bind fun x => b.bind fun y => some (x ++ y)
theorem wap_cat (s a b : Option (List Nat)) : wap (wap s a) b = wap s (cat a b) := by
  cases s with
  | none => rfl
  | some l =>
    cases a with
    | none => rfl
    | some x =>
      cases b with
      | none =>
        show (if _ then some (l ++ x) else none : Option (List Nat)).bind _ = none
        split <;> rfl
      | some y =>
        show (if _ then some (l ++ x) else none : Option (List Nat)).bind _ = if l.length + (x ++ y).length ≤ 2097152 then some (l ++ (x ++ y)) else none
        by_cases h : l.length + x.length ≤ 2097152
        · rw [if_pos h]
          show (if (l ++ x).length + y.length ≤ 2097152 then some (l ++ x ++ y) else none) = _
          rw [List.length_append, List.length_append, List.append_assoc, Nat.add_assoc]
        · rw [if_neg h, if_neg (by rw [List.length_append]; omega)]; rfl
theorem wap_nil (s : Option (List Nat)) (h : ∀ l, s = some l → l.length ≤ 2097152) : wap s (some []) = s := by
  cases s with
  | none => rfl
  | some l =>
    show (if l.length + 0 ≤ 2097152 then some (l ++ []) else none) = _
    rw [Nat.add_zero, if_pos (h l rfl), List.append_nil]
theorem Wst.len {W0 B w : World} {b : Nat} {s : Option (List Nat)} (h : Wst W0 B w b s) : ∀ l, s = some l → l.length ≤ 2097152 := fun l e => by subst e; exact Wr.len h
theorem Wst.wr {W0 B w : World} {b : Nat} {s : Option (List Nat)} (h : Wst W0 B w b s) : ∃ l bad, Wr W0 B w b l bad ∧ (bad = true ∧ s = none ∨ bad = false ∧ s = some l) := by
  cases s with
  | none => obtain ⟨l, h⟩ := h; exact ⟨l, true, h, .inl ⟨rfl, rfl⟩⟩
  | some l => exact ⟨l, false, h, .inr ⟨rfl, rfl⟩⟩
theorem Wst.rebase {W0 B w : World} {b : Nat} {s : Option (List Nat)} (h : Wst W0 B w b s) : Wst W0 w w b s ∧ Kp B w := by
  cases s with
  | none => obtain ⟨l, h⟩ := h; exact ⟨⟨l, h.g, h.hb, h.len, h.h, Kp.refl _⟩, h.k⟩
  | some l => exact ⟨⟨Wr.g h, Wr.hb h, Wr.len h, Wr.h h, Kp.refl _⟩, Wr.k h⟩
theorem Wst.base {W0 B B' w : World} {b : Nat} {s : Option (List Nat)} (h : Wst W0 B w b s) (k : Kp B' B) : Wst W0 B' w b s := by
  cases s with
  | none => obtain ⟨l, h⟩ := h; exact ⟨l, h.g, h.hb, h.len, h.h, k.trans h.k⟩
  | some l => exact ⟨Wr.g h, Wr.hb h, Wr.len h, Wr.h h, k.trans (Wr.k h)⟩
theorem Wst.k {W0 B w : World} {b : Nat} {s : Option (List Nat)} (h : Wst W0 B w b s) : Kp B w := h.rebase.2
theorem Wst.g {W0 B w : World} {b : Nat} {s : Option (List Nat)} (h : Wst W0 B w b s) : G W0 w := by obtain ⟨l, bad, q, _⟩ := h.wr; exact q.g
theorem Wst.hb {W0 B w : World} {b : Nat} {s : Option (List Nat)} (h : Wst W0 B w b s) : W0.heap.size ≤ b := by obtain ⟨l, bad, q, _⟩ := h.wr; exact q.hb
theorem Wr.G {W0 B w w' : World} {b : Nat} {l : List Nat} {bad : Bool} (h : Wr W0 B w b l bad) (k : Go.Proofs.YtcdjjmjhdoanlaaGreatDoor.G w w') : Wr W0 B w' b l bad := by
  obtain ⟨g, hb, hl, ⟨v, h1, h2, h3⟩, kp⟩ := h
  exact ⟨g.trans k, hb, hl, ⟨v, h1.G k, h2.G k, h3⟩, kp.trans (Kp.of_G k)⟩
theorem Wst.G {W0 B w w' : World} {b : Nat} {s : Option (List Nat)} (h : Wst W0 B w b s) (k : Go.Proofs.YtcdjjmjhdoanlaaGreatDoor.G w w') : Wst W0 B w' b s := by
  cases s with
  | none => obtain ⟨l, h⟩ := h; exact ⟨l, h.G k⟩
  | some l => exact Wr.G h k
/-- It becomes bad. -/
theorem Wr.spoil {W0 B w : World} {b : Nat} {l : List Nat} {bad : Bool} (h : Wr W0 B w b l bad) : Wr W0 B (w.setCell ⟨b, 1, none⟩ (.bool true)) b l true := by
  obtain ⟨g, hb, hl, ⟨v, h1, h2, h3⟩, kp⟩ := h
  refine ⟨g.setCell hb _, hb, hl, ⟨v, h1.set 1 _, h2.off (h2.ne h1 (by decide)), h3⟩, kp.set h1 _⟩
/-- The list of bytes was changed. -/
theorem Wr.put {W0 B w w' : World} {b : Nat} {v v' : Value} {l l' : List Nat} {bad : Bool} (kp : Kp B w) (g : Go.Proofs.YtcdjjmjhdoanlaaGreatDoor.G W0 w) (hb : W0.heap.size ≤ b) (h1 : Blk w b 67 [v, .bool bad]) (hs : SwB w v l) (hf : Fresh W0 v)
    (hs' : SwB w' v' l') (hch : Chg (fun k => v.ownBlock = some k) w w') (hob : v'.ownBlock = v.ownBlock ∨ v'.ownBlock = some w.heap.size) (hl : l'.length ≤ 2097152) : Wr W0 B (w'.setCell ⟨b, 0, none⟩ v') b l' bad := by
  obtain ⟨f2, g2⟩ := hf.app g hch hob
  have hnb : v.ownBlock ≠ some b := hs.ne h1 (by decide)
  have h1' : Blk w' b 67 [v, .bool bad] := h1.chg hch hnb
  exact ⟨g2.setCell hb _, hb, hl, ⟨v', h1'.set 0 _, hs'.off (hs'.ne h1' (by decide)), f2⟩, (kp.chg hs hch).set h1' _⟩
def FitP (W0 B w : World) (b : Nat) (l : List Nat) (bad : Bool) (n : Nat) (e : Ending) (w' : World) : Prop :=
  (bad = false ∧ l.length + n ≤ 2097152 ∧ e = .returned (.bool true) ∧ w' = w) ∨ ((bad = true ∨ 2097152 < l.length + n) ∧ e = .returned (.bool false) ∧ Wr W0 B w' b l true)
set_option maxRecDepth 100000 in
set_option maxHeartbeats 1000000 in
theorem fits_any (W0 B w : World) (b : Nat) (l : List Nat) (bad : Bool) (n : Nat) (h : Wr W0 B w b l bad) :
    Calls Tryz.prog 80 #[ptr b, I n] w (FitP W0 B w b l bad n) := by
  have hw := h
  obtain ⟨g, hb, hl, ⟨v, h1, h2, h3⟩, kp⟩ := h
  obtain ⟨a, c, rfl⟩ := h2.form
  have hc := h1.cell
  have hf := h1.frozen
  have e1 : wrap64 (2097152 - (l.length : Int)) = 2097152 - (l.length : Int) := by unfold wrap64; omega
  by_cases c1 : 2097152 < l.length + n
  · have d1 : (2097152 - (l.length : Int)) < (n : Int) := by omega
    have HW := hide (hw.spoil)
    have HC := hide c1
    clear g hb hl h1 h2 h3 hw c1 kp
    go_enter Tryz.func80, Tryz.ntmps80
    go_wp2_with fail
    go_ret
    exact .inr ⟨.inr HC.out, rfl, HW.out⟩
  · have d1 : ¬ (2097152 - (l.length : Int)) < (n : Int) := by omega
    have HW := hide hw
    have HC : Hid (l.length + n ≤ 2097152) := by show _ ≤ _; omega
    clear g hb hl h1 h2 h3 hw c1 kp
    cases bad with
    | true =>
      go_enter Tryz.func80, Tryz.ntmps80
      go_wp2_with fail
      go_ret
      exact .inr ⟨.inl rfl, rfl, HW.out⟩
    | false =>
      go_enter Tryz.func80, Tryz.ntmps80
      go_wp2_with fail
      go_ret
      exact .inl ⟨rfl, HC.out, rfl, rfl⟩
set_option maxRecDepth 100000 in
set_option maxHeartbeats 1000000 in
theorem put_any (W0 B w : World) (b : Nat) (s : Option (List Nat)) (x : Value) (bs : List Nat) (h : Wst W0 B w b s) (hx : Rb w x bs) :
    Calls Tryz.prog 81 #[ptr b, x] w fun e w' => e = .returned (.tuple #[]) ∧ Wst W0 B w' b (wap s (some bs)) := by
  obtain ⟨p, cap, rfl⟩ := hx.form
  obtain ⟨l, bad, hw, hs⟩ := h.wr
  have KF := hide (fits_any W0 B w b l bad bs.length hw)
  have HX := hide hx
  have HW := hide hw
  have HS := hide hs
  clear h hw hx hs
  go_enter Tryz.func81, Tryz.ntmps81
  go_wp2_with fail
  refine KF.out.mono ?_
  rintro e w1 (⟨rfl, hl, rfl, rfl⟩ | ⟨hc, rfl, hw1⟩)
  · obtain ⟨g, hb, hl2, ⟨v, h1, h2, h3⟩, kp⟩ := HW.out
    obtain ⟨v', w', hr, hs', hch, hob⟩ := app_B 23 h2 HX.out (by omega)
    have HR := hide hr
    have hc := h1.cell
    have h1' : Blk w' b 67 [v, .bool false] := h1.chg hch (h2.ne h1 (by decide))
    have hc' := h1'.cell
    have hf' := h1'.frozen
    have HF : Hid (Wst W0 B (w'.setCell ⟨b, 0, none⟩ v') b (wap s (some bs))) := by
      have es : s = some l := by rcases HS.out with ⟨q, _⟩ | ⟨_, q⟩; cases q; exact q
      show Wst _ _ _ _ _
      rw [es]
      show Wst W0 B _ b (if l.length + bs.length ≤ 2097152 then some (l ++ bs) else none)
      rw [if_pos hl]
      exact Wr.put kp g hb h1 h2 h3 hs' hch hob (by rw [List.length_append]; exact hl)
    obtain ⟨a', c', hv'⟩ := hs'.form
    obtain ⟨n', hn'⟩ : ∃ n', n' = (l ++ bs).length := ⟨_, rfl⟩
    rw [← hn'] at hv'
    subst hv'
    obtain ⟨a, c, hv⟩ := h2.form
    subst hv
    clear g hb hl2 h1 h2 h3 hr hs' hch hob h1' KF HW hl hn' kp
    go_wp2_with (first | (at_builtin; refine wpList_append_run rfl _ _ 23 rfl (.slice a l.length c) (.slice p bs.length cap) rfl rfl HR.out ?_) | fail)
    exact ⟨rfl, _, results_none rfl _ _ _, rfl, HF.out⟩
  · have HF : Hid (Wst W0 B w1 b (wap s (some bs))) := by
      rcases HS.out with ⟨_, q⟩ | ⟨q0, q⟩
      · show Wst _ _ _ _ _
        rw [q]; exact ⟨l, hw1⟩
      · show Wst _ _ _ _ _
        rw [q]
        show Wst W0 B _ b (if l.length + bs.length ≤ 2097152 then some (l ++ bs) else none)
        rw [if_neg (by rcases hc with q1 | q1; · rw [q0] at q1; cases q1
                       · omega)]
        exact ⟨l, hw1⟩
    clear hc hw1 KF HW HS HX
    go_wp2_with fail
    exact ⟨rfl, _, results_none rfl _ _ _, rfl, HF.out⟩
end
open Go.RowKit

/-- The higher groups of a count; all of it. -/
def cntH (n : Nat) : List Nat := if _h : n = 0 then [] else cntH (n / 128) ++ [n % 128 + 128]
termination_by n
decreasing_by omega
def cnt (n : Nat) : List Nat := cntH (n / 128) ++ [n % 128]
theorem cntH_zero : cntH 0 = [] := by rw [cntH]; simp
theorem cntH_pos (n : Nat) (h : 0 < n) : cntH n = cntH (n / 128) ++ [n % 128 + 128] := by rw [cntH, dif_neg (by omega)]
theorem cntH_len : ∀ (k n : Nat), n < 128 ^ k → (cntH n).length ≤ k
  | 0, n, h => by
    have : n = 0 := by simp at h; exact h
    subst this; rw [cntH_zero]; exact Nat.le_refl _
  | k + 1, n, h => by
    by_cases h0 : n = 0
    · subst h0; rw [cntH_zero]; exact Nat.zero_le _
    · rw [cntH_pos n (by omega), List.length_append]
      have := cntH_len k (n / 128) (by rw [Nat.pow_succ] at h; exact Nat.div_lt_of_lt_mul (by rw [Nat.mul_comm]; exact h))
      simp; omega
theorem cnt_len (n : Nat) (h : n < 18446744073709551616) : 1 ≤ (cnt n).length ∧ (cnt n).length ≤ 10 := by
  have := cntH_len 9 (n / 128) (by have : (128 : Nat) ^ 9 = 9223372036854775808 := by decide
                                   omega)
  rw [cnt, List.length_append]
  simp; omega
theorem cntH_by (n : Nat) : By (cntH n) := by
  induction n using cntH.induct with
  | case1 => rw [cntH_zero]; intro x hx; simp at hx
  | case2 n h ih =>
    rw [cntH_pos n (by omega)]
    exact ih.app (fun x hx => by simp at hx; omega)
theorem cnt_by (n : Nat) : By (cnt n) := (cntH_by _).app (fun x hx => by simp at hx; omega)
/-- While a count is written: n is what is left, T what stands there. -/
structure CwI (N n : Nat) (Tl : List Nat) : Prop where
  e : cntH n ++ Tl = cnt N
  hN : N < 18446744073709551616
  l1 : 1 ≤ Tl.length
  le : n ≤ N
theorem CwI.room {N n : Nat} {Tl : List Nat} (h : CwI N n Tl) (hn : 0 < n) : Tl.length ≤ 9 := by
  have h1 := (cnt_len N h.hN).2
  rw [← h.e, cntH_pos n hn] at h1
  simp at h1
  omega
theorem CwI.len {N n : Nat} {Tl : List Nat} (h : CwI N n Tl) : Tl.length ≤ 10 := by
  have h1 := (cnt_len N h.hN).2
  rw [← h.e] at h1
  simp at h1
  omega
theorem CwI.step {N n : Nat} {Tl : List Nat} (h : CwI N n Tl) (hn : 0 < n) : CwI N (n / 128) ((n % 128 + 128) :: Tl) := by
  refine ⟨?_, h.hN, by simp, Nat.le_trans (Nat.div_le_self _ _) h.le⟩
  have := h.e
  rw [cntH_pos n hn, List.append_assoc] at this
  exact this
theorem CwI.start (N : Nat) (hN : N < 18446744073709551616) : CwI N (N / 128) [N % 128] := ⟨rfl, hN, by simp, Nat.div_le_self _ _⟩
theorem u64_div (n : Nat) (h : n < 18446744073709551616) : IntKind.u64.wrap ((n : Int) / 128) = ((n / 128 : Nat) : Int) := by simp [IntKind.wrap, IntKind.bits, IntKind.signed]; omega
theorem drop_set_at {cs : List Value} {k : Nat} {v : Value} {Tl : List Value} (hk : k < cs.length) (h : cs.drop (k + 1) = Tl) : (cs.set k v).drop k = v :: Tl := by
  have h1 : (cs.set k v).drop k = (cs.set k v)[k]'(by simp; omega) :: (cs.set k v).drop (k + 1) := List.drop_eq_getElem_cons (by simp; omega)
  rw [h1, List.getElem_set_self, List.drop_set_of_lt (by omega), h]
set_option maxRecDepth 100000 in
set_option maxHeartbeats 1000000 in
theorem count_any (W0 B w : World) (b : Nat) (s : Option (List Nat)) (N : Nat) (h : Wst W0 B w b s) (hN : N < 18446744073709551616) :
    Calls Tryz.prog 79 #[ptr b, .int .u64 N] w fun e w' => e = .returned (.tuple #[]) ∧ Wst W0 B w' b (wap s (some (cnt N))) := by
  have HS := hide h
  have HN := hide hN
  have hB := Blk.new w (List.replicate 10 (bv 0)) 169
  have HB := hide hB
  have hc := hB.cell
  have hf := hB.frozen
  have e1 : ((N % 128 : Nat) : Int) % 256 = ((N % 128 : Nat) : Int) := by omega
  clear h hN hB
  go_enter Tryz.func79, Tryz.ntmps79
  go_wp2_with fail
  have hq := u64_div N HN.out
  rw [hq]
  have hB2 := HB.out.set 9 (bv (N % 128))
  have HG0 : Hid (G w (w.alloc (.cells #[bv 0, bv 0, bv 0, bv 0, bv 0, bv 0, bv 0, bv 0, bv 0, bv (N % 128)] 169))) := (G.refl w).alloc _
  have HB2 : Hid (Blk (w.alloc (.cells #[bv 0, bv 0, bv 0, bv 0, bv 0, bv 0, bv 0, bv 0, bv 0, bv (N % 128)] 169)) w.heap.size 169 [bv 0, bv 0, bv 0, bv 0, bv 0, bv 0, bv 0, bv 0, bv 0, bv (N % 128)]) := Blk.new w _ 169
  clear hB2 hc hf HB e1 hq
  go_loopw [1, 5] (fun nv av wr => ∃ (n k : Nat) (Tl : List Nat) (cs : List Value), nv = .int .u64 n ∧ av = I k ∧ CwI N n Tl ∧ k + Tl.length = 10 ∧ cs.length = 10 ∧ cs.drop k = Tl.map bv ∧ Blk wr w.heap.size 169 cs ∧ G w wr) (fun nv _ _ => (RowKit.intOf nv).toNat)
  case atStart => exact ⟨N / 128, 9, [N % 128], _, rfl, rfl, CwI.start N HN.out, rfl, rfl, rfl, HB2.out, HG0.out⟩
  case round =>
    obtain ⟨n, k, Tl, cs, rfl, rfl, hI, hk, hcs, hd, hB, hg⟩ := hrel
    clear HB2 HG0
    by_cases h0 : 0 < n
    · have i0 : (0 : Int) < (n : Int) := by omega
      have hr := hI.room h0
      obtain ⟨k', rfl⟩ : ∃ k', k = k' + 1 := ⟨k - 1, by omega⟩
      have hc := hB.cell
      have hf := hB.frozen
      have hck : ∃ y, wr.cell? ⟨w.heap.size, k', none⟩ = some y := ⟨_, (hc k').trans (List.getElem?_eq_getElem (by omega))⟩
      obtain ⟨y, hy⟩ := hck
      have i1 : (k' : Int) < 10 := by omega
      have e1 : wrap64 ((k' : Int) + 1 - 1) = (k' : Int) := by unfold wrap64; omega
      have e2 : wrap64 (k' : Int) = (k' : Int) := by unfold wrap64; omega
      have e3 := u64_div n (Nat.lt_of_le_of_lt hI.le HN.out)
      have HR := hide (And.intro hI (And.intro hk (And.intro hcs (And.intro hd (And.intro hB hg)))))
      clear hI hk hcs hd hB hg hr hc
      go_wp2_with fail
      obtain ⟨hI, hk, hcs, hd, hB, hg⟩ := HR.out
      refine ⟨⟨n / 128, k', (n % 128 + 128) :: Tl, cs.set k' (bv (n % 128 + 128)), rfl, rfl, hI.step h0, by simp; omega, by simpa using hcs, ?_, hB.set k' _, hg.setCell (Nat.le_refl _) _⟩, ?_⟩
      · rw [drop_set_at (by omega) hd]; rfl
      · simp only [RowKit.intOf]; omega
    · have i0 : ¬ (0 : Int) < (n : Int) := by omega
      have h0' : n = 0 := by omega
      have hT : Tl = cnt N := by have := hI.e; rw [h0', cntH_zero] at this; exact this
      have l1 := hI.l1
      have hrow : Rb wr (.slice (some ⟨w.heap.size, k, none⟩) (10 - k) (10 - k)) (cnt N) := by
        rw [← hT]
        refine ⟨some ⟨w.heap.size, k, none⟩, 10 - k, by congr 1; omega, by omega, (fun q => by cases q), fun i x hx => ⟨w.heap.size, k, [bv x], rfl, rfl, fun j u hj => ?_⟩⟩
        have e1 : (cs.drop k)[i]? = some (bv x) := by rw [hd, List.getElem?_map, hx]; rfl
        rw [List.getElem?_drop] at e1
        have hj0 : j = 0 := by have := (List.getElem?_eq_some_iff.1 hj).1; simp at this; exact this
        subst hj0
        simp at hj
        subst hj
        show wr.cell? ⟨w.heap.size, k + i * 1 + 0, none⟩ = some (bv x)
        rw [Nat.mul_one, Nat.add_zero, hB.cell]
        exact e1
      have KP := hide (put_any W0 B wr b s _ _ (HS.out.G hg) hrow)
      have i1 : (k : Int) ≤ 10 := by omega
      have i2 : k ≤ 10 := by omega
      have i3 : ¬ k = 10 := by omega
      have i4 : ¬ 10 = k := by omega
      have i5 : ¬ 10 - k = 0 := by omega
      clear hI hk hcs hd hB hg l1 hT h0' hrow h0
      go_wp2_with fail
      refine KP.out.mono ?_
      rintro e w2 ⟨rfl, hw⟩
      have HW := hide hw
      clear hw KP
      go_wp2_with fail
      exact ⟨rfl, _, results_none rfl _ _ _, rfl, HW.out⟩
end
open Go.RowKit

abbrev R64 (n : Int) : Prop := -9223372036854775808 ≤ n ∧ n ≤ 9223372036854775807
/-- A signed number as a count. -/
def zig (n : Int) : Nat := if 0 ≤ n then (2 * n).toNat else (-2 * n - 1).toNat
theorem zig_lt (n : Int) (h : R64 n) : zig n < 18446744073709551616 := by
  unfold zig; split <;> omega
theorem xor_ones (x : Nat) (h : x < 18446744073709551616) : x ^^^ 18446744073709551615 = 18446744073709551615 - x := by
  have h2 : x < 2 ^ 64 := by have : (2 : Nat) ^ 64 = 18446744073709551616 := by decide
                             omega
  have e1 : 18446744073709551615 = 2 ^ 64 - 1 := by decide
  have e2 : 18446744073709551615 - x = 2 ^ 64 - (x + 1) := by have : (2 : Nat) ^ 64 = 18446744073709551616 := by decide
                                                              omega
  rw [e2, e1]
  apply Nat.eq_of_testBit_eq
  intro i
  rw [Nat.testBit_xor, Nat.testBit_two_pow_sub_succ h2, Nat.testBit_two_pow_sub_one]
  by_cases hi : i < 64
  · simp [hi]
  · have : x.testBit i = false := Nat.testBit_lt_two_pow (Nat.lt_of_lt_of_le h2 (Nat.pow_le_pow_right (by decide) (by omega)))
    simp [hi, this]
theorem zig_bits (n : Int) (h : R64 n) : bits .xor .u64 (IntKind.u64.wrap (IntKind.u64.wrap n * 2)) (IntKind.u64.wrap (n / 9223372036854775808)) = (zig n : Int) := by
  rw [IntKind.wrap_u64, IntKind.wrap_u64, IntKind.wrap_u64]
  unfold zig
  split
  · have e1 : (n % 18446744073709551616 * 2) % 18446744073709551616 = (((2 * n).toNat : Nat) : Int) := by omega
    have e2 : (n / 9223372036854775808) % 18446744073709551616 = ((0 : Nat) : Int) := by omega
    rw [e1, e2, bits_xor_u64_nat _ _ (by omega) (by omega), Nat.xor_zero]
  · have e1 : (n % 18446744073709551616 * 2) % 18446744073709551616 = (((18446744073709551616 + 2 * n).toNat : Nat) : Int) := by omega
    have e2 : (n / 9223372036854775808) % 18446744073709551616 = ((18446744073709551615 : Nat) : Int) := by omega
    rw [e1, e2, bits_xor_u64_nat _ _ (by omega) (by omega), xor_ones _ (by omega)]
    omega
/-- A string's bytes. -/
def bys (s : ByteArray) : List Nat := s.data.toList.map UInt8.toNat
theorem bys_len (s : ByteArray) : (bys s).length = s.size := by
  unfold bys
  rw [List.length_map, Array.length_toList]
  rfl
theorem fl_bys (s : ByteArray) : eB.fl (bys s) = Lib.strCells s := by
  unfold bys Lib.strCells
  generalize s.data.toList = l
  induction l with
  | nil => rfl
  | cons u l ih => rw [List.map_cons, Enc.fl_cons, ih]; rfl
theorem Sw.rowF {α : Type} {E : Enc α} {ty : TypeId} {W0 w : World} {v : Value} {l : List α} (h : Sw E ty w v l) (hf : Fresh W0 v) : w.ownsRow W0.heap.size ty E.s v l.length (E.fl l) := by
  refine ⟨E.len l, ?_⟩
  rcases h with ⟨rfl, rfl⟩ | ⟨g, cap, rest, rfl, hb, hl, hc, hm⟩
  · exact .inl ⟨rfl, rfl⟩
  · refine .inr ⟨g, cap, (E.fl l ++ rest).toArray, rfl, hf g rfl, hb.h, hc, hm, ?_, ?_⟩
    · simp [E.len]; omega
    · simp [← E.len]
theorem Fresh.of_row {W0 w : World} {ty : TypeId} {s n : Nat} {v : Value} {xs : List Value} (h : w.ownsRow W0.heap.size ty s v n xs) : Fresh W0 v := fun k e => by
  rcases h.2 with ⟨rfl, _⟩ | ⟨g, cap, cur, rfl, hb, _⟩
  · simp [Value.ownBlock] at e
  · simp [Value.ownBlock] at e; omega
/-- An append of a string's bytes. -/
theorem app_S {W0 w : World} {v : Value} {l : List Nat} (tr : TypeId) (x : ByteArray) (h : SwB w v l) (hg : G W0 w) (hf : Fresh W0 v) (hb : l.length + x.size ≤ 140737488355328) :
    ∃ v' w', (Builtin.append_ #[23, 9] tr #[v, .string x]).run Tryz.prog w = .ok v' w' ∧ SwB w' v' (l ++ bys x) ∧ Chg (fun k => v.ownBlock = some k) w w' ∧ Fresh W0 v' := by
  obtain ⟨i, hi, h0, h1, h2⟩ := info_B
  have hm : (140737488355328 : Nat) ≤ maxLen := of_decide_eq_true (by kernel_rfl)
  obtain ⟨v', w', q1, q2, q3, _⟩ := Lib.run_append_own_string (P := Tryz.prog) w W0.heap.size 23 9 tr 5 i Tryz.underlying23 Tryz.underlying9 hi h0 h1 h2 v l.length (eB.fl l) (h.rowF hf) x (by omega) (by omega) hg.size
  rw [← fl_bys, ← Enc.app] at q2
  exact ⟨v', w', q1, Sw.of_row (E := eB) q2 (by rw [List.length_append, bys_len]), ⟨q3.os, q3.tape, q3.output, q3.size, fun k hk hne => q3.block k hk (fun e => hne e.symm)⟩, Fresh.of_row q2⟩
theorem Wr.put2 {W0 B w w' : World} {b : Nat} {v v' : Value} {l l' : List Nat} {bad : Bool} (kp : Kp B w) (g : Go.Proofs.YtcdjjmjhdoanlaaGreatDoor.G W0 w) (hb : W0.heap.size ≤ b) (h1 : Blk w b 67 [v, .bool bad]) (hs : SwB w v l) (hf : Fresh W0 v)
    (hs' : SwB w' v' l') (hch : Chg (fun k => v.ownBlock = some k) w w') (hf' : Fresh W0 v') (hl : l'.length ≤ 2097152) : Wr W0 B (w'.setCell ⟨b, 0, none⟩ v') b l' bad := by
  have g2 := (hf.app (v' := v) g hch (.inl rfl)).2
  have hnb : v.ownBlock ≠ some b := hs.ne h1 (by decide)
  have h1' : Blk w' b 67 [v, .bool bad] := h1.chg hch hnb
  exact ⟨g2.setCell hb _, hb, hl, ⟨v', h1'.set 0 _, hs'.off (hs'.ne h1' (by decide)), hf'⟩, (kp.chg hs hch).set h1' _⟩
theorem wpList_append_run2 {P : Program} {w : World} {ops : Array Oper} {rest : List Oper} {o : Oper} {a : Act} {Q : Exit → Act → World → Prop} (hgd : o.guard = none) (s x : Operand) (t t2 : TypeId)
    (ho : o.op = .call { callee := .builtin .append, args := #[s, x], argTypes := #[t, t2] }) (v z : Value) (hs : a.eval s = v) (hx : a.eval x = z) {v' : Value} {w' : World} (hr : (Builtin.append_ #[t, t2] o.type #[v, z]).run P w = .ok v' w')
    (h : wpList P ops Q rest (a.put o.dst v') w') : wpList P ops Q (o :: rest) a w := by
  refine wpList_plain hgd fun K hK => ?_
  unfold Oper.wp execOp
  simp only [ho, resolve, invoke, builtin, Sem.run_bind, Sem.run_pure, Result.andThen_ok, List.map_toArray, List.map_cons, List.map_nil, hs, hx, hr]
  exact hK _ _ h
theorem wap_some (l bs : List Nat) : wap (some l) (some bs) = if l.length + bs.length ≤ 2097152 then some (l ++ bs) else none := rfl
theorem bys_by (s : ByteArray) : By (bys s) := fun x hx => by
  obtain ⟨u, _, rfl⟩ := List.mem_map.1 hx
  exact u.toNat_lt
set_option maxRecDepth 100000 in
set_option maxHeartbeats 1000000 in
theorem number_any (W0 B w : World) (b : Nat) (s : Option (List Nat)) (n : Int) (h : Wst W0 B w b s) (hn : R64 n) :
    Calls Tryz.prog 49 #[ptr b, I n] w fun e w' => e = .returned (.tuple #[]) ∧ Wst W0 B w' b (wap s (some (cnt (zig n)))) := by
  have KC := hide (count_any W0 B w b s (zig n) h (zig_lt n hn))
  clear h
  go_enter Tryz.func49, Tryz.ntmps49
  go_wp2_with fail
  rw [zig_bits n hn]
  refine KC.out.mono ?_
  rintro e w2 ⟨rfl, hw⟩
  have HW := hide hw
  clear hw KC
  go_wp2_with fail
  exact ⟨rfl, _, results_none rfl _ _ _, rfl, HW.out⟩
set_option maxRecDepth 100000 in
set_option maxHeartbeats 1000000 in
theorem text_any (W0 B w : World) (b : Nat) (s : Option (List Nat)) (x : ByteArray) (h : Wst W0 B w b s) (hx : x.size ≤ 140737488351232) :
    Calls Tryz.prog 50 #[ptr b, .string x] w fun e w' => e = .returned (.tuple #[]) ∧ Wst W0 B w' b (wap s (some (cnt x.size ++ bys x))) := by
  have KC := hide (count_any W0 B w b s x.size h (by omega))
  have HX := hide hx
  clear h
  go_enter Tryz.func50, Tryz.ntmps50
  go_wp2_with fail
  refine KC.out.mono ?_
  rintro e w1 ⟨rfl, h1⟩
  obtain ⟨l, bad, hw, hs⟩ := h1.wr
  have KF := hide (fits_any W0 B w1 b l bad x.size hw)
  have HW := hide hw
  have HS := hide hs
  have HE : Hid (wap s (some (cnt x.size ++ bys x)) = wap (wap s (some (cnt x.size))) (some (bys x))) := by show _ = _; rw [wap_cat]; rfl
  clear h1 hw hs KC hx
  go_wp2_with fail
  refine KF.out.mono ?_
  rintro e w2 (⟨rfl, hl, rfl, rfl⟩ | ⟨hc, rfl, hw2⟩)
  · obtain ⟨g, hb, hl2, ⟨v, h1, h2, h3⟩, kp⟩ := HW.out
    obtain ⟨v', w', hr, hs', hch, hf'⟩ := app_S 23 x h2 g h3 (by have := HX.out; omega)
    have HR := hide hr
    have hc := h1.cell
    have h1' : Blk w' b 67 [v, .bool false] := h1.chg hch (h2.ne h1 (by decide))
    have hc' := h1'.cell
    have hf2 := h1'.frozen
    have HF : Hid (Wst W0 B (w'.setCell ⟨b, 0, none⟩ v') b (wap s (some (cnt x.size ++ bys x)))) := by
      have es : wap s (some (cnt x.size)) = some l := by rcases HS.out with ⟨q, _⟩ | ⟨_, q⟩; cases q; exact q
      show Wst _ _ _ _ _
      rw [HE.out, es, wap_some, if_pos (by rw [bys_len]; exact hl)]
      exact Wr.put2 kp g hb h1 h2 h3 hs' hch hf' (by rw [List.length_append, bys_len]; exact hl)
    obtain ⟨a', c', hv'⟩ := hs'.form
    obtain ⟨n', hn'⟩ : ∃ n', n' = (l ++ bys x).length := ⟨_, rfl⟩
    rw [← hn'] at hv'
    subst hv'
    obtain ⟨a, c, hv⟩ := h2.form
    subst hv
    clear g hb hl2 h1 h2 h3 hr hs' hch hf' h1' KF HW hl hn' kp
    go_wp2_with (first | (at_builtin; refine wpList_append_run2 rfl _ _ 23 9 rfl (.slice a l.length c) (.string x) rfl rfl HR.out ?_) | fail)
    exact ⟨rfl, _, results_none rfl _ _ _, rfl, HF.out⟩
  · have HF : Hid (Wst W0 B w2 b (wap s (some (cnt x.size ++ bys x)))) := by
      show Wst _ _ _ _ _
      rw [HE.out]
      rcases HS.out with ⟨_, q⟩ | ⟨q0, q⟩
      · rw [q]; exact ⟨l, hw2⟩
      · rw [q, wap_some, if_neg (by rw [bys_len]; rcases hc with q1 | q1; · rw [q0] at q1; cases q1
                                    · omega)]
        exact ⟨l, hw2⟩
    clear hc hw2 KF HW HS
    go_wp2_with fail
    exact ⟨rfl, _, results_none rfl _ _ _, rfl, HF.out⟩
end Go.Proofs.YtcdjjmjhdoanlaaGreatDoor
