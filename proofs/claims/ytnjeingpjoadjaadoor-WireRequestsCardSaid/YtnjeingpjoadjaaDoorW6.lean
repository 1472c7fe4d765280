/- Wire: a body that is being written. -/
import Derived.Test.YtnjeingpjoadjaaDoorW4
namespace Go.Proofs.YtnjeingpjoadjaaDoor
open Go.RowKit

/-- What B has besides writers and bytes is as it was. -/
def Kp (B w : World) : Prop := ∀ (k : Nat) (cs : Array Value) (t : TypeId) (fz : Nat × Nat), B.heap[k]? = some (Obj.cells cs t fz) → t ≠ 53 → t ≠ 5 → w.heap[k]? = B.heap[k]?
theorem Kp.refl (w : World) : Kp w w := fun _ _ _ _ _ _ _ => rfl
theorem Kp.trans {a b c : World} (h : Kp a b) (k : Kp b c) : Kp a c := fun i cs t fz hi h1 h2 => by
  have e := h i cs t fz hi h1 h2
  rw [← e]
  exact k i cs t fz (e.trans hi) h1 h2
theorem Kp.of_G {a b : World} (h : G a b) : Kp a b := fun i _ _ _ hi _ _ => h.block i (Array.getElem?_eq_some_iff.1 hi).1
theorem Kp.chg {B w w' : World} {v : Value} {l : List Nat} (h : Kp B w) (hs : SwB w v l) (hc : Chg (fun k => v.ownBlock = some k) w w') : Kp B w' := fun i cs t fz hi h1 h2 => by
  have e := h i cs t fz hi h1 h2
  rw [← e]
  refine hc.block i (Array.getElem?_eq_some_iff.1 (e.trans hi)).1 (fun q => ?_)
  rcases hs with ⟨rfl, _⟩ | ⟨g, cap, rest, rfl, hb, _⟩
  · simp [Value.ownBlock] at q
  · simp [Value.ownBlock] at q
    subst q
    have := hb.h
    rw [e, hi] at this
    simp at this
    exact h2 this.2.1
theorem Kp.set {B w : World} {b o : Nat} {xs : List Value} (h : Kp B w) (hb : Blk w b 53 xs) (u : Value) : Kp B (w.setCell ⟨b, o, none⟩ u) := fun i cs t fz hi h1 h2 => by
  have e := h i cs t fz hi h1 h2
  rw [← e]
  refine Below.heap_setCell _ _ _ _ (fun q => ?_)
  subst q
  have := hb.h
  rw [e, hi] at this
  simp at this
  exact h1 this.2.1
theorem Kp.blk {B w : World} {k : Nat} {t : TypeId} {xs : List Value} (h : Kp B w) (hb : Blk B k t xs) (h1 : t ≠ 53) (h2 : t ≠ 5) : Blk w k t xs := ⟨(h k _ t _ hb.h h1 h2).trans hb.h⟩
/-- The writer at block b holds l; nothing older than W0 has turned. -/
structure Wr (W0 B w : World) (b : Nat) (l : List Nat) (bad : Bool) : Prop where
  g : G W0 w
  hb : W0.heap.size ≤ b
  len : l.length ≤ 2097152
  h : ∃ v, Blk w b 53 [v, .bool bad] ∧ SwB w v l ∧ Fresh W0 v
  k : Kp B w
/-- The same; none: it is bad. -/
def Wst (W0 B w : World) (b : Nat) (s : Option (List Nat)) : Prop := match s with | some l => Wr W0 B w b l false | none => ∃ l, Wr W0 B w b l true
/-- Some more bytes. -/
def wap (s o : Option (List Nat)) : Option (List Nat) := s.bind fun l => o.bind fun bs => if l.length + bs.length ≤ 2097152 then some (l ++ bs) else none
def cat (a b : Option (List Nat)) : Option (List Nat) := a.bind fun x => b.bind fun y => some (x ++ y)
theorem wap_cat (s a b : Option (List Nat)) : wap (wap s a) b = wap s (cat a b) := by
  cases s with
  | none => rfl
  | some l =>
    cases a with
    | none => rfl
    | some x =>
      cases b with
      | none =>
        show (if _ then some (l ++ x) else none : Option (List Nat)).bind _ = none
        split <;> rfl
      | some y =>
        show (if _ then some (l ++ x) else none : Option (List Nat)).bind _ = if l.length + (x ++ y).length ≤ 2097152 then some (l ++ (x ++ y)) else none
        by_cases h : l.length + x.length ≤ 2097152
        · rw [if_pos h]
          show (if (l ++ x).length + y.length ≤ 2097152 then some (l ++ x ++ y) else none) = _
          rw [List.length_append, List.length_append, List.append_assoc, Nat.add_assoc]
        · rw [if_neg h, if_neg (by rw [List.length_append]; omega)]; rfl
theorem wap_nil (s : Option (List Nat)) (h : ∀ l, s = some l → l.length ≤ 2097152) : wap s (some []) = s := by
  cases s with
  | none => rfl
  | some l =>
    show (if l.length + 0 ≤ 2097152 then some (l ++ []) else none) = _
    rw [Nat.add_zero, if_pos (h l rfl), List.append_nil]
theorem Wst.len {W0 B w : World} {b : Nat} {s : Option (List Nat)} (h : Wst W0 B w b s) : ∀ l, s = some l → l.length ≤ 2097152 := fun l e => by subst e; exact Wr.len h
theorem Wst.wr {W0 B w : World} {b : Nat} {s : Option (List Nat)} (h : Wst W0 B w b s) : ∃ l bad, Wr W0 B w b l bad ∧ (bad = true ∧ s = none ∨ bad = false ∧ s = some l) := by
  cases s with
  | none => obtain ⟨l, h⟩ := h; exact ⟨l, true, h, .inl ⟨rfl, rfl⟩⟩
  | some l => exact ⟨l, false, h, .inr ⟨rfl, rfl⟩⟩
theorem Wst.rebase {W0 B w : World} {b : Nat} {s : Option (List Nat)} (h : Wst W0 B w b s) : Wst W0 w w b s ∧ Kp B w := by
  cases s with
  | none => obtain ⟨l, h⟩ := h; exact ⟨⟨l, h.g, h.hb, h.len, h.h, Kp.refl _⟩, h.k⟩
  | some l => exact ⟨⟨Wr.g h, Wr.hb h, Wr.len h, Wr.h h, Kp.refl _⟩, Wr.k h⟩
theorem Wst.base {W0 B B' w : World} {b : Nat} {s : Option (List Nat)} (h : Wst W0 B w b s) (k : Kp B' B) : Wst W0 B' w b s := by
  cases s with
  | none => obtain ⟨l, h⟩ := h; exact ⟨l, h.g, h.hb, h.len, h.h, k.trans h.k⟩
  | some l => exact ⟨Wr.g h, Wr.hb h, Wr.len h, Wr.h h, k.trans (Wr.k h)⟩
theorem Wst.k {W0 B w : World} {b : Nat} {s : Option (List Nat)} (h : Wst W0 B w b s) : Kp B w := h.rebase.2
theorem Wst.g {W0 B w : World} {b : Nat} {s : Option (List Nat)} (h : Wst W0 B w b s) : G W0 w := by obtain ⟨l, bad, q, _⟩ := h.wr; exact q.g
theorem Wst.hb {W0 B w : World} {b : Nat} {s : Option (List Nat)} (h : Wst W0 B w b s) : W0.heap.size ≤ b := by obtain ⟨l, bad, q, _⟩ := h.wr; exact q.hb
theorem Wr.G {W0 B w w' : World} {b : Nat} {l : List Nat} {bad : Bool} (h : Wr W0 B w b l bad) (k : Go.Proofs.YtnjeingpjoadjaaDoor.G w w') : Wr W0 B w' b l bad := by
  obtain ⟨g, hb, hl, ⟨v, h1, h2, h3⟩, kp⟩ := h
  exact ⟨g.trans k, hb, hl, ⟨v, h1.G k, h2.G k, h3⟩, kp.trans (Kp.of_G k)⟩
theorem Wst.G {W0 B w w' : World} {b : Nat} {s : Option (List Nat)} (h : Wst W0 B w b s) (k : Go.Proofs.YtnjeingpjoadjaaDoor.G w w') : Wst W0 B w' b s := by
  cases s with
  | none => obtain ⟨l, h⟩ := h; exact ⟨l, h.G k⟩
  | some l => exact Wr.G h k
/-- It becomes bad. -/
theorem Wr.spoil {W0 B w : World} {b : Nat} {l : List Nat} {bad : Bool} (h : Wr W0 B w b l bad) : Wr W0 B (w.setCell ⟨b, 1, none⟩ (.bool true)) b l true := by
  obtain ⟨g, hb, hl, ⟨v, h1, h2, h3⟩, kp⟩ := h
  refine ⟨g.setCell hb _, hb, hl, ⟨v, h1.set 1 _, h2.off (h2.ne h1 (by decide)), h3⟩, kp.set h1 _⟩
/-- The list of bytes was changed. -/
theorem Wr.put {W0 B w w' : World} {b : Nat} {v v' : Value} {l l' : List Nat} {bad : Bool} (kp : Kp B w) (g : Go.Proofs.YtnjeingpjoadjaaDoor.G W0 w) (hb : W0.heap.size ≤ b) (h1 : Blk w b 53 [v, .bool bad]) (hs : SwB w v l) (hf : Fresh W0 v)
    (hs' : SwB w' v' l') (hch : Chg (fun k => v.ownBlock = some k) w w') (hob : v'.ownBlock = v.ownBlock ∨ v'.ownBlock = some w.heap.size) (hl : l'.length ≤ 2097152) : Wr W0 B (w'.setCell ⟨b, 0, none⟩ v') b l' bad := by
  obtain ⟨f2, g2⟩ := hf.app g hch hob
  have hnb : v.ownBlock ≠ some b := hs.ne h1 (by decide)
  have h1' : Blk w' b 53 [v, .bool bad] := h1.chg hch hnb
  exact ⟨g2.setCell hb _, hb, hl, ⟨v', h1'.set 0 _, hs'.off (hs'.ne h1' (by decide)), f2⟩, (kp.chg hs hch).set h1' _⟩
def FitP (W0 B w : World) (b : Nat) (l : List Nat) (bad : Bool) (n : Nat) (e : Ending) (w' : World) : Prop :=
  (bad = false ∧ l.length + n ≤ 2097152 ∧ e = .returned (.bool true) ∧ w' = w) ∨ ((bad = true ∨ 2097152 < l.length + n) ∧ e = .returned (.bool false) ∧ Wr W0 B w' b l true)
set_option maxRecDepth 100000 in
set_option maxHeartbeats 1000000 in
theorem fits_any (W0 B w : World) (b : Nat) (l : List Nat) (bad : Bool) (n : Nat) (h : Wr W0 B w b l bad) :
    Calls Tryd.prog 74 #[ptr b, I n] w (FitP W0 B w b l bad n) := by
  have hw := h
  obtain ⟨g, hb, hl, ⟨v, h1, h2, h3⟩, kp⟩ := h
  obtain ⟨a, c, rfl⟩ := h2.form
  have hc := h1.cell
  have hf := h1.frozen
  have e1 : wrap64 (2097152 - (l.length : Int)) = 2097152 - (l.length : Int) := by unfold wrap64; omega
  by_cases c1 : 2097152 < l.length + n
  · have d1 : (2097152 - (l.length : Int)) < (n : Int) := by omega
    have HW := hide (hw.spoil)
    have HC := hide c1
    clear g hb hl h1 h2 h3 hw c1 kp
    go_enter Tryd.func74, Tryd.ntmps74
    go_wp2_with fail
    go_ret
    exact .inr ⟨.inr HC.out, rfl, HW.out⟩
  · have d1 : ¬ (2097152 - (l.length : Int)) < (n : Int) := by omega
    have HW := hide hw
    have HC : Hid (l.length + n ≤ 2097152) := by show _ ≤ _; omega
    clear g hb hl h1 h2 h3 hw c1 kp
    cases bad with
    | true =>
      go_enter Tryd.func74, Tryd.ntmps74
      go_wp2_with fail
      go_ret
      exact .inr ⟨.inl rfl, rfl, HW.out⟩
    | false =>
      go_enter Tryd.func74, Tryd.ntmps74
      go_wp2_with fail
      go_ret
      exact .inl ⟨rfl, HC.out, rfl, rfl⟩
set_option maxRecDepth 100000 in
set_option maxHeartbeats 1000000 in
theorem put_any (W0 B w : World) (b : Nat) (s : Option (List Nat)) (x : Value) (bs : List Nat) (h : Wst W0 B w b s) (hx : Rb w x bs) :
    Calls Tryd.prog 75 #[ptr b, x] w fun e w' => e = .returned (.tuple #[]) ∧ Wst W0 B w' b (wap s (some bs)) := by
  obtain ⟨p, cap, rfl⟩ := hx.form
  obtain ⟨l, bad, hw, hs⟩ := h.wr
  have KF := hide (fits_any W0 B w b l bad bs.length hw)
  have HX := hide hx
  have HW := hide hw
  have HS := hide hs
  clear h hw hx hs
  go_enter Tryd.func75, Tryd.ntmps75
  go_wp2_with fail
  refine KF.out.mono ?_
  rintro e w1 (⟨rfl, hl, rfl, rfl⟩ | ⟨hc, rfl, hw1⟩)
  · obtain ⟨g, hb, hl2, ⟨v, h1, h2, h3⟩, kp⟩ := HW.out
    obtain ⟨v', w', hr, hs', hch, hob⟩ := app_B 27 h2 HX.out (by omega)
    have HR := hide hr
    have hc := h1.cell
    have h1' : Blk w' b 53 [v, .bool false] := h1.chg hch (h2.ne h1 (by decide))
    have hc' := h1'.cell
    have hf' := h1'.frozen
    have HF : Hid (Wst W0 B (w'.setCell ⟨b, 0, none⟩ v') b (wap s (some bs))) := by
      have es : s = some l := by rcases HS.out with ⟨q, _⟩ | ⟨_, q⟩; cases q; exact q
      show Wst _ _ _ _ _
      rw [es]
      show Wst W0 B _ b (if l.length + bs.length ≤ 2097152 then some (l ++ bs) else none)
      rw [if_pos hl]
      exact Wr.put kp g hb h1 h2 h3 hs' hch hob (by rw [List.length_append]; exact hl)
    obtain ⟨a', c', hv'⟩ := hs'.form
    obtain ⟨n', hn'⟩ : ∃ n', n' = (l ++ bs).length := ⟨_, rfl⟩
    rw [← hn'] at hv'
    subst hv'
    obtain ⟨a, c, hv⟩ := h2.form
    subst hv
    clear g hb hl2 h1 h2 h3 hr hs' hch hob h1' KF HW hl hn' kp
    go_wp2_with (first | (at_builtin; refine wpList_append_run rfl _ _ 27 rfl (.slice a l.length c) (.slice p bs.length cap) rfl rfl HR.out ?_) | fail)
    exact ⟨rfl, _, results_none rfl _ _ _, rfl, HF.out⟩
  · have HF : Hid (Wst W0 B w1 b (wap s (some bs))) := by
      rcases HS.out with ⟨_, q⟩ | ⟨q0, q⟩
      · show Wst _ _ _ _ _
        rw [q]; exact ⟨l, hw1⟩
      · show Wst _ _ _ _ _
        rw [q]
        show Wst W0 B _ b (if l.length + bs.length ≤ 2097152 then some (l ++ bs) else none)
        rw [if_neg (by rcases hc with q1 | q1; · rw [q0] at q1; cases q1
                       · omega)]
        exact ⟨l, hw1⟩
    clear hc hw1 KF HW HS HX
    go_wp2_with fail
    exact ⟨rfl, _, results_none rfl _ _ _, rfl, HF.out⟩
end Go.Proofs.YtnjeingpjoadjaaDoor
