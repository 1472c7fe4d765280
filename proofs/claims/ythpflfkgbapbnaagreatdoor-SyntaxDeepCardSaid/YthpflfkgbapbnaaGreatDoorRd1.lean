/- The reader: next, pass, sees, took, must. -/
import Derived.Test.YthpflfkgbapbnaaGreatDoorSx0
import Derived.Laws.Tables
import Derived.BigQuiet
import Derived.Deep.QuietTactic
import Derived.Deep.RegionHeld3
namespace Go.Proofs.YthpflfkgbapbnaaGreatDoor
section
open Go.RowKit

section
variable {P : Program} {ops : Array Oper} {Q : Exit → Act → World → Prop} {md : Region.Mode} {S : World → Prop} {k : Nat}
/-- Whatever order is picked from here on, and S holds behind every operation but number k. -/
def wpAnyL (P : Program) (md : Region.Mode) (ops : Array Oper) (Q : Exit → Act → World → Prop) (S : World → Prop) (k : Nat) : Nat → Array Bool → Act → World → Prop
  | 0, listed, a, w => Region.ready md ops listed = [] ∧ Q .normal a w
  | fuel + 1, listed, a, w =>
    (Region.ready md ops listed = [] → Q .normal a w) ∧
    ∀ i ∈ Region.ready md ops listed, wpOp P ops Q i (fun a' w' => (i ≠ k → S w') ∧ wpAnyL P md ops Q S k fuel (listed.setIfInBounds i true) a' w') a w
theorem wpAny_of_L : ∀ (fuel : Nat) (listed : Array Bool) (a : Act) (w : World), wpAnyL P md ops Q S k fuel listed a w → wpAny P md ops Q fuel listed a w
  | 0, _, _, _, h => h
  | fuel + 1, _, _, _, h => ⟨h.1, fun i hi => wpOp_mono (fun a' w' h' => wpAny_of_L fuel _ a' w' h'.2) (h.2 i hi)⟩
/-- Number k waits for number i. -/
def waitsB (md : Region.Mode) (ops : Array Oper) (k i : Nat) : Bool := match ops[k]? with | some o => o.after.any fun e => Region.binds md e && (e.on == i) | none => false
theorem waits_ne {i j : Nat} {listed : Array Bool} (hk : waitsB md ops k i = true) (hi : i ∈ Region.ready md ops listed) (hj : j ∈ Region.ready md ops listed) : j ≠ k := fun e => by
  subst e
  obtain ⟨_, oj, hoj, hall⟩ := mem_ready.1 hj
  unfold waitsB at hk
  rw [hoj] at hk
  simp only [Array.any_eq_true'] at hk
  obtain ⟨e, he, hb⟩ := hk
  simp only [Bool.and_eq_true, beq_iff_eq] at hb
  have h1 := hall e he hb.1
  rw [hb.2] at h1
  have h0 := (mem_ready.1 hi).1
  rcases Nat.lt_or_ge i listed.size with h' | h'
  · simp [h'] at h0 h1; rw [h0] at h1; cases h1
  · simp [Array.getElem?_eq_none h'] at h1
theorem wpAnyL_first {i : Nat} {oi : Oper} {v : Value} (hi : ops[i]? = some oi) (hsel : ∀ (j : Nat) (o : Oper) cs b, ops[j]? = some o → o.op ≠ .select cs b)
    (hQ : ∀ c a w, Q (.panic c) (a.put oi.dst v) w → Q (.panic c) a w) (hk : waitsB md ops k i = true) (hik : i ≠ k) :
    ∀ (fuel : Nat) (listed : Array Bool) (a : Act) (w : World),
      (∀ j oj, ops[j]? = some oj → j ≠ i → listed.getD j true = false → (∀ e ∈ oj.after, Region.binds md e = true → e.on ≠ i) → oi.apart ops oj = true) →
      i ∈ Region.ready md ops listed → YieldsIf P ops S oi v a → S w →
      wpAnyL P md ops Q S k fuel (listed.setIfInBounds i true) (a.put oi.dst v) w → wpAnyL P md ops Q S k (fuel + 1) listed a w := by
  intro fuel
  induction fuel with
  | zero =>
    intro listed a w _ hr hy hS H
    refine ⟨fun h => (by rw [h] at hr; cases hr), fun j hj => ?_⟩
    by_cases hji : j = i
    · subst hji; exact hy.wpOp hi hS ⟨fun _ => hS, H⟩
    · have := ready_mono hj hji
      rw [H.1] at this
      cases this
  | succ fuel ih =>
    intro listed a w hfree hr hy hS H
    refine ⟨fun h => (by rw [h] at hr; cases hr), fun j hj => ?_⟩
    by_cases hji : j = i
    · subst hji; exact hy.wpOp hi hS ⟨fun _ => hS, H⟩
    · have h1 := H.2 j (ready_mono hj hji)
      have hjk : j ≠ k := waits_ne hk hr hj
      obtain ⟨hjun, oj, hoj, hall⟩ := mem_ready.1 hj
      have hnot : ∀ e ∈ oj.after, Region.binds md e = true → e.on ≠ i := fun e he hb heq => by
        have h1 := hall e he hb
        have h0 := (mem_ready.1 hr).1
        rw [heq] at h1
        rcases Nat.lt_or_ge i listed.size with h' | h'
        · simp [h'] at h0 h1; rw [h0] at h1; cases h1
        · simp [Array.getElem?_eq_none h'] at h1
      have h2 := wpOp_putIf hoj (hfree j oj hoj hji hjun hnot) (fun cs b => hsel i oi cs b hi) (fun cs b => hsel j oj cs b hoj) hQ hy h1
      have hfree' : ∀ k ok, ops[k]? = some ok → k ≠ i → (listed.setIfInBounds j true).getD k true = false →
          (∀ e ∈ ok.after, Region.binds md e = true → e.on ≠ i) → oi.apart ops ok = true := fun k ok hk hki hun hno => by
        refine hfree k ok hk hki ?_ hno
        by_cases hjk : j = k
        · subst hjk; exact hjun
        · rw [getD_set_ne true hjk] at hun; exact hun
      refine wpOp_mono (fun a' w' h3 => ⟨h3.2.1, ih (listed.setIfInBounds j true) a' w' hfree' (ready_mono hr (Ne.symm hji)) h3.1 (h3.2.1 hjk) ?_⟩) h2
      rw [Array.setIfInBounds_comm _ _ hji]
      exact h3.2.2
theorem wpAnyL_first2 {i : Nat} {oi : Oper} {v : Value} (hi : ops[i]? = some oi) (hsel : ∀ (j : Nat) (o : Oper) cs b, ops[j]? = some o → o.op ≠ .select cs b)
    (hQ : ∀ c a w, Q (.panic c) (a.put oi.dst v) w → Q (.panic c) a w) {j0 : Nat} (hk0 : waitsB md ops k j0 = true) (hk : waitsB md ops j0 i = true) :
    ∀ (fuel : Nat) (listed : Array Bool) (a : Act) (w : World), listed.getD j0 true = false →
      (∀ j oj, ops[j]? = some oj → j ≠ i → listed.getD j true = false → (∀ e ∈ oj.after, Region.binds md e = true → e.on ≠ i) → oi.apart ops oj = true) →
      i ∈ Region.ready md ops listed → YieldsIf P ops S oi v a → S w →
      wpAnyL P md ops Q S k fuel (listed.setIfInBounds i true) (a.put oi.dst v) w → wpAnyL P md ops Q S k (fuel + 1) listed a w := by
  intro fuel
  induction fuel with
  | zero =>
    intro listed a w _ _ hr hy hS H
    refine ⟨fun h => (by rw [h] at hr; cases hr), fun j hj => ?_⟩
    by_cases hji : j = i
    · subst hji; exact hy.wpOp hi hS ⟨fun _ => hS, H⟩
    · have := ready_mono hj hji
      rw [H.1] at this
      cases this
  | succ fuel ih =>
    intro listed a w hj0 hfree hr hy hS H
    refine ⟨fun h => (by rw [h] at hr; cases hr), fun j hj => ?_⟩
    by_cases hji : j = i
    · subst hji; exact hy.wpOp hi hS ⟨fun _ => hS, H⟩
    · have h1 := H.2 j (ready_mono hj hji)
      have hjk0 : j ≠ j0 := waits_ne hk hr hj
      have hjk : j ≠ k := fun e => by
        subst e
        obtain ⟨_, oj, hoj, hall⟩ := mem_ready.1 hj
        unfold waitsB at hk0
        rw [hoj] at hk0
        simp only [Array.any_eq_true'] at hk0
        obtain ⟨e, he, hb⟩ := hk0
        simp only [Bool.and_eq_true, beq_iff_eq] at hb
        have h1 := hall e he hb.1
        rw [hb.2] at h1
        rcases Nat.lt_or_ge j0 listed.size with h' | h'
        · simp [h'] at hj0 h1; rw [hj0] at h1; cases h1
        · simp [Array.getElem?_eq_none h'] at h1
      obtain ⟨hjun, oj, hoj, hall⟩ := mem_ready.1 hj
      have hnot : ∀ e ∈ oj.after, Region.binds md e = true → e.on ≠ i := fun e he hb heq => by
        have h1 := hall e he hb
        have h0 := (mem_ready.1 hr).1
        rw [heq] at h1
        rcases Nat.lt_or_ge i listed.size with h' | h'
        · simp [h'] at h0 h1; rw [h0] at h1; cases h1
        · simp [Array.getElem?_eq_none h'] at h1
      have h2 := wpOp_putIf hoj (hfree j oj hoj hji hjun hnot) (fun cs b => hsel i oi cs b hi) (fun cs b => hsel j oj cs b hoj) hQ hy h1
      have hfree' : ∀ k ok, ops[k]? = some ok → k ≠ i → (listed.setIfInBounds j true).getD k true = false →
          (∀ e ∈ ok.after, Region.binds md e = true → e.on ≠ i) → oi.apart ops ok = true := fun k ok hk hki hun hno => by
        refine hfree k ok hk hki ?_ hno
        by_cases hjk : j = k
        · subst hjk; exact hjun
        · rw [getD_set_ne true hjk] at hun; exact hun
      refine wpOp_mono (fun a' w' h3 => ⟨h3.2.1, ih (listed.setIfInBounds j true) a' w' (by rw [getD_set_ne true hjk0]; exact hj0) hfree' (ready_mono hr (Ne.symm hji)) h3.1 (h3.2.1 hjk) ?_⟩) h2
      rw [Array.setIfInBounds_comm _ _ hji]
      exact h3.2.2
/-- Take number i first. -/
theorem wpAnyL_take {i : Nat} {oi : Oper} {v : Value} {fuel : Nat} {listed : Array Bool} {a : Act} {w : World} (hi : ops[i]? = some oi)
    (hs : Region.noSelect ops = true) (hf : Region.free md ops listed i = true) (hr : (Region.ready md ops listed).contains i = true) (hk : (waitsB md ops k i && (i != k)) = true)
    (hQ : ∀ c a w, Q (.panic c) (a.put oi.dst v) w → Q (.panic c) a w) (hy : YieldsIf P ops S oi v a) (hS : S w)
    (h : wpAnyL P md ops Q S k fuel (listed.setIfInBounds i true) (a.put oi.dst v) w) : wpAnyL P md ops Q S k (fuel + 1) listed a w := by
  simp only [Bool.and_eq_true, bne_iff_ne] at hk
  exact wpAnyL_first hi (Region.noSelect_spec hs) hQ hk.1 hk.2 fuel listed a w (Region.free_spec hi hf) (by simpa using hr) hy hS h
theorem wpAnyL_take2 {i : Nat} {oi : Oper} {v : Value} {fuel : Nat} {listed : Array Bool} {a : Act} {w : World} (j0 : Nat) (hi : ops[i]? = some oi)
    (hs : Region.noSelect ops = true) (hf : Region.free md ops listed i = true) (hr : (Region.ready md ops listed).contains i = true) (hk : (waitsB md ops k j0 && waitsB md ops j0 i && !(listed.getD j0 true)) = true)
    (hQ : ∀ c a w, Q (.panic c) (a.put oi.dst v) w → Q (.panic c) a w) (hy : YieldsIf P ops S oi v a) (hS : S w)
    (h : wpAnyL P md ops Q S k fuel (listed.setIfInBounds i true) (a.put oi.dst v) w) : wpAnyL P md ops Q S k (fuel + 1) listed a w := by
  simp only [Bool.and_eq_true, Bool.not_eq_true'] at hk
  exact wpAnyL_first2 hi (Region.noSelect_spec hs) hQ hk.1.1 hk.1.2 fuel listed a w hk.2 (Region.free_spec hi hf) (by simpa using hr) hy hS h
/-- The one that may come up comes up. -/
theorem wpAnyL_one {i : Nat} {o : Oper} {fuel : Nat} {listed : Array Bool} {a : Act} {w : World} (hr : Region.ready md ops listed = [i]) (ho : ops[i]? = some o) (hik : (i != k) = true)
    (h : ∀ K' : Act → World → Prop, Shut (∀ a w, S w → (S w → wpAnyL P md ops Q S k fuel (listed.setIfInBounds i true) a w) → K' a w) → if Region.wanted o (yielded ops a.tmps) = true then Oper.wp P o a w K' Q else K' (a.put o.dst undef) w) :
    wpAnyL P md ops Q S k (fuel + 1) listed a w := by
  refine ⟨fun h0 => absurd (hr.symm.trans h0) (by simp), fun j hj => ?_⟩
  rw [hr] at hj
  obtain rfl := List.mem_singleton.1 hj
  exact wpOp_step ho (fun K' hK => h K' (fun a w hS hW => hK a w ⟨fun _ => hS, hW hS⟩))
/-- The last one. -/
theorem wpAnyL_last {o : Oper} {fuel : Nat} {listed : Array Bool} {a : Act} {w : World} (hr : Region.ready md ops listed = [k]) (ho : ops[k]? = some o) (hd : Region.ready md ops (listed.setIfInBounds k true) = [])
    (h : ∀ K' : Act → World → Prop, Shut (∀ a w, Q .normal a w → K' a w) → if Region.wanted o (yielded ops a.tmps) = true then Oper.wp P o a w K' Q else K' (a.put o.dst undef) w) :
    wpAnyL P md ops Q S k (fuel + 1) listed a w := by
  refine ⟨fun h0 => absurd (hr.symm.trans h0) (by simp), fun j hj => ?_⟩
  rw [hr] at hj
  obtain rfl := List.mem_singleton.1 hj
  refine wpOp_step ho (fun K' hK => h K' (fun a w hW => hK a w ⟨fun hn => absurd rfl hn, ?_⟩))
  cases fuel with
  | zero => exact ⟨hd, hW⟩
  | succ n => exact ⟨fun _ => hW, fun i hi => by rw [hd] at hi; cases hi⟩
theorem wp_region_L {id : Nat} {a : Act} {w : World} (k : Nat) (hm : P.follows .mixedOrders = true) (hS : S w.drew)
    (h : S w.drew → wpAnyL P .any ops Q S k ops.size (Array.replicate ops.size false) a w.drew) : (Code.region id ops true).wp P Q a w :=
  wp_region_any hm (wpAny_of_L _ _ _ _ (h hS))
end

abbrev ptr (b : Nat) : Value := .pointer (some ⟨b, 0, none⟩)
def tkA (x : Tok) : Value := .agg #[I x.k, .string x.t, I x.p]
/-- Nothing that was there has turned but one block. -/
structure Qr (rb : Nat) (a w : World) : Prop where
  os : w.os = a.os
  tape : w.tape = a.tape
  output : w.output = a.output
  size : a.heap.size ≤ w.heap.size
  block : ∀ k, k < a.heap.size → k ≠ rb → w.heap[k]? = a.heap[k]?
theorem Qr.refl (rb : Nat) (a : World) : Qr rb a a := ⟨rfl, rfl, rfl, Nat.le_refl _, fun _ _ _ => rfl⟩
theorem Qr.trans {rb : Nat} {a b c : World} (h : Qr rb a b) (k : Qr rb b c) : Qr rb a c :=
  ⟨k.os.trans h.os, k.tape.trans h.tape, k.output.trans h.output, Nat.le_trans h.size k.size, fun j hj hn => (k.block j (Nat.lt_of_lt_of_le hj h.size) hn).trans (h.block j hj hn)⟩
theorem Qr.of {rb : Nat} {a b : World} (g : G a b) : Qr rb a b := ⟨g.os, g.tape, g.output, g.size, fun k hk _ => g.block k hk⟩
/-- What was there ahead of the reader stays. -/
theorem Qr.G {rb : Nat} {w a b : World} (h : Qr rb a b) (g : G w a) (hr : w.heap.size ≤ rb) : G w b :=
  ⟨h.os.trans g.os, h.tape.trans g.tape, h.output.trans g.output, Nat.le_trans g.size h.size, fun k hk => (h.block k (Nat.lt_of_lt_of_le hk g.size) (by omega)).trans (g.block k hk)⟩
/-- The reader at a place of its tokens. -/
structure Rd (rb g : Nat) (ts : List Tok) (i : Nat) (W : World) : Prop where
  c : W.heap[rb]? = some (.cells #[.slice (some ⟨g, i * 3, none⟩) (ts.length - i) (ts.length - i)] 58 (0, 0))
  t : ∀ j x, ts[j]? = some x → W.cell? ⟨g, j * 3, none⟩ = some (I x.k) ∧ W.cell? ⟨g, j * 3 + 1, none⟩ = some (.string x.t) ∧ W.cell? ⟨g, j * 3 + 2, none⟩ = some (I x.p)
  n : rb ≠ g
  l : i < ts.length
  s : ts.length ≤ 5000
theorem blk_lt {W : World} {b : Nat} {o : Obj} (h : W.heap[b]? = some o) : b < W.heap.size := by
  rcases Nat.lt_or_ge b W.heap.size with h1 | h1
  · exact h1
  · rw [Array.getElem?_eq_none h1] at h; cases h
theorem cell_lt {w : World} {b o : Nat} {u : Value} (h : w.cell? ⟨b, o, none⟩ = some u) : b < w.heap.size := Nat.lt_of_not_le fun hle => by
  have : w.heap[b]? = none := Array.getElem?_eq_none hle
  simp [World.cell?, this] at h
theorem Rd.G {rb g : Nat} {ts : List Tok} {i : Nat} {W W' : World} (h : Rd rb g ts i W) (q : G W W') : Rd rb g ts i W' :=
  ⟨(q.block rb (blk_lt h.c)).trans h.c, fun j x hx => by
    obtain ⟨h1, h2, h3⟩ := h.t j x hx
    exact ⟨(q.cell (cell_lt h1)).trans h1, (q.cell (cell_lt h2)).trans h2, (q.cell (cell_lt h3)).trans h3⟩, h.n, h.l, h.s⟩
theorem Rd.cell {rb g : Nat} {ts : List Tok} {i : Nat} {W : World} (h : Rd rb g ts i W) : W.cell? ⟨rb, 0, none⟩ = some (.slice (some ⟨g, i * 3, none⟩) (ts.length - i) (ts.length - i)) := by
  simp [World.cell?, h.c]
theorem Rd.frozen {rb g : Nat} {ts : List Tok} {i : Nat} {W : World} (h : Rd rb g ts i W) : W.frozen? ⟨rb, 0, none⟩ = false := by
  simp [World.frozen?, h.c]
theorem Rd.tok {rb g : Nat} {ts : List Tok} {i : Nat} {W : World} (h : Rd rb g ts i W) : ∃ x, ts[i]? = some x := ⟨_, List.getElem?_eq_getElem h.l⟩
/-- The reader goes on by one. -/
theorem Rd.step {rb g : Nat} {ts : List Tok} {i : Nat} {W : World} (h : Rd rb g ts i W) (hl : i + 1 < ts.length) : Rd rb g ts (i + 1) (W.setCell ⟨rb, 0, none⟩ (.slice (some ⟨g, (i + 1) * 3, none⟩) (ts.length - (i + 1)) (ts.length - (i + 1)))) ∧ Qr rb W (W.setCell ⟨rb, 0, none⟩ (.slice (some ⟨g, (i + 1) * 3, none⟩) (ts.length - (i + 1)) (ts.length - (i + 1)))) := by
  have hr := blk_lt h.c
  refine ⟨⟨?_, fun j x hx => ?_, h.n, hl, h.s⟩, ?_⟩
  · simp only [World.setCell, Array.getElem?_modify, if_pos]
    rw [h.c]
    simp
  · obtain ⟨h1, h2, h3⟩ := h.t j x hx
    have e : ∀ o, (W.setCell ⟨rb, 0, none⟩ (.slice (some ⟨g, (i + 1) * 3, none⟩) (ts.length - (i + 1)) (ts.length - (i + 1)))).cell? ⟨g, o, none⟩ = W.cell? ⟨g, o, none⟩ := fun o => by
      refine World.cell?_of_block ?_
      simp only [World.setCell, Array.getElem?_modify]
      rw [if_neg h.n]
    rw [e, e, e]
    exact ⟨h1, h2, h3⟩
  · refine ⟨rfl, rfl, rfl, by simp [World.setCell], fun k hk hn => ?_⟩
    simp only [World.setCell, Array.getElem?_modify]
    rw [if_neg (Ne.symm hn)]
theorem set_other (W : World) (b o k : Nat) (v : Value) (h : b ≠ k) : (W.setCell ⟨b, o, none⟩ v).heap[k]? = W.heap[k]? := by
  simp only [World.setCell, Array.getElem?_modify]
  rw [if_neg h]
theorem Rd.set {rb g : Nat} {ts : List Tok} {i : Nat} {W : World} (h : Rd rb g ts i W) {b : Nat} (o : Nat) (v : Value) (h1 : b ≠ rb) (h2 : b ≠ g) : Rd rb g ts i (W.setCell ⟨b, o, none⟩ v) :=
  ⟨(set_other W b o rb v h1).trans h.c, fun j x hx => by
    obtain ⟨q1, q2, q3⟩ := h.t j x hx
    have e : ∀ p, (W.setCell ⟨b, o, none⟩ v).cell? ⟨g, p, none⟩ = W.cell? ⟨g, p, none⟩ := fun p => World.cell?_of_block (set_other W b o g v h2)
    rw [e, e, e]
    exact ⟨q1, q2, q3⟩, h.n, h.l, h.s⟩
theorem Qr.set {rb : Nat} {a w : World} (h : Qr rb a w) {b : Nat} (o : Nat) (v : Value) (hb : a.heap.size ≤ b) : Qr rb a (w.setCell ⟨b, o, none⟩ v) :=
  ⟨h.os, h.tape, h.output, by simp [World.setCell]; exact h.size, fun k hk hn => (set_other w b o k v (by omega)).trans (h.block k hk hn)⟩
theorem Rd.gl {rb g : Nat} {ts : List Tok} {i : Nat} {W : World} (h : Rd rb g ts i W) : g < W.heap.size := by
  obtain ⟨x, hx⟩ := h.tok
  exact cell_lt (h.t i x hx).1
end
open Go.RowKit

theorem G.three {a w : World} (g : G a w) (v0 v1 v2 : Value) : G a (((w.setCell ⟨a.heap.size, 0, none⟩ v0).setCell ⟨a.heap.size, 1, none⟩ v1).setCell ⟨a.heap.size, 2, none⟩ v2) :=
  ((g.setCell (Nat.le_refl _) _).setCell (Nat.le_refl _) _).setCell (Nat.le_refl _) _
set_option maxRecDepth 100000 in
set_option maxHeartbeats 1000000 in
theorem next_any {rb g : Nat} {ts : List Tok} {i : Nat} {W : World} (h : Rd rb g ts i W) {x : Tok} (hx : ts[i]? = some x) : Calls Tryz.prog 16 #[ptr rb] W fun e W' => e = .returned (tkA x) ∧ G W W' := by
  have hA := h.G ((G.refl W).alloc (.cells #[I 0, .string E0, I 0] 60))
  have hc := hA.cell
  obtain ⟨t1, t2, t3⟩ := hA.t i x hx
  have hl := h.l
  obtain ⟨n, hn⟩ : ∃ n, n = ts.length - i := ⟨_, rfl⟩
  rw [← hn] at hc
  have hnI : (0 : Int) < (n : Int) := by omega
  have hr := blk_lt h.c
  have hne : ¬ rb = W.heap.size := by omega
  have hgl := cell_lt (h.t i x hx).1
  have hne2 : ¬ g = W.heap.size := by omega
  clear hA h hx hl hn hr hgl
  go_enter Tryz.func16, Tryz.ntmps16
  go_wp2
  refine bodyPost_ret (v := .agg #[I x.k, .string x.t, I x.p]) (by simp [results, Tryz.results16, go_sem]) rfl ⟨rfl, (G.refl W).alloc _⟩
set_option maxRecDepth 100000 in
set_option maxHeartbeats 1000000 in
theorem pass_any {rb g : Nat} {ts : List Tok} {i : Nat} {W : World} (h : Rd rb g ts i W) {x : Tok} (hx : ts[i]? = some x) (hl2 : i + 1 < ts.length) : Calls Tryz.prog 65 #[ptr rb] W fun e W' => e = .returned (tkA x) ∧ Rd rb g ts (i + 1) W' ∧ Qr rb W W' := by
  have hA := h.G ((G.refl W).alloc (.cells #[I 0, .string E0, I 0] 60))
  have hB := hA.G ((G.refl _).alloc (.cells #[I x.k, .string x.t, I x.p] 60))
  have hc := hA.cell
  have hd := hB.cell
  have hf := hB.frozen
  obtain ⟨t1, t2, t3⟩ := hA.t i x hx
  have hl := h.l
  have hs := h.s
  obtain ⟨n, hn⟩ : ∃ n, n = ts.length - i := ⟨_, rfl⟩
  rw [← hn] at hc hd
  have hnI : (0 : Int) < (n : Int) := by omega
  have hn1 : (1 : Int) ≤ (n : Int) := by omega
  have hr := blk_lt h.c
  have hne : ¬ rb = W.heap.size := by omega
  have hne3 : ¬ rb = W.heap.size + 1 := by omega
  have hn5 : W.heap.size ≠ rb := fun e => hne e.symm
  have hn6 : W.heap.size ≠ g := by have := h.gl; omega
  have HST := xh (hB.step hl2)
  have HGB := xh (((G.refl W).alloc (.cells #[I 0, .string E0, I 0] 60)).alloc (.cells #[I x.k, .string x.t, I x.p] 60))
  clear hA h hx hl hr hB
  go_enter Tryz.func65, Tryz.ntmps65
  go_wp2_with fail
  go_region
  have e1 : (i + 1) * 3 = i * 3 + 3 := by omega
  have e2 : ts.length - (i + 1) = ts.length - i - 1 := by omega
  have hq := HST.out
  rw [e1, e2] at hq
  have HRD := xh (hq.1.G (G.drew (G.refl _)))
  have HQR := xh (((Qr.of HGB.out).trans hq.2).trans (Qr.of (G.drew (G.refl _))))
  have HC1 : Hid (∀ o, ((((W.alloc (.cells #[I 0, .string E0, I 0] 60)).alloc (.cells #[I x.k, .string x.t, I x.p] 60)).setCell ⟨rb, 0, none⟩ (.slice (some ⟨g, i * 3 + 3, none⟩) (ts.length - i - 1) (ts.length - i - 1))).drew).cell? ⟨W.heap.size + 1, o, none⟩ = [I x.k, .string x.t, I x.p][o]?) := fun o => by
    have e := World.size_alloc W (.cells #[I 0, .string E0, I 0] 60)
    have k1 : ∀ v : Value, (((W.alloc (.cells #[I 0, .string E0, I 0] 60)).alloc (.cells #[I x.k, .string x.t, I x.p] 60)).setCell ⟨rb, 0, none⟩ v).cell? ⟨W.heap.size + 1, o, none⟩ = ((W.alloc (.cells #[I 0, .string E0, I 0] 60)).alloc (.cells #[I x.k, .string x.t, I x.p] 60)).cell? ⟨W.heap.size + 1, o, none⟩ := fun v => World.cell?_of_block (by simp only [World.setCell, Array.getElem?_modify]; rw [if_neg hne3])
    refine (k1 _).trans ?_
    rw [← e]; simp
  have hc1 := HC1.out
  have HC2 : Hid (∀ o, ((((W.alloc (.cells #[I 0, .string E0, I 0] 60)).alloc (.cells #[I x.k, .string x.t, I x.p] 60)).setCell ⟨rb, 0, none⟩ (.slice (some ⟨g, i * 3 + 3, none⟩) (ts.length - i - 1) (ts.length - i - 1))).drew).cell? ⟨W.heap.size, o, none⟩ = [I 0, .string E0, I 0][o]?) := fun o => by
    have k1 : ∀ v : Value, (((W.alloc (.cells #[I 0, .string E0, I 0] 60)).alloc (.cells #[I x.k, .string x.t, I x.p] 60)).setCell ⟨rb, 0, none⟩ v).cell? ⟨W.heap.size, o, none⟩ = ((W.alloc (.cells #[I 0, .string E0, I 0] 60)).alloc (.cells #[I x.k, .string x.t, I x.p] 60)).cell? ⟨W.heap.size, o, none⟩ := fun v => World.cell?_of_block (by simp only [World.setCell, Array.getElem?_modify]; rw [if_neg hne])
    refine (k1 _).trans ?_
    exact G.cells (b := W.heap.size) (f := fun o => [I 0, .string E0, I 0][o]?) ((G.refl _).alloc _) (fun o => by simp) (by simp) o
  have hc2 := HC2.out
  have HC3 : Hid (∀ o, ((((W.alloc (.cells #[I 0, .string E0, I 0] 60)).alloc (.cells #[I x.k, .string x.t, I x.p] 60)).setCell ⟨rb, 0, none⟩ (.slice (some ⟨g, i * 3 + 3, none⟩) (ts.length - i - 1) (ts.length - i - 1))).drew).frozen? ⟨W.heap.size, o, none⟩ = false) := fun o => by
    have k1 : ∀ v : Value, (((W.alloc (.cells #[I 0, .string E0, I 0] 60)).alloc (.cells #[I x.k, .string x.t, I x.p] 60)).setCell ⟨rb, 0, none⟩ v).frozen? ⟨W.heap.size, o, none⟩ = ((W.alloc (.cells #[I 0, .string E0, I 0] 60)).alloc (.cells #[I x.k, .string x.t, I x.p] 60)).frozen? ⟨W.heap.size, o, none⟩ := fun v => World.frozen?_of_block (by simp only [World.setCell, Array.getElem?_modify]; rw [if_neg hne])
    refine (k1 _).trans ?_
    exact G.frozens (b := W.heap.size) (f := fun _ => false) ((G.refl _).alloc _) (fun o => by simp) (by simp) o
  have hc3 := HC3.out
  clear hq HST HC1 HC2 HC3 HGB hc hd hf t1 t2 t3 e1 e2
  generalize ((((W.alloc (.cells #[I 0, .string E0, I 0] 60)).alloc (.cells #[I x.k, .string x.t, I x.p] 60)).setCell ⟨rb, 0, none⟩ (.slice (some ⟨g, i * 3 + 3, none⟩) (ts.length - i - 1) (ts.length - i - 1))).drew) = wz at hc1 hc2 hc3 HRD HQR ⊢
  go_wp2
  refine bodyPost_ret (v := .agg #[I x.k, .string x.t, I x.p]) (by simp [results, Tryz.results65, go_sem, hc2]) rfl ⟨rfl, ?_⟩
  exact ⟨((HRD.out.set 0 _ hn5 hn6).set 1 _ hn5 hn6).set 2 _ hn5 hn6, ((HQR.out.set 0 _ (Nat.le_refl _)).set 1 _ (Nat.le_refl _)).set 2 _ (Nat.le_refl _)⟩
/-- Is it that word or mark? -/
def seB (x : Tok) (t : ByteArray) : Bool := (x.k == 2 || x.k == 6) && (x.t.toList == t.toList)
set_option maxRecDepth 100000 in
set_option maxHeartbeats 1000000 in
theorem atEnd_any {rb g : Nat} {ts : List Tok} {i : Nat} {W : World} (h : Rd rb g ts i W) {x : Tok} (hx : ts[i]? = some x) : Calls Tryz.prog 33 #[ptr rb] W fun e W' => e = .returned (.bool (x.k == 7)) ∧ G W W' := by
  have HN := xh (next_any h hx)
  have hfd : ∀ w : World, (Instr.field 60 (.agg #[I x.k, .string x.t, I x.p]) 0).run Tryz.prog w = .ok (I x.k) w := fun _ => by kernel_rfl
  clear h hx
  go_enter Tryz.func33, Tryz.ntmps33
  go_wp2_with (first | (go_at_call 16; refine Hid.out ?_) | fail)
  unfold Hid
  refine HN.out.mono ?_
  rintro e w1 ⟨rfl, hg⟩
  have HG := xh hg
  clear hg HN
  simp only [tkA]
  go_wp2
  go_ret
  exact ⟨rfl, HG.out⟩
set_option maxRecDepth 100000 in
set_option maxHeartbeats 1000000 in
theorem atName_any {rb g : Nat} {ts : List Tok} {i : Nat} {W : World} (h : Rd rb g ts i W) {x : Tok} (hx : ts[i]? = some x) : Calls Tryz.prog 76 #[ptr rb] W fun e W' => e = .returned (.bool (x.k == 1)) ∧ G W W' := by
  have HN := xh (next_any h hx)
  have hfd : ∀ w : World, (Instr.field 60 (.agg #[I x.k, .string x.t, I x.p]) 0).run Tryz.prog w = .ok (I x.k) w := fun _ => by kernel_rfl
  clear h hx
  go_enter Tryz.func76, Tryz.ntmps76
  go_wp2_with (first | (go_at_call 16; refine Hid.out ?_) | fail)
  unfold Hid
  refine HN.out.mono ?_
  rintro e w1 ⟨rfl, hg⟩
  have HG := xh hg
  clear hg HN
  simp only [tkA]
  go_wp2
  go_ret
  exact ⟨rfl, HG.out⟩
set_option maxRecDepth 100000 in
set_option maxHeartbeats 1000000 in
theorem atNum_any {rb g : Nat} {ts : List Tok} {i : Nat} {W : World} (h : Rd rb g ts i W) {x : Tok} (hx : ts[i]? = some x) : Calls Tryz.prog 125 #[ptr rb] W fun e W' => e = .returned (.bool (x.k == 3)) ∧ G W W' := by
  have HN := xh (next_any h hx)
  have hfd : ∀ w : World, (Instr.field 60 (.agg #[I x.k, .string x.t, I x.p]) 0).run Tryz.prog w = .ok (I x.k) w := fun _ => by kernel_rfl
  clear h hx
  go_enter Tryz.func125, Tryz.ntmps125
  go_wp2_with (first | (go_at_call 16; refine Hid.out ?_) | fail)
  unfold Hid
  refine HN.out.mono ?_
  rintro e w1 ⟨rfl, hg⟩
  have HG := xh hg
  clear hg HN
  simp only [tkA]
  go_wp2
  go_ret
  exact ⟨rfl, HG.out⟩
set_option maxRecDepth 100000 in
set_option maxHeartbeats 1000000 in
theorem sees_any {rb g : Nat} {ts : List Tok} {i : Nat} {W : World} (h : Rd rb g ts i W) {x : Tok} (hx : ts[i]? = some x) (t : ByteArray) : Calls Tryz.prog 26 #[ptr rb, .string t] W fun e W' => e = .returned (.bool (seB x t)) ∧ G W W' := by
  have HN := xh (next_any h hx)
  have HS : Hid (seB x t = ((x.k == 2 || x.k == 6) && (x.t.toList == t.toList))) := rfl
  generalize seB x t = sb at HS ⊢
  obtain ⟨k, tx, p⟩ := x
  clear h hx
  simp only at HS
  by_cases h2 : k = 2
  · subst h2
    go_enter Tryz.func26, Tryz.ntmps26
    go_wp2_with (first | (go_at_call 16; refine Hid.out ?_) | fail)
    unfold Hid
    refine HN.out.mono ?_
    rintro e w1 ⟨rfl, hg⟩
    have HG := xh (hg.alloc (.cells #[I 2, .string tx, I p] 60))
    clear hg HN
    simp only [tkA]
    go_wp2
    go_ret
    exact ⟨by rw [HS.out]; simp, HG.out⟩
  · have k2 : (k == 2) = false := beq_false_of_ne h2
    by_cases h6 : k = 6
    · subst h6
      clear h2 k2
      go_enter Tryz.func26, Tryz.ntmps26
      go_wp2_with (first | (go_at_call 16; refine Hid.out ?_) | fail)
      unfold Hid
      refine HN.out.mono ?_
      rintro e w1 ⟨rfl, hg⟩
      have HG := xh (hg.alloc (.cells #[I 6, .string tx, I p] 60))
      clear hg HN
      simp only [tkA]
      go_wp2
      go_ret
      exact ⟨by rw [HS.out]; simp, HG.out⟩
    · have k6 : (k == 6) = false := beq_false_of_ne h6
      have HS2 : Hid (sb = false) := by rw [HS.out, k2, k6]; exact rfl
      clear h2 h6 HS
      go_enter Tryz.func26, Tryz.ntmps26
      go_wp2_with (first | (go_at_call 16; refine Hid.out ?_) | fail)
      unfold Hid
      refine HN.out.mono ?_
      rintro e w1 ⟨rfl, hg⟩
      have HG := xh (hg.alloc (.cells #[I k, .string tx, I p] 60))
      clear hg HN
      simp only [tkA]
      go_wp2
      go_ret
      exact ⟨by rw [HS2.out]; rfl, HG.out⟩
set_option maxRecDepth 100000 in
set_option maxHeartbeats 1000000 in
theorem took_no {rb g : Nat} {ts : List Tok} {i : Nat} {W : World} (h : Rd rb g ts i W) {x : Tok} (hx : ts[i]? = some x) (t : ByteArray) (hn : seB x t = false) : Calls Tryz.prog 44 #[ptr rb, .string t] W fun e W' => e = .returned (.bool false) ∧ G W W' := by
  have HS := xh (sees_any h hx t)
  rw [hn] at HS
  clear h hx hn
  go_enter Tryz.func44, Tryz.ntmps44
  go_wp2_with (first | (go_at_call 26; refine HS.out.mono ?_; rintro e w1 ⟨rfl, hg⟩) | fail)
  go_ret
  exact ⟨rfl, hg⟩
set_option maxRecDepth 100000 in
set_option maxHeartbeats 1000000 in
theorem took_yes {rb g : Nat} {ts : List Tok} {i : Nat} {W : World} (h : Rd rb g ts i W) {x : Tok} (hx : ts[i]? = some x) (t : ByteArray) (hn : seB x t = true) (hl2 : i + 1 < ts.length) : Calls Tryz.prog 44 #[ptr rb, .string t] W fun e W' => e = .returned (.bool true) ∧ Rd rb g ts (i + 1) W' ∧ Qr rb W W' := by
  have HS := xh (sees_any h hx t)
  rw [hn] at HS
  have HR := xh h
  have HX := xh hx
  clear h hx hn
  go_enter Tryz.func44, Tryz.ntmps44
  go_wp2_with (first | (go_at_call 26; refine Hid.out ?_) | fail)
  unfold Hid
  refine HS.out.mono ?_
  rintro e w1 ⟨rfl, hg⟩
  have HP := xh (pass_any (HR.out.G hg) HX.out hl2)
  have HG := xh hg
  clear hg HS HR
  go_wp2_with (first | (go_at_call 65; refine Hid.out ?_) | fail)
  unfold Hid
  refine HP.out.mono ?_
  rintro e w2 ⟨rfl, hrd, hq⟩
  have HR2 := xh hrd
  have HQ := xh ((Qr.of HG.out).trans hq)
  clear hrd hq HP HG
  go_wp2
  go_ret
  exact ⟨rfl, HR2.out, HQ.out⟩
set_option maxRecDepth 100000 in
set_option maxHeartbeats 1000000 in
theorem must_yes {rb : Nat} (W : World) : Calls Tryz.prog 32 #[ptr rb, .bool true] W fun e W' => e = .returned (.tuple #[]) ∧ W' = W := by
  go_enter Tryz.func32, Tryz.ntmps32
  go_wp2
  go_end0
  exact ⟨rfl, rfl⟩
set_option maxRecDepth 100000 in
set_option maxHeartbeats 1000000 in
theorem must_no {rb g : Nat} {ts : List Tok} {i : Nat} {W : World} (h : Rd rb g ts i W) {x : Tok} (hx : ts[i]? = some x) : Calls Tryz.prog 32 #[ptr rb, .bool false] W fun e W' => e = .panicked [{ v := .iface 55 (.agg #[I 101, I x.p]), recovered := false }] ∧ G W W' := by
  have HN := xh (next_any h hx)
  have hfd : ∀ w : World, (Instr.field 60 (.agg #[I x.k, .string x.t, I x.p]) 2).run Tryz.prog w = .ok (I x.p) w := fun _ => by kernel_rfl
  clear h hx
  go_enter Tryz.func32, Tryz.ntmps32
  go_wp2_with (first | (go_at_call 16; refine Hid.out ?_) | fail)
  unfold Hid
  refine HN.out.mono ?_
  rintro e w1 ⟨rfl, hg⟩
  have HG := xh hg
  clear hg HN
  simp only [tkA]
  go_wp2
  exact ⟨rfl, rfl, HG.out⟩
end Go.Proofs.YthpflfkgbapbnaaGreatDoor
