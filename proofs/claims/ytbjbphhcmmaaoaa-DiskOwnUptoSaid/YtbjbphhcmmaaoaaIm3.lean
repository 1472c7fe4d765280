/- twin: one operation on both disks. -/
import Derived.Test.YtbjbphhcmmaaoaaIm2
namespace Go.Proofs.Ytbjbphhcmmaaoaa
open Go.RowKit

/-- Two disks that only their counts tell apart. -/
def Twn (a b : DM) : Prop := a.n = b.n ∧ a.laid = b.laid ∧ a.pend = b.pend ∧ a.off = b.off ∧ a.fuse = b.fuse
theorem Twn.spent {a b : DM} (h : Twn a b) : a.spent.2 = b.spent.2 ∧ Twn a.spent.1 b.spent.1 := by
  obtain ⟨n, laid, pend, off, fuse, wr, fl⟩ := a
  obtain ⟨n', laid', pend', off', fuse', wr', fl'⟩ := b
  obtain ⟨h1, h2, h3, h4, h5⟩ := h
  simp only at h1 h2 h3 h4 h5
  subst h1 h2 h3 h4 h5
  cases off with
  | true => exact ⟨rfl, rfl, rfl, rfl, rfl, rfl⟩
  | false =>
    cases fuse with
    | none => exact ⟨rfl, rfl, rfl, rfl, rfl, rfl⟩
    | some k => cases k <;> exact ⟨rfl, rfl, rfl, rfl, rfl, rfl⟩
theorem Twn.write {a b : DM} (h : Twn a b) (n : Int) (xs : List Nat) : (a.write n xs).2 = (b.write n xs).2 ∧ Twn (a.write n xs).1 (b.write n xs).1 := by
  obtain ⟨s1, s2⟩ := h.spent
  unfold DM.write
  rw [h.1, s1]
  split
  · exact ⟨rfl, h⟩
  · split
    · exact ⟨rfl, h⟩
    · obtain ⟨h1, h2, h3, h4, h5⟩ := s2
      split
      · refine ⟨rfl, h1, h2, ?_, h4, h5⟩
        simp only
        rw [h3]
      · exact ⟨rfl, h1, h2, h3, h4, h5⟩
theorem Twn.flush {a b : DM} (h : Twn a b) : a.flush.2 = b.flush.2 ∧ Twn a.flush.1 b.flush.1 := by
  obtain ⟨s1, s2⟩ := h.spent
  unfold DM.flush
  rw [s1]
  obtain ⟨h1, h2, h3, h4, h5⟩ := s2
  split
  · refine ⟨rfl, h1, ?_, rfl, h4, h5⟩
    simp only
    rw [h2, h3]
  · exact ⟨rfl, h1, h2, h3, h4, h5⟩
theorem Twn.cut {a b : DM} (h : Twn a b) (n : Int) : (a.cut n).2 = (b.cut n).2 ∧ Twn (a.cut n).1 (b.cut n).1 := by
  obtain ⟨h1, h2, h3, h4, h5⟩ := h
  unfold DM.cut
  rw [h4]
  split
  · exact ⟨rfl, h1, h2, h3, h4, h5⟩
  · split
    · exact ⟨rfl, h1, h2, h3, h4, h5⟩
    · exact ⟨rfl, h1, h2, h3, rfl, rfl⟩
theorem Twn.crash {a b : DM} (h : Twn a b) (ks : List Bool) : (a.crash ks).2 = (b.crash ks).2 ∧ Twn (a.crash ks).1 (b.crash ks).1 := by
  obtain ⟨h1, h2, h3, h4, h5⟩ := h
  unfold DM.crash
  rw [h2, h3]
  exact ⟨rfl, h1, rfl, rfl, rfl, rfl⟩
theorem Twn.read {a b : DM} (h : Twn a b) (n : Int) : rdC (some b) n = rdC (some a) n ∧ rdB (some b) n = rdB (some a) n := by
  obtain ⟨h1, h2, h3, h4, h5⟩ := h
  unfold rdC rdB DM.newest
  simp only [h1, h2, h3, h4, and_self]
/-- Two disks side by side. -/
structure Pr (w : World) (q1 q2 : Addr) (F1 F2 : Nat → Prop) (m1 m2 : DM) (B : Nat) : Prop where
  a : SlP w F1 (.pointer (some q1)) (some m1)
  b : SlP w F2 (.pointer (some q2)) (some m2)
  t : Twn m1 m2
  x : m1.few B
  y : m2.few B
  d : ∀ k, F1 k → ¬ F2 k
  l : ∀ k, F1 k ∨ F2 k → k < w.heap.size
theorem Pr.G {w w' : World} {q1 q2 : Addr} {F1 F2 : Nat → Prop} {m1 m2 : DM} {B : Nat} (h : Pr w q1 q2 F1 F2 m1 m2 B) (g : Go.Proofs.Ytbjbphhcmmaaoaa.G w w') : Pr w' q1 q2 F1 F2 m1 m2 B :=
  ⟨h.a.G g, h.b.G g, h.t, h.x, h.y, h.d, fun k hk => Nat.lt_of_lt_of_le (h.l k hk) g.size⟩
def PrA (w : World) (q1 q2 : Addr) (F1 F2 : Nat → Prop) (B : Nat) (w' : World) : Prop := ∃ F1' F2' m1' m2', Pr w' q1 q2 F1' F2' m1' m2' (B + 1) ∧ Chg (fun k => F1 k ∨ F2 k) w w' ∧ ∀ k, F1' k ∨ F2' k → F1 k ∨ F2 k ∨ w.heap.size ≤ k
theorem few_up {m : DM} {B : Nat} (h : m.few B) : m.few (B + 1) := ⟨by have := h.w; omega, by have := h.f; omega, by have := h.p; omega⟩
theorem Pr.stay {w w' : World} {q1 q2 : Addr} {F1 F2 : Nat → Prop} {m1 m2 : DM} {B : Nat} (h : Pr w q1 q2 F1 F2 m1 m2 B) (g : Go.Proofs.Ytbjbphhcmmaaoaa.G w w') : PrA w q1 q2 F1 F2 B w' :=
  ⟨F1, F2, m1, m2, ⟨h.a.G g, h.b.G g, h.t, few_up h.x, few_up h.y, h.d, fun k hk => Nat.lt_of_lt_of_le (h.l k hk) g.size⟩, g.chg, fun _ hk => hk.imp id .inl⟩
theorem PrA.back {w w1 w' : World} {q1 q2 : Addr} {F1 F2 : Nat → Prop} {B : Nat} (h : PrA w1 q1 q2 F1 F2 B w') (g : G w w1) : PrA w q1 q2 F1 F2 B w' := by
  obtain ⟨F1', F2', m1', m2', h1, h2, h3⟩ := h
  exact ⟨F1', F2', m1', m2', h1, g.chg.trans h2, fun k hk => (h3 k hk).imp id (fun x => x.imp id (fun y => Nat.le_trans g.size y))⟩
theorem One.b {w w1 : World} {q : Addr} {F F2 : Nat → Prop} {m' m2 : DM} {B : Nat} {v : Value} (h : One w q F m' B w1) (hb : SlP w F2 v (some m2)) (hd : ∀ k, F k → ¬ F2 k) : SlP w1 F2 v (some m2) := by
  obtain ⟨_, _, _, hc, _⟩ := h
  exact hb.chg hc (fun k hk e => hd k e hk)
theorem One.size {w w1 : World} {q : Addr} {F : Nat → Prop} {m' : DM} {B : Nat} (h : One w q F m' B w1) : w.heap.size ≤ w1.heap.size := by
  obtain ⟨_, _, _, hc, _⟩ := h
  exact hc.size
theorem Pr.both {w w1 w2 : World} {q1 q2 : Addr} {F1 F2 : Nat → Prop} {m1 m2 m1' m2' : DM} {B : Nat} (h : Pr w q1 q2 F1 F2 m1 m2 B) (o1 : One w q1 F1 m1' B w1) (o2 : One w1 q2 F2 m2' B w2) (ht : Twn m1' m2') : PrA w q1 q2 F1 F2 B w2 := by
  obtain ⟨G1, a1, a2, a3, a4⟩ := o1
  obtain ⟨G2, b1, b2, b3, b4⟩ := o2
  have z1 := a3.size
  have z2 := b3.size
  have hd1 : ∀ k, G1 k → ¬ F2 k := fun k h1 h2 => by
    rcases a4 k h1 with e | e
    · exact h.d k e h2
    · have := h.l k (.inr h2); omega
  refine ⟨G1, G2, m1', m2', ⟨a1.chg b3 hd1, b1, ht, a2, b2, fun k h1 h2 => ?_, fun k hk => ?_⟩, (a3.mono (fun k e => .inl e)).trans (b3.mono (fun k e => .inr e)), fun k hk => ?_⟩
  · rcases b4 k h2 with e | e
    · exact hd1 k h1 e
    · rcases a4 k h1 with e' | e'
      · have := h.l k (.inl e'); omega
      · omega
  · rcases hk with hk | hk
    · rcases a4 k hk with e | e
      · have := h.l k (.inl e); omega
      · omega
    · rcases b4 k hk with e | e
      · have := h.l k (.inr e); omega
      · omega
  · rcases hk with hk | hk
    · exact (a4 k hk).imp id (fun e => .inr e.1)
    · rcases b4 k hk with e | e
      · exact .inr (.inl e)
      · exact .inr (.inr (by omega))
set_option maxRecDepth 100000 in
set_option maxHeartbeats 4000000 in
theorem twin_read (who n : Int) (dv kv : Value) (q1 q2 : Addr) (F1 F2 : Nat → Prop) (m1 m2 : DM) (B : Nat) (hBB : B ≤ 549755813888) (w : World) (h : Pr w q1 q2 F1 F2 m1 m2 B) : Calls Try.prog 17 #[.pointer (some q1), .pointer (some q2), .agg #[I 4, I who, I n, dv, kv]] w fun e w' => e = .returned (.bool true) ∧ PrA w q1 q2 F1 F2 B w' := by
  have HS0 := hide h
  have HO1 := hide (Blk.new w [I 4, I who, I n, dv, kv] 39)
  have HG1 := hide ((G.refl w).alloc (.cells #[I 4, I who, I n, dv, kv] 39))
  have HL := hide h.l
  clear h
  have HR1 := hide (fun W (hW : SlP W F1 (.pointer (some q1)) (some m1)) => uP_read F1 (some m1) _ n W (few_to HS0.out.x hBB) hW)
  have HR2 := hide (fun W (hW : SlP W F2 (.pointer (some q2)) (some m2)) => uP_read F2 (some m2) _ n W (few_to HS0.out.y hBB) hW)
  rw [(HS0.out.t.read n).1, (HS0.out.t.read n).2] at HR2
  have HLN : Hid ((rdB (some m1) n).length ≤ 4611686018427387904) := by
    unfold Hid
    obtain ⟨p, _, hd⟩ := HS0.out.a
    by_cases hn : 0 ≤ n ∧ n < m1.n
    · cases ho : m1.off with
      | true => simp [rdB, hn, ho]
      | false => simp only [rdB, if_pos hn, ho]; simp only [Bool.false_eq_true, if_false]; rw [DM.newest_len hd.ok (by omega)]; decide
    · simp [rdB, hn]
  generalize rdC (some m1) n = rc at HR1 HR2
  generalize rdB (some m1) n = rb at HR1 HR2 HLN
  go_enter Try.func17, Try.ntmps17
  go_wp2_with fail
  have hco := HO1.out.cell
  generalize w.alloc (.cells #[I 4, I who, I n, dv, kv] 39) = w1 at HO1 HG1 hco ⊢
  have HS1 := hide (HS0.out.G HG1.out)
  refine (HR1.out _ HS1.out.a).mono ?_
  rintro e' w2 ⟨x2, rfl, hg2, hx2⟩
  have HG2 := hide hg2
  have HX2 := hide hx2
  clear hg2 hx2 hco
  have hco := (HO1.out.G HG2.out).cell
  go_wp2_with fail
  refine (HR2.out _ (HS1.out.b.G HG2.out)).mono ?_
  rintro e' w3 ⟨x3, rfl, hg3, hx3⟩
  have HSM := hide (same_true x2 x3 rb HLN.out w3 (HX2.out.G hg3) hx3)
  have HG3 := hide hg3
  clear hg3 hx3 hco
  go_wp2_with fail
  refine HSM.out.mono ?_
  rintro e' w4 ⟨rfl, hg4⟩
  have HG4 := hide hg4
  clear hg4
  go_wp2
  go_ret
  exact ⟨rfl, (HS0.out.stay (((HG1.out.trans HG2.out).trans HG3.out).trans HG4.out))⟩
theorem One.blk {w w1 w2 w3 : World} {q : Addr} {F : Nat → Prop} {m' : DM} {B : Nat} {t : TypeId} {L : List Value} (h : One w2 q F m' B w3) (hb : Blk w1 w.heap.size t L) (g : G w1 w2) (hF : ∀ k, F k → k < w.heap.size) : Blk w3 w.heap.size t L := by
  obtain ⟨_, _, _, hc, _⟩ := h
  exact (hb.G g).chg hc (fun e => Nat.lt_irrefl _ (hF _ e))
theorem One.bytes {w w1 : World} {q : Addr} {F : Nat → Prop} {m' : DM} {B : Nat} {v : Value} {xs : List Nat} (h : One w q F m' B w1) (hb : Bytes w v xs) (hF : ∀ j, Value.blk v j → ¬ F j) : Bytes w1 v xs := by
  obtain ⟨_, _, _, hc, _⟩ := h
  exact hb.chg hc hF
theorem One.keeps {w w1 : World} {q : Addr} {F : Nat → Prop} {m' : DM} {B : Nat} {v : Value} {xs : List Bool} (h : One w q F m' B w1) (hb : Keeps w v xs) (hF : ∀ j, Value.blk v j → ¬ F j) : Keeps w1 v xs := by
  obtain ⟨_, _, _, hc, _⟩ := h
  exact hb.chg hc hF
set_option maxRecDepth 100000 in
set_option maxHeartbeats 4000000 in
theorem twin_write (who n : Int) (dv kv : Value) (q1 q2 : Addr) (F1 F2 : Nat → Prop) (m1 m2 : DM) (B : Nat) (hBB : B ≤ 549755813888) (xs : List Nat) (hxb : ∀ x ∈ xs, x < 256) (hxl : xs.length ≤ 1073741824) (w : World) (hdb : Bytes w dv xs) (hdn : dv = .slice none 0 0 ∨ ∃ ad n c, dv = .slice (some ad) n c) (hdF : ∀ j, Value.blk dv j → ¬ F1 j ∧ ¬ F2 j) (h : Pr w q1 q2 F1 F2 m1 m2 B) : Calls Try.prog 17 #[.pointer (some q1), .pointer (some q2), .agg #[I 5, I who, I n, dv, kv]] w fun e w' => e = .returned (.bool true) ∧ PrA w q1 q2 F1 F2 B w' := by
  have HS0 := hide h
  have HO1 := hide (Blk.new w [I 5, I who, I n, dv, kv] 39)
  have HG1 := hide ((G.refl w).alloc (.cells #[I 5, I who, I n, dv, kv] 39))
  have HL := hide h.l
  clear h
  have HDB := hide hdb
  have HDN := hide hdn
  have HDF := hide hdF
  have HXB := hide hxb
  have HXL := hide hxl
  have HT := hide (HS0.out.t.write n xs)
  clear hdb hdn hxb hxl hdF
  go_enter Try.func17, Try.ntmps17
  go_wp2_with fail
  generalize w.alloc (.cells #[I 5, I who, I n, dv, kv] 39) = w1 at HO1 HG1 ⊢
  have HS1 := hide (HS0.out.G HG1.out)
  refine wp_region_noPanic ?_
  refine wp_region_held_drew (S := (fun W => ∀ j, W.cell? ⟨w.heap.size, j, none⟩ = ([I 5, I who, I n, dv, kv] : List Value)[j]?)) (by kernel_rfl) ((HO1.out.G (G.drew (G.refl _))).cell) (fun hHeld => ?_)
  refine wpAnyH_take (i := 0) (v := ?_) rfl (by kernel_rfl) (by kernel_rfl) (by kernel_rfl) (fun _ _ _ h => h) (Or.inl ⟨by rfl, ?_⟩) hHeld ?_
  rotate_left 1
  · (intro w hSw; (try dsimp only at hSw); go_simp; try with_reducible rfl)
  try simp only [Act.put, List.getElem_toArray, List.getElem_cons_zero, List.setIfInBounds_toArray, List.set_cons_zero, List.set_cons_succ]
  refine wpAnyH_take (i := 1) (v := ?_) rfl (by kernel_rfl) (by kernel_rfl) (by kernel_rfl) (fun _ _ _ h => h) (Or.inl ⟨by rfl, ?_⟩) hHeld ?_
  rotate_left 1
  · (intro w hSw; (try dsimp only at hSw); go_simp; try with_reducible rfl)
  try simp only [Act.put, List.getElem_toArray, List.getElem_cons_zero, List.getElem_cons_succ, List.setIfInBounds_toArray, List.set_cons_zero, List.set_cons_succ]
  refine wpAnyH_take (i := 2) (v := ?_) rfl (by kernel_rfl) (by kernel_rfl) (by kernel_rfl) (fun _ _ _ h => h) (Or.inl ⟨by rfl, ?_⟩) hHeld ?_
  rotate_left 1
  · (intro w hSw; have q3 := hSw; go_simp; try with_reducible rfl)
  try simp only [Act.put, List.getElem_toArray, List.getElem_cons_zero, List.getElem_cons_succ, List.setIfInBounds_toArray, List.set_cons_zero, List.set_cons_succ]
  refine wpAnyH_take (i := 3) (v := ?_) rfl (by kernel_rfl) (by kernel_rfl) (by kernel_rfl) (fun _ _ _ h => h) (Or.inl ⟨by rfl, ?_⟩) hHeld ?_
  rotate_left 1
  · (intro w hSw; (try dsimp only at hSw); go_simp; try with_reducible rfl)
  try simp only [Act.put, List.getElem_toArray, List.getElem_cons_zero, List.getElem_cons_succ, List.setIfInBounds_toArray, List.set_cons_zero, List.set_cons_succ]
  refine wpAnyH_take (i := 4) (v := ?_) rfl (by kernel_rfl) (by kernel_rfl) (by kernel_rfl) (fun _ _ _ h => h) (Or.inl ⟨by rfl, ?_⟩) hHeld ?_
  rotate_left 1
  · (intro w hSw; have q3 := hSw; go_simp; try with_reducible rfl)
  try simp only [Act.put, List.getElem_toArray, List.getElem_cons_zero, List.getElem_cons_succ, List.setIfInBounds_toArray, List.set_cons_zero, List.set_cons_succ]
  refine wpAnyH_ready (rs := [5]) (by kernel_rfl) (by simp) (AllReadyH.cons rfl (fun K hK => ?_) AllReadyH.nil)
  clear hHeld
  obtain ⟨v2, w2, hrun, hg, hk, hb⟩ := app_bytes 28 HXL.out ((HDB.out.G (HG1.out.trans (G.drew (G.refl _))))) HDN.out
  have HA2 := hide (G.trans (G.drew (G.refl _)) hg)
  have HK2 := hide hk
  have HB2 := hide hb
  clear hg hk hb
  refine (if_pos rfl).mpr ?_
  refine wp_of_exec (exec_append _ _ 28 rfl (.slice none 0 0) dv rfl rfl 28 rfl hrun) ?_
  clear hrun
  refine hK.out _ _ ((HO1.out.G HA2.out).cell) (fun hHeld => ?_)
  clear hK K
  try simp only [Act.put, List.getElem_toArray, List.getElem_cons_zero, List.getElem_cons_succ, List.setIfInBounds_toArray, List.set_cons_zero, List.set_cons_succ]
  refine wpAnyH_ready (rs := [6]) (by kernel_rfl) (by simp) (AllReadyH.cons rfl (fun K hK => ?_) AllReadyH.nil)
  clear hHeld
  go_simp
  with_reducible refine (o_write q1 F1 m1 B hBB HS0.out.x v2 n xs HXB.out _ ?_ ?_ ?_).mono ?_
  exact HS1.out.a.G HA2.out
  exact HK2.out
  exact (fun j hj e => by have h1 := HB2.out j hj; have h2 := HL.out j (.inl e); have h3 := HG1.out.size; simp only [World.drew] at h1; omega)
  rintro e' w3 ⟨rfl, hone⟩
  have HN2 := hide hone
  clear hone
  go_wp2_with fail
  refine hK.out _ _ ((HN2.out.cells HO1.out HA2.out HG1.out (fun k e => HL.out k (.inl e)))) (fun hHeld => ?_)
  clear hK K
  try simp only [Act.put, List.getElem_toArray, List.getElem_cons_zero, List.getElem_cons_succ, List.setIfInBounds_toArray, List.set_cons_zero, List.set_cons_succ]
  refine wpAnyH_take (i := 7) (v := ?_) rfl (by kernel_rfl) (by kernel_rfl) (by kernel_rfl) (fun _ _ _ h => h) (Or.inl ⟨by rfl, ?_⟩) hHeld ?_
  rotate_left 1
  · (intro w hSw; (try dsimp only at hSw); go_simp; try with_reducible rfl)
  try simp only [Act.put, List.getElem_toArray, List.getElem_cons_zero, List.getElem_cons_succ, List.setIfInBounds_toArray, List.set_cons_zero, List.set_cons_succ]
  refine wpAnyH_done (by kernel_rfl) ?_ _
  refine NoPanic.normal ?_
  go_wp2_with fail
  refine wp_region_noPanic ?_
  refine wp_region_held_drew (S := (fun W => ∀ j, W.cell? ⟨w.heap.size, j, none⟩ = ([I 5, I who, I n, dv, kv] : List Value)[j]?)) (by kernel_rfl) (((One.blk HN2.out HO1.out HA2.out (fun k e => HL.out k (.inl e))).G (G.drew (G.refl _))).cell) (fun hHeld => ?_)
  refine wpAnyH_take (i := 0) (v := ?_) rfl (by kernel_rfl) (by kernel_rfl) (by kernel_rfl) (fun _ _ _ h => h) (Or.inl ⟨by rfl, ?_⟩) hHeld ?_
  rotate_left 1
  · (intro w hSw; (try dsimp only at hSw); go_simp; try with_reducible rfl)
  try simp only [Act.put, List.getElem_toArray, List.getElem_cons_zero, List.setIfInBounds_toArray, List.set_cons_zero, List.set_cons_succ]
  refine wpAnyH_take (i := 1) (v := ?_) rfl (by kernel_rfl) (by kernel_rfl) (by kernel_rfl) (fun _ _ _ h => h) (Or.inl ⟨by rfl, ?_⟩) hHeld ?_
  rotate_left 1
  · (intro w hSw; (try dsimp only at hSw); go_simp; try with_reducible rfl)
  try simp only [Act.put, List.getElem_toArray, List.getElem_cons_zero, List.getElem_cons_succ, List.setIfInBounds_toArray, List.set_cons_zero, List.set_cons_succ]
  refine wpAnyH_take (i := 2) (v := ?_) rfl (by kernel_rfl) (by kernel_rfl) (by kernel_rfl) (fun _ _ _ h => h) (Or.inl ⟨by rfl, ?_⟩) hHeld ?_
  rotate_left 1
  · (intro w hSw; have q3 := hSw; go_simp; try with_reducible rfl)
  try simp only [Act.put, List.getElem_toArray, List.getElem_cons_zero, List.getElem_cons_succ, List.setIfInBounds_toArray, List.set_cons_zero, List.set_cons_succ]
  refine wpAnyH_take (i := 3) (v := ?_) rfl (by kernel_rfl) (by kernel_rfl) (by kernel_rfl) (fun _ _ _ h => h) (Or.inl ⟨by rfl, ?_⟩) hHeld ?_
  rotate_left 1
  · (intro w hSw; (try dsimp only at hSw); go_simp; try with_reducible rfl)
  try simp only [Act.put, List.getElem_toArray, List.getElem_cons_zero, List.getElem_cons_succ, List.setIfInBounds_toArray, List.set_cons_zero, List.set_cons_succ]
  refine wpAnyH_take (i := 4) (v := ?_) rfl (by kernel_rfl) (by kernel_rfl) (by kernel_rfl) (fun _ _ _ h => h) (Or.inl ⟨by rfl, ?_⟩) hHeld ?_
  rotate_left 1
  · (intro w hSw; have q3 := hSw; go_simp; try with_reducible rfl)
  try simp only [Act.put, List.getElem_toArray, List.getElem_cons_zero, List.getElem_cons_succ, List.setIfInBounds_toArray, List.set_cons_zero, List.set_cons_succ]
  refine wpAnyH_ready (rs := [5]) (by kernel_rfl) (by simp) (AllReadyH.cons rfl (fun K hK => ?_) AllReadyH.nil)
  clear hHeld
  obtain ⟨v4, w4, hrun, hg, hk, hb⟩ := app_bytes 28 HXL.out (((HN2.out.bytes (HDB.out.G (HG1.out.trans HA2.out)) (fun j hj => (HDF.out j hj).1)).G (G.drew (G.refl _)))) HDN.out
  have HA4 := hide (G.trans (G.drew (G.refl _)) hg)
  have HK4 := hide hk
  have HB4 := hide hb
  clear hg hk hb
  refine (if_pos rfl).mpr ?_
  refine wp_of_exec (exec_append _ _ 28 rfl (.slice none 0 0) dv rfl rfl 28 rfl hrun) ?_
  clear hrun
  refine hK.out _ _ (((One.blk HN2.out HO1.out HA2.out (fun k e => HL.out k (.inl e))).G HA4.out).cell) (fun hHeld => ?_)
  clear hK K
  try simp only [Act.put, List.getElem_toArray, List.getElem_cons_zero, List.getElem_cons_succ, List.setIfInBounds_toArray, List.set_cons_zero, List.set_cons_succ]
  refine wpAnyH_ready (rs := [6]) (by kernel_rfl) (by simp) (AllReadyH.cons rfl (fun K hK => ?_) AllReadyH.nil)
  clear hHeld
  go_simp
  with_reducible refine (o_write q2 F2 m2 B hBB HS0.out.y v4 n xs HXB.out _ ?_ ?_ ?_).mono ?_
  exact ((HN2.out.b (HS1.out.b.G HA2.out) HS0.out.d)).G HA4.out
  exact HK4.out
  exact (fun j hj e => by have h1 := HB4.out j hj; have h2 := HL.out j (.inr e); have h3 := HG1.out.size; have h4 := HA2.out.size; have h5 := HN2.out.size; simp only [World.drew] at h1; omega)
  rintro e' w5 ⟨rfl, hone⟩
  have HN4 := hide hone
  clear hone
  go_wp2_with fail
  refine hK.out _ _ ((One.blk HN4.out (One.blk HN2.out HO1.out HA2.out (fun k e => HL.out k (.inl e))) HA4.out (fun k e => HL.out k (.inr e))).cell) (fun hHeld => ?_)
  clear hK K
  try simp only [Act.put, List.getElem_toArray, List.getElem_cons_zero, List.getElem_cons_succ, List.setIfInBounds_toArray, List.set_cons_zero, List.set_cons_succ]
  refine wpAnyH_take (i := 7) (v := ?_) rfl (by kernel_rfl) (by kernel_rfl) (by kernel_rfl) (fun _ _ _ h => h) (Or.inl ⟨by rfl, ?_⟩) hHeld ?_
  rotate_left 1
  · (intro w hSw; (try dsimp only at hSw); go_simp; try with_reducible rfl)
  try simp only [Act.put, List.getElem_toArray, List.getElem_cons_zero, List.getElem_cons_succ, List.setIfInBounds_toArray, List.set_cons_zero, List.set_cons_succ]
  refine wpAnyH_done (by kernel_rfl) ?_ _
  refine NoPanic.normal ?_
  have hte := HT.out.1
  generalize (m1.write n xs).2 = c1 at hte ⊢
  subst hte
  go_wp2
  go_ret
  exact ⟨rfl, (((HS1.out.G HA2.out).both HN2.out (HN4.out.back HA4.out) HT.out.2).back (HG1.out.trans HA2.out))⟩
set_option maxRecDepth 100000 in
set_option maxHeartbeats 4000000 in
theorem twin_flush (who n : Int) (dv kv : Value) (q1 q2 : Addr) (F1 F2 : Nat → Prop) (m1 m2 : DM) (B : Nat) (hBB : B ≤ 549755813888) (w : World) (h : Pr w q1 q2 F1 F2 m1 m2 B) : Calls Try.prog 17 #[.pointer (some q1), .pointer (some q2), .agg #[I 6, I who, I n, dv, kv]] w fun e w' => e = .returned (.bool true) ∧ PrA w q1 q2 F1 F2 B w' := by
  have HS0 := hide h
  have HO1 := hide (Blk.new w [I 6, I who, I n, dv, kv] 39)
  have HG1 := hide ((G.refl w).alloc (.cells #[I 6, I who, I n, dv, kv] 39))
  have HL := hide h.l
  clear h
  have HT := hide HS0.out.t.flush
  go_enter Try.func17, Try.ntmps17
  go_wp2_with fail
  have hco := HO1.out.cell
  generalize w.alloc (.cells #[I 6, I who, I n, dv, kv] 39) = w1 at HO1 HG1 hco ⊢
  have HS1 := hide (HS0.out.G HG1.out)
  refine (o_flush q1 F1 m1 B hBB HS0.out.x _ HS1.out.a).mono ?_
  rintro e' w2 ⟨rfl, hone⟩
  have HN1 := hide hone
  clear hone hco
  go_wp2_with fail
  refine (o_flush q2 F2 m2 B hBB HS0.out.y _ (HN1.out.b HS1.out.b HS0.out.d)).mono ?_
  rintro e' w3 ⟨rfl, hone⟩
  have HN2 := hide hone
  clear hone
  have hte := HT.out.1
  generalize m1.flush.2 = c1 at hte ⊢
  subst hte
  go_wp2
  go_ret
  exact ⟨rfl, (HS1.out.both HN1.out HN2.out HT.out.2).back HG1.out⟩
set_option maxRecDepth 100000 in
set_option maxHeartbeats 4000000 in
theorem twin_cut (who n : Int) (dv kv : Value) (q1 q2 : Addr) (F1 F2 : Nat → Prop) (m1 m2 : DM) (B : Nat) (_hBB : B ≤ 549755813888) (hn : n ≤ 9223372036854775807) (w : World) (h : Pr w q1 q2 F1 F2 m1 m2 B) : Calls Try.prog 17 #[.pointer (some q1), .pointer (some q2), .agg #[I 7, I who, I n, dv, kv]] w fun e w' => e = .returned (.bool true) ∧ PrA w q1 q2 F1 F2 B w' := by
  have HS0 := hide h
  have HO1 := hide (Blk.new w [I 7, I who, I n, dv, kv] 39)
  have HG1 := hide ((G.refl w).alloc (.cells #[I 7, I who, I n, dv, kv] 39))
  have HL := hide h.l
  clear h
  have HT := hide (HS0.out.t.cut n)
  go_enter Try.func17, Try.ntmps17
  go_wp2_with fail
  have hco := HO1.out.cell
  generalize w.alloc (.cells #[I 7, I who, I n, dv, kv] 39) = w1 at HO1 HG1 hco ⊢
  have HS1 := hide (HS0.out.G HG1.out)
  refine (o_cut q1 F1 m1 B HS0.out.x n hn _ HS1.out.a).mono ?_
  rintro e' w2 ⟨rfl, hone⟩
  have HN1 := hide hone
  clear hone hco
  have hco := HN1.out.cells HO1.out (G.refl _) HG1.out (fun k e => HL.out k (.inl e))
  go_wp2_with fail
  refine (o_cut q2 F2 m2 B HS0.out.y n hn _ (HN1.out.b HS1.out.b HS0.out.d)).mono ?_
  rintro e' w3 ⟨rfl, hone⟩
  have HN2 := hide hone
  clear hone hco
  have hte := HT.out.1
  generalize (m1.cut n).2 = c1 at hte ⊢
  subst hte
  go_wp2
  go_ret
  exact ⟨rfl, (HS1.out.both HN1.out HN2.out HT.out.2).back HG1.out⟩
set_option maxRecDepth 100000 in
set_option maxHeartbeats 4000000 in
theorem twin_crash (who n : Int) (dv kv : Value) (q1 q2 : Addr) (F1 F2 : Nat → Prop) (m1 m2 : DM) (B : Nat) (hBB : B ≤ 549755813888) (ks : List Bool) (hkl : ks.length ≤ 1073741824) (w : World) (hkv : Keeps w kv ks) (hks : kv = .slice none 0 0 ∨ ∃ ad n c, kv = .slice (some ad) n c) (hkF : ∀ j, Value.blk kv j → ¬ F1 j ∧ ¬ F2 j) (h : Pr w q1 q2 F1 F2 m1 m2 B) : Calls Try.prog 17 #[.pointer (some q1), .pointer (some q2), .agg #[I 8, I who, I n, dv, kv]] w fun e w' => e = .returned (.bool true) ∧ PrA w q1 q2 F1 F2 B w' := by
  have HS0 := hide h
  have HO1 := hide (Blk.new w [I 8, I who, I n, dv, kv] 39)
  have HG1 := hide ((G.refl w).alloc (.cells #[I 8, I who, I n, dv, kv] 39))
  have HL := hide h.l
  clear h
  have HKV := hide hkv
  have HKS := hide hks
  have HKF := hide hkF
  have HKL := hide hkl
  have HT := hide (HS0.out.t.crash ks)
  clear hkv hks hkF hkl
  obtain ⟨v2, w2, hrun, hg2, hk2, hb2⟩ := app_keep 23 HKL.out (HKV.out.G HG1.out) HKS.out
  have HRUN := hide hrun
  have HA2 := hide hg2
  have HK2 := hide hk2
  have HB2 := hide hb2
  clear hg2 hk2 hb2 hrun
  go_enter Try.func17, Try.ntmps17
  go_wp2_with (first | (at_builtin; refine wpList_append_run rfl _ _ 23 rfl (.slice none 0 0) kv rfl rfl HRUN.out ?_) | fail)
  generalize w.alloc (.cells #[I 8, I who, I n, dv, kv] 39) = w1 at HO1 HG1 HRUN HA2 HB2 ⊢
  have HS1 := hide (HS0.out.G HG1.out)
  refine (o_crash q1 F1 m1 B hBB HS0.out.x v2 ks (by have := HKL.out; omega) _ (HS1.out.a.G HA2.out) HK2.out (fun j hj e => by have h1 := HB2.out j hj; have h2 := HL.out j (.inl e); have h3 := HG1.out.size; omega)).mono ?_
  rintro e' w3 ⟨rfl, hone⟩
  have HN1 := hide hone
  clear hone
  have hco := HN1.out.cells HO1.out HA2.out HG1.out (fun k e => HL.out k (.inl e))
  obtain ⟨v4, w4, hrun, hg4, hk4, hb4⟩ := app_keep 23 HKL.out (HN1.out.keeps (HKV.out.G (HG1.out.trans HA2.out)) (fun j hj => (HKF.out j hj).1)) HKS.out
  have HRUN4 := hide hrun
  have HA4 := hide hg4
  have HK4 := hide hk4
  have HB4 := hide hb4
  clear hg4 hk4 hb4 hrun HRUN
  go_wp2_with (first | (at_builtin; refine wpList_append_run rfl _ _ 23 rfl (.slice none 0 0) kv rfl rfl HRUN4.out ?_) | fail)
  clear hco
  refine (o_crash q2 F2 m2 B hBB HS0.out.y v4 ks (by have := HKL.out; omega) _ ((HN1.out.b (HS1.out.b.G HA2.out) HS0.out.d).G HA4.out) HK4.out (fun j hj e => by have h1 := HB4.out j hj; have h2 := HL.out j (.inr e); have h3 := HG1.out.size; have h4 := HA2.out.size; have h5 := HN1.out.size; omega)).mono ?_
  rintro e' w5 ⟨rfl, hone⟩
  have HN2 := hide hone
  clear hone
  have hte := HT.out.1
  generalize (m1.crash ks).2 = c1 at hte ⊢
  subst hte
  go_wp2
  go_ret
  exact ⟨rfl, ((HS1.out.G HA2.out).both HN1.out (HN2.out.back HA4.out) HT.out.2).back (HG1.out.trans HA2.out)⟩
set_option maxRecDepth 100000 in
set_option maxHeartbeats 4000000 in
theorem twin_image (who n : Int) (dv kv : Value) (q1 q2 : Addr) (F1 F2 : Nat → Prop) (m1 m2 : DM) (B : Nat) (_hBB : B ≤ 549755813888) (w : World) (h : Pr w q1 q2 F1 F2 m1 m2 B) : Calls Try.prog 17 #[.pointer (some q1), .pointer (some q2), .agg #[I 10, I who, I n, dv, kv]] w fun e w' => e = .returned (.bool true) ∧ PrA w q1 q2 F1 F2 B w' := by
  have HS0 := hide h
  have HO1 := hide (Blk.new w [I 10, I who, I n, dv, kv] 39)
  have HG1 := hide ((G.refl w).alloc (.cells #[I 10, I who, I n, dv, kv] 39))
  have HL := hide h.l
  clear h
  have HR1 := hide (fun W (hW : SlP W F1 (.pointer (some q1)) (some m1)) => uP_image F1 (some m1) _ W hW)
  have HR2 := hide (fun W (hW : SlP W F2 (.pointer (some q2)) (some m2)) => uP_image F2 (some m2) _ W hW)
  have hi : imB (some m2) = imB (some m1) := HS0.out.t.2.1.symm
  rw [hi] at HR2
  have HLN : Hid ((imB (some m1)).length ≤ 4611686018427387904) := by
    unfold Hid
    obtain ⟨p, _, hd⟩ := HS0.out.a
    simp only [imB]; rw [hd.ok.ll]; have := hd.ok.n2; omega
  clear hi
  generalize imB (some m1) = rb at HR1 HR2 HLN
  go_enter Try.func17, Try.ntmps17
  go_wp2_with fail
  have hco := HO1.out.cell
  generalize w.alloc (.cells #[I 10, I who, I n, dv, kv] 39) = w1 at HO1 HG1 hco ⊢
  have HS1 := hide (HS0.out.G HG1.out)
  refine (HR1.out _ HS1.out.a).mono ?_
  rintro e' w2 ⟨x2, rfl, hg2, hx2⟩
  have HG2 := hide hg2
  have HX2 := hide hx2
  clear hg2 hx2 hco
  go_wp2_with fail
  refine (HR2.out _ (HS1.out.b.G HG2.out)).mono ?_
  rintro e' w3 ⟨x3, rfl, hg3, hx3⟩
  have HSM := hide (same_true x2 x3 rb HLN.out w3 (HX2.out.G hg3) hx3)
  have HG3 := hide hg3
  clear hg3 hx3
  go_wp2_with fail
  refine HSM.out.mono ?_
  rintro e' w4 ⟨rfl, hg4⟩
  have HG4 := hide hg4
  clear hg4
  go_wp2
  go_ret
  exact ⟨rfl, (HS0.out.stay (((HG1.out.trans HG2.out).trans HG3.out).trans HG4.out))⟩
set_option maxRecDepth 100000 in
set_option maxHeartbeats 4000000 in
theorem twin_pending (who n : Int) (dv kv : Value) (q1 q2 : Addr) (F1 F2 : Nat → Prop) (m1 m2 : DM) (B : Nat) (hBB : B ≤ 549755813888) (w : World) (h : Pr w q1 q2 F1 F2 m1 m2 B) : Calls Try.prog 17 #[.pointer (some q1), .pointer (some q2), .agg #[I 9, I who, I n, dv, kv]] w fun e w' => e = .returned (.bool true) ∧ PrA w q1 q2 F1 F2 B w' := by
  have HS0 := hide h
  have HO1 := hide (Blk.new w [I 9, I who, I n, dv, kv] 39)
  have HG1 := hide ((G.refl w).alloc (.cells #[I 9, I who, I n, dv, kv] 39))
  have HL := hide h.l
  clear h
  have HR1 := hide (fun W (hW : SlP W F1 (.pointer (some q1)) (some m1)) => uP_pending F1 (some m1) _ W (few_to HS0.out.x hBB) hW)
  have HR2 := hide (fun W (hW : SlP W F2 (.pointer (some q2)) (some m2)) => uP_pending F2 (some m2) _ W (few_to HS0.out.y hBB) hW)
  have hi : pnL (some m2) = pnL (some m1) := HS0.out.t.2.2.1.symm
  rw [hi] at HR2
  have HLN : Hid ((pnL (some m1)).length ≤ 4611686018427387904) := by
    unfold Hid
    have := HS0.out.x.p
    simp only [pnL]; omega
  have H128 : Hid (∀ e ∈ pnL (some m1), e.2.length = 128) := by
    obtain ⟨p, _, hd⟩ := HS0.out.a
    exact fun e he => (hd.ok.p e he).2.1
  clear hi
  generalize pnL (some m1) = rb at HR1 HR2 HLN H128
  go_enter Try.func17, Try.ntmps17
  go_wp2_with fail
  have hco := HO1.out.cell
  generalize w.alloc (.cells #[I 9, I who, I n, dv, kv] 39) = w1 at HO1 HG1 hco ⊢
  have HS1 := hide (HS0.out.G HG1.out)
  refine (HR1.out _ HS1.out.a).mono ?_
  rintro e' w2 ⟨x2, rfl, hg2, hx2⟩
  have HG2 := hide hg2
  have HX2 := hide hx2
  clear hg2 hx2 hco
  go_wp2_with fail
  refine (HR2.out _ (HS1.out.b.G HG2.out)).mono ?_
  rintro e' w3 ⟨x3, rfl, hg3, hx3⟩
  have HSM := hide (writes_true x2 x3 rb _ _ _ _ HLN.out H128.out w3 (HX2.out.G hg3) hx3)
  have HG3 := hide hg3
  clear hg3 hx3
  go_wp2_with fail
  refine HSM.out.mono ?_
  rintro e' w4 ⟨rfl, hg4⟩
  have HG4 := hide hg4
  clear hg4
  go_wp2
  go_ret
  exact ⟨rfl, (HS0.out.stay (((HG1.out.trans HG2.out).trans HG3.out).trans HG4.out))⟩
set_option maxRecDepth 100000 in
set_option maxHeartbeats 4000000 in
theorem twin_none (k who n : Int) (dv kv : Value) (v1 v2 : Value) (h4 : ¬ k = 4) (h5 : ¬ k = 5) (h6 : ¬ k = 6) (h7 : ¬ k = 7) (h8 : ¬ k = 8) (h9 : ¬ k = 9) (h10 : ¬ k = 10) (w : World) : Calls Try.prog 17 #[v1, v2, .agg #[I k, I who, I n, dv, kv]] w fun e w' => e = .returned (.bool true) ∧ G w w' := by
  have HG1 := hide ((G.refl w).alloc (.cells #[I k, I who, I n, dv, kv] 39))
  go_enter Try.func17, Try.ntmps17
  go_wp2
  go_ret
  exact ⟨rfl, HG1.out⟩
theorem twin_any (o : Op) (q1 q2 : Addr) (F1 F2 : Nat → Prop) (m1 m2 : DM) (B : Nat) (hBB : B ≤ 549755813888) (w : World) (ho : OpOk w o) (hF : ∀ j, Value.blk o.dv j ∨ Value.blk o.kv j → ¬ F1 j ∧ ¬ F2 j) (h : Pr w q1 q2 F1 F2 m1 m2 B) :
    Calls Try.prog 17 #[.pointer (some q1), .pointer (some q2), o.V] w fun e w' => e = .returned (.bool true) ∧ PrA w q1 q2 F1 F2 B w' := by
  obtain ⟨k, who, n, dv, kv⟩ := o
  obtain ⟨hn, ⟨xs, x1, x2, x3⟩, ⟨ks, k1, k2⟩, kn, _, _, dn⟩ := ho
  simp only at hn x3 k2 kn dn hF
  by_cases e4 : k = 4
  · subst e4; exact twin_read who n dv kv q1 q2 F1 F2 m1 m2 B hBB w h
  by_cases e5 : k = 5
  · subst e5; exact twin_write who n dv kv q1 q2 F1 F2 m1 m2 B hBB xs x1 x2 w x3 dn (fun j hj => hF j (.inl hj)) h
  by_cases e6 : k = 6
  · subst e6; exact twin_flush who n dv kv q1 q2 F1 F2 m1 m2 B hBB w h
  by_cases e7 : k = 7
  · subst e7; exact twin_cut who n dv kv q1 q2 F1 F2 m1 m2 B hBB hn w h
  by_cases e8 : k = 8
  · subst e8; exact twin_crash who n dv kv q1 q2 F1 F2 m1 m2 B hBB ks k1 w k2 kn (fun j hj => hF j (.inr hj)) h
  by_cases e9 : k = 9
  · subst e9; exact twin_pending who n dv kv q1 q2 F1 F2 m1 m2 B hBB w h
  by_cases e10 : k = 10
  · subst e10; exact twin_image who n dv kv q1 q2 F1 F2 m1 m2 B hBB w h
  exact (twin_none k who n dv kv _ _ e4 e5 e6 e7 e8 e9 e10 w).mono fun e w' ⟨he, g⟩ => ⟨he, h.stay g⟩
end Go.Proofs.Ytbjbphhcmmaaoaa
