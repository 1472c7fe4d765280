/- Gate: a gate in memory that is this one; enter. -/
import Derived.Test.YtmclbnhbioficacGg0
import Derived.Test.YtmclbnhbioficacGs5
import Derived.Test.YtmclbnhbioficacGt6
import Derived.Test.YtmclbnhbioficacGm
namespace Go.Proofs.Ytmclbnhbioficac
open Go.RowKit

/-- What one who owns the blocks K leaves: nothing else turned; what it owns then was its own, or is new. -/
structure Ste (K : Nat → Prop) (w : World) (K' : Nat → Prop) (w' : World) : Prop where
  chg : Chg K w w'
  nw : ∀ k, K' k → K k ∨ w.heap.size ≤ k
theorem Ste.refl (K : Nat → Prop) (w : World) : Ste K w K w := ⟨Chg.refl _ _, fun _ h => .inl h⟩
theorem Ste.trans {K K1 K2 : Nat → Prop} {a b c : World} (h : Ste K a K1 b) (k : Ste K1 b K2 c) : Ste K a K2 c :=
  ⟨h.chg.more k.chg (fun i hi q => (h.nw i q).resolve_right (Nat.not_le.2 hi)), fun i hi => by
    rcases k.nw i hi with q | q
    · exact h.nw i q
    · exact .inr (Nat.le_trans h.chg.size q)⟩
theorem Ste.G {K : Nat → Prop} {w w' : World} (h : Go.Proofs.Ytmclbnhbioficac.G w w') : Ste K w K w' := ⟨h.chg, fun _ q => .inl q⟩
/-- A gate in memory: what it is, and where. -/
structure PGx (w : World) (b : Nat) (st : Int) (m : GM) (K : Nat → Prop) (vq vi v : Value) (l : List It) : Prop where
  hp : HP w b ⟨st, m.mo, m.un, m.sp, vq, vi, m.lg, m.ck⟩ v l
  q : SwQ w vq m.q
  i : SwI w vi m.ids
  pm : l.Perm m.all
  hi : Hp.HI gr l
  kb : K b
  kv : ∀ k, v.ownBlock = some k → K k
  kq : ∀ k, vq.ownBlock = some k → K k
  ki : ∀ k, vi.ownBlock = some k → K k
  lt : ∀ k, K k → k < w.heap.size
def PG (w : World) (b : Nat) (st : Int) (m : GM) (K : Nat → Prop) : Prop := ∃ vq vi v l, PGx w b st m K vq vi v l
theorem PGx.keep {w w' : World} {b : Nat} {st : Int} {m : GM} {K : Nat → Prop} {vq vi v : Value} {l : List It} (h : PGx w b st m K vq vi v l) (hs : w.heap.size ≤ w'.heap.size) (hb : ∀ k, K k → w'.heap[k]? = w.heap[k]?) : PGx w' b st m K vq vi v l :=
  ⟨⟨h.hp.blk.keep (hb b h.kb), h.hp.sl.keep (fun k e => hb k (h.kv k e))⟩, h.q.keep (fun k e => hb k (h.kq k e)), h.i.keep (fun k e => hb k (h.ki k e)), h.pm, h.hi, h.kb, h.kv, h.kq, h.ki, fun k e => Nat.lt_of_lt_of_le (h.lt k e) hs⟩
theorem PGx.G {w w' : World} {b : Nat} {st : Int} {m : GM} {K : Nat → Prop} {vq vi v : Value} {l : List It} (h : PGx w b st m K vq vi v l) (g : Go.Proofs.Ytmclbnhbioficac.G w w') : PGx w' b st m K vq vi v l := h.keep g.size (fun k hk => g.block k (h.lt k hk))
theorem PG.G {w w' : World} {b : Nat} {st : Int} {m : GM} {K : Nat → Prop} (h : PG w b st m K) (g : Go.Proofs.Ytmclbnhbioficac.G w w') : PG w' b st m K := by
  obtain ⟨vq, vi, v, l, h⟩ := h
  exact ⟨vq, vi, v, l, h.G g⟩
/-- What another one does leaves it. -/
theorem PG.off {w w' : World} {b : Nat} {st : Int} {m : GM} {K F : Nat → Prop} (h : PG w b st m K) (c : Chg F w w') (hF : ∀ k, K k → ¬ F k) : PG w' b st m K := by
  obtain ⟨vq, vi, v, l, h⟩ := h
  exact ⟨vq, vi, v, l, h.keep c.size (fun k hk => c.block k (h.lt k hk) (hF k hk))⟩
theorem PG.lt {w : World} {b : Nat} {st : Int} {m : GM} {K : Nat → Prop} (h : PG w b st m K) : ∀ k, K k → k < w.heap.size := by
  obtain ⟨vq, vi, v, l, h⟩ := h
  exact h.lt
theorem own_blk {α : Type} {E : Enc α} {ty : TypeId} {w : World} {v : Value} {l : List α} (h : Sw E ty w v l) {k : Nat} (hk : v.ownBlock = some k) : ∃ xs, Blk w k ty xs := by
  rcases h with ⟨rfl, _⟩ | ⟨g, cap, rest, rfl, hb, _⟩
  · simp [Value.ownBlock] at hk
  · simp [Value.ownBlock] at hk; subst hk; exact ⟨_, hb⟩
theorem own_blkT {w : World} {v : Value} {l : List It} (h : Sl w v l) {k : Nat} (hk : v.ownBlock = some k) : ∃ xs, Blk w k 78 xs := by
  rcases h with ⟨rfl, _⟩ | ⟨g, cap, rest, rfl, hb, _⟩
  · simp [Value.ownBlock] at hk
  · simp [Value.ownBlock] at hk; subst hk; exact ⟨_, hb⟩
/-- The lists' blocks are not the heap's, nor the gate's. -/
theorem HP.offS {α : Type} {E : Enc α} {ty : TypeId} {w : World} {b : Nat} {x : Gx} {v u : Value} {l : List It} {s : List α} (h : HP w b x v l) (hs : Sw E ty w u s) (h1 : ty ≠ 58) (h2 : ty ≠ 78) {k : Nat} (hk : u.ownBlock = some k) : ¬ hpB b v k := fun e => by
  rcases e with rfl | e
  · exact hs.ne h.blk h1 hk
  · obtain ⟨xs, hx⟩ := own_blkT h.sl e
    exact hs.ne hx h2 hk
/-- A field of the gate is stored. -/
theorem HP.field {w : World} {b : Nat} {x x' : Gx} {v : Value} {l : List It} (h : HP w b x v l) (o : Nat) (u : Value) (e : (gcs x v).set o u = gcs x' v) : HP (w.setCell ⟨b, o, none⟩ u) b x' v l :=
  ⟨by rw [← e]; exact h.blk.set o u, h.sl.keep fun _ hk => Below.heap_setCell _ _ _ _ (h.ne hk)⟩
theorem Sw.drew {α : Type} {E : Enc α} {ty : TypeId} {w : World} {v : Value} {l : List α} (h : Sw E ty w v l) : Sw E ty w.drew v l := h.keep fun _ _ => rfl
theorem cells1 {w : World} {F : Nat} {t : TypeId} {a c : Value} (h : Blk w F t [a, c]) : ∀ o, w.cell? ⟨F, o, none⟩ = ([a, c] : List Value)[o]? := h.cell
set_option maxRecDepth 100000 in
set_option maxHeartbeats 1000000 in
theorem enter_any (b : Nat) (st : Int) (m : GM) (K : Nat → Prop) (xa xb : Int) (t : List (Int × Int)) (W : World) (h : PG W b st m K) (hv : Iv m) (hq : m.q = (xa, xb) :: t) :
    Calls Try.prog 17 #[ptr b] W fun e W' => e = .returned (I xa) ∧ ∃ K', PG W' b st (m.ent (xa, xb) t) K' ∧ Ste K W K' W' := by
  obtain ⟨vq, vi, v, l, h⟩ := h
  have hcr := hv.crowd
  have hql : m.q.length = t.length + 1 := by rw [hq]; rfl
  have hll : l.length = m.ins.length + 1 := by rw [h.pm.length_eq]; rfl
  have hil : m.ids.length = m.ins.length := List.length_map _
  obtain ⟨g, cap, hvq⟩ := h.q.slice (by omega)
  have hc : ∀ o, W.cell? ⟨b, o, none⟩ = ([.int .i32 st, .int .u32 0, I m.mo, I m.un, I m.sp, vq, vi, I m.lg, I m.ck, v] : List Value)[o]? := h.hp.cells
  have x1 : W.cell? ⟨g, 0, none⟩ = some (I xa) := by
    have h1 := h.q
    rw [hvq] at h1
    have := h1.at (i := 0) (x := (xa, xb)) (by rw [hq]; rfl) 0 (by decide)
    simpa using this
  have x2 : W.cell? ⟨g, 1, none⟩ = some (I xb) := by
    have h1 := h.q
    rw [hvq] at h1
    have := h1.at (i := 0) (x := (xa, xb)) (by rw [hq]; rfl) 1 (by decide)
    simpa using this
  have i1 : (0 : Int) < m.q.length := by omega
  have hbl := h.hp.blk.lt
  have HH := hide h
  have HVQ := hide hvq
  have HQ := hide hq
  have HQL := hide hql
  have HCR := hide hcr
  have HLL := hide hll
  have HIL := hide hil
  rw [hvq] at hc
  clear h hvq hq hql hcr hll hil hv
  go_enter Try.func17, Try.ntmps17
  go_wp2_with fail
  rw [← HVQ.out]
  have HF1 := hide (Blk.new W [I xa, I xb] 81)
  have HG1 := hide ((G.refl W).alloc (.cells #[I xa, I xb] 81))
  have KD := hide (delQ m.q vq 0 (W.alloc (.cells #[I xa, I xb] 81)) (HH.out.q.G HG1.out) (by rw [HQL.out]; omega) (by have := HCR.out; omega))
  clear hc x1 x2 hbl
  generalize W.alloc (.cells #[I xa, I xb] 81) = w1 at HF1 HG1 KD ⊢
  refine KD.out.mono ?_
  rintro e w2 ⟨q2, rfl, hsq, hch, hob⟩
  have e1 : cutL m.q 0 = t := by rw [HQ.out]; rfl
  rw [e1] at hsq
  obtain ⟨qa, qc, rfl⟩ := hsq.form
  have h1 := HH.out.G HG1.out
  have hp2 : HP w2 b ⟨st, m.mo, m.un, m.sp, vq, vi, m.lg, m.ck⟩ v l := h1.hp.chg hch (fun k hk e => h1.hp.offS h1.q (by decide) (by decide) e hk)
  have hi2 : SwI w2 vi m.ids := h1.i.chg hch (fun k hk e => by
    obtain ⟨xs, hx⟩ := own_blk h1.q e
    exact h1.i.ne hx (by decide) hk)
  have hf2 : Blk w2 W.heap.size 81 [I xa, I xb] := HF1.out.chg hch (fun e => Nat.lt_irrefl _ (HH.out.lt _ (HH.out.kq _ e)))
  have hqb : (Value.slice qa t.length qc).ownBlock ≠ some b := hsq.ne hp2.blk (by decide)
  have HP3 := hide (hp2.field (x' := ⟨st, m.mo, m.un, m.sp, (.slice qa t.length qc), vi, m.lg, m.ck⟩) 5 (.slice qa t.length qc) rfl)
  have HI3 := hide (hi2.off (b := b) (o := 5) (u := (.slice qa t.length qc)) (hi2.ne hp2.blk (by decide)))
  have HQ3 := hide (hsq.off (b := b) (o := 5) (u := (.slice qa t.length qc)) hqb)
  have HF3 := hide (hf2.off (b := b) (o := 5) (v := (.slice qa t.length qc)) (hf2.ne hp2.blk (by decide)))
  have HC3 : Hid (Chg K W (w2.setCell ⟨b, 5, none⟩ (.slice qa t.length qc))) := (HG1.out.chg.trans (hch.mono (fun k e => HH.out.kq k e))).trans (chg_setCell _ _ (.inl HH.out.kb))
  have HOB := hide hob
  have hc2 : ∀ o, w2.cell? ⟨b, o, none⟩ = ([.int .i32 st, .int .u32 0, I m.mo, I m.un, I m.sp, vq, vi, I m.lg, I m.ck, v] : List Value)[o]? := hp2.cells
  have hz2 := hp2.blk.frozen
  clear h1 hsq hp2 hi2 hf2 hqb hch hob e1 KD HF1
  go_wp2_with fail
  clear hc2 hz2
  generalize w2.setCell ⟨b, 5, none⟩ (.slice qa t.length qc) = w3 at HP3 HI3 HQ3 HF3 HC3 ⊢
  have HN1 : Hid (m.ids.length + 1 ≤ maxLen) := Nat.le_trans (show m.ids.length + 1 ≤ 1000 by have h1 := HIL.out; have h2 := HCR.out; omega) (of_decide_eq_true (by kernel_rfl))
  have HN2 : Hid ((m.ids.length + 1) * 8 ≤ 140737488355328) := by show _ ≤ _; have h1 := HIL.out; have h2 := HCR.out; omega
  refine wp_region_noPanic ?_
  refine wp_region_L (S := (fun V => (∀ o, V.cell? ⟨b, o, none⟩ = ([.int .i32 st, .int .u32 0, I m.mo, I m.un, I m.sp, (.slice qa t.length qc), vi, I m.lg, I m.ck, v] : List Value)[o]?) ∧ (∀ o, V.cell? ⟨W.heap.size, o, none⟩ = ([I xa, I xb] : List Value)[o]?))) 11 (by kernel_rfl) (⟨(HP3.out.G (G.drew (G.refl _))).cells, (HF3.out.G (G.drew (G.refl _))).cell⟩) (fun hHeld => ?_)
  refine wpAnyL_take (i := 0) (v := ?_) rfl (by kernel_rfl) (by kernel_rfl) (by kernel_rfl) (by kernel_rfl) (fun _ _ _ h => h) (Or.inl ⟨by rfl, ?_⟩) hHeld ?_
  rotate_left 1
  · (intro w hSw; (try dsimp only at hSw); go_simp; try with_reducible rfl)
  try simp only [Act.put, List.getElem_toArray, List.getElem_cons_zero, List.setIfInBounds_toArray, List.set_cons_zero, List.set_cons_succ]
  refine wpAnyL_take (i := 1) (v := ?_) rfl (by kernel_rfl) (by kernel_rfl) (by kernel_rfl) (by kernel_rfl) (fun _ _ _ h => h) (Or.inl ⟨by rfl, ?_⟩) hHeld ?_
  rotate_left 1
  · (intro w hSw; (try dsimp only at hSw); go_simp; try with_reducible rfl)
  try simp only [Act.put, List.getElem_toArray, List.getElem_cons_zero, List.getElem_cons_succ, List.setIfInBounds_toArray, List.set_cons_zero, List.set_cons_succ]
  refine wpAnyL_take (i := 2) (v := ?_) rfl (by kernel_rfl) (by kernel_rfl) (by kernel_rfl) (by kernel_rfl) (fun _ _ _ h => h) (Or.inl ⟨by rfl, ?_⟩) hHeld ?_
  rotate_left 1
  · (intro w hSw; (try dsimp only at hSw); go_simp; try with_reducible rfl)
  try simp only [Act.put, List.getElem_toArray, List.getElem_cons_zero, List.getElem_cons_succ, List.setIfInBounds_toArray, List.set_cons_zero, List.set_cons_succ]
  refine wpAnyL_take (i := 3) (v := ?_) rfl (by kernel_rfl) (by kernel_rfl) (by kernel_rfl) (by kernel_rfl) (fun _ _ _ h => h) (Or.inl ⟨by rfl, ?_⟩) hHeld ?_
  rotate_left 1
  · (intro w hSw; (try dsimp only at hSw); go_simp; try with_reducible rfl)
  try simp only [Act.put, List.getElem_toArray, List.getElem_cons_zero, List.getElem_cons_succ, List.setIfInBounds_toArray, List.set_cons_zero, List.set_cons_succ]
  refine wpAnyL_take (i := 4) (v := ?_) rfl (by kernel_rfl) (by kernel_rfl) (by kernel_rfl) (by kernel_rfl) (fun _ _ _ h => h) (Or.inl ⟨by rfl, ?_⟩) hHeld ?_
  rotate_left 1
  · (intro w hSw; obtain ⟨s1, s2⟩ := hSw; go_simp; try with_reducible rfl)
  try simp only [Act.put, List.getElem_toArray, List.getElem_cons_zero, List.getElem_cons_succ, List.setIfInBounds_toArray, List.set_cons_zero, List.set_cons_succ]
  refine wpAnyL_take (i := 5) (v := ?_) rfl (by kernel_rfl) (by kernel_rfl) (by kernel_rfl) (by kernel_rfl) (fun _ _ _ h => h) (Or.inl ⟨by rfl, ?_⟩) hHeld ?_
  rotate_left 1
  · (intro w hSw; (try dsimp only at hSw); go_simp; try with_reducible rfl)
  try simp only [Act.put, List.getElem_toArray, List.getElem_cons_zero, List.getElem_cons_succ, List.setIfInBounds_toArray, List.set_cons_zero, List.set_cons_succ]
  refine wpAnyL_take (i := 6) (v := ?_) rfl (by kernel_rfl) (by kernel_rfl) (by kernel_rfl) (by kernel_rfl) (fun _ _ _ h => h) (Or.inl ⟨by rfl, ?_⟩) hHeld ?_
  rotate_left 1
  · (intro w hSw; obtain ⟨s1, s2⟩ := hSw; go_simp; try with_reducible rfl)
  try simp only [Act.put, List.getElem_toArray, List.getElem_cons_zero, List.getElem_cons_succ, List.setIfInBounds_toArray, List.set_cons_zero, List.set_cons_succ]
  refine wpAnyL_one (i := 7) (by kernel_rfl) rfl (by kernel_rfl) (fun K hK => ?_)
  clear hHeld
  go_simp
  have HG6 : Hid (G w3 (w3.alloc (.cells #[I xa] 3)).drew) := ((G.refl w3).alloc _).drew
  have HC6 : Hid (∀ j u, ([I xa] : List Value)[j]? = some u → (w3.alloc (.cells #[I xa] 3)).drew.cell? ((⟨w3.heap.size, 0, none⟩ : Addr).add j) = some u) := cell_new w3 [I xa] 3
  generalize (w3.alloc (.cells #[I xa] 3)).drew = w6 at HG6 HC6 ⊢
  refine hK.out _ _ (⟨(HP3.out.G HG6.out).cells, (HF3.out.G HG6.out).cell⟩) (fun hHeld => ?_)
  clear hK K
  try simp only [Act.put, List.getElem_toArray, List.getElem_cons_zero, List.getElem_cons_succ, List.setIfInBounds_toArray, List.set_cons_zero, List.set_cons_succ]
  refine wpAnyL_one (i := 8) (by kernel_rfl) rfl (by kernel_rfl) (fun K hK => ?_)
  clear hHeld
  obtain ⟨i0, hi0, hz0, hz1, hz2⟩ := info_I
  obtain ⟨v7', w7, hrun, hs7, hap7⟩ := app_one (P := Try.prog) (ts := 33) i0 _ 8 Try.underlying33 hi0 hz0 hz1 hz2 rfl (by decide) (HI3.out.G HG6.out) ⟨w3.heap.size, 0, none⟩ 1 xa HC6.out HN1.out HN2.out
  have HAP := hide (Chg.app hap7)
  obtain ⟨a7, c7, e7⟩ := hs7.form
  generalize (m.ids ++ [xa]).length = n7 at e7
  subst e7
  have HS7 := hide hs7
  clear hap7 hs7 hi0 hz0 hz1 hz2
  refine (if_pos rfl).mpr ?_
  refine wp_of_exec (exec_append _ _ 33 rfl vi (.slice (some ⟨w3.heap.size, 0, none⟩) 1 1) rfl rfl 33 rfl hrun) ?_
  clear hrun
  have HP7 : Hid (HP w7 b ⟨st, m.mo, m.un, m.sp, (.slice qa t.length qc), vi, m.lg, m.ck⟩ v l) := (HP3.out.G HG6.out).chg HAP.out.1 (fun k hk e => (HP3.out.G HG6.out).offS (HI3.out.G HG6.out) (by decide) (by decide) e hk)
  have HF7 : Hid (Blk w7 W.heap.size 81 [I xa, I xb]) := (HF3.out.G HG6.out).chg HAP.out.1 (fun e => (HI3.out.G HG6.out).ne (HF3.out.G HG6.out) (by decide) e)
  refine hK.out _ _ (⟨HP7.out.cells, HF7.out.cell⟩) (fun hHeld => ?_)
  clear hK K
  try simp only [Act.put, List.getElem_toArray, List.getElem_cons_zero, List.getElem_cons_succ, List.setIfInBounds_toArray, List.set_cons_zero, List.set_cons_succ]
  refine wpAnyL_take2 10 (i := 9) (v := ?_) rfl (by kernel_rfl) (by kernel_rfl) (by kernel_rfl) (by kernel_rfl) (fun _ _ _ h => h) (Or.inl ⟨by rfl, ?_⟩) hHeld ?_
  rotate_left 1
  · (intro w hSw; (try dsimp only at hSw); go_simp; try with_reducible rfl)
  try simp only [Act.put, List.getElem_toArray, List.getElem_cons_zero, List.getElem_cons_succ, List.setIfInBounds_toArray, List.set_cons_zero, List.set_cons_succ]
  refine wpAnyL_take (i := 10) (v := ?_) rfl (by kernel_rfl) (by kernel_rfl) (by kernel_rfl) (by kernel_rfl) (fun _ _ _ h => h) (Or.inl ⟨by rfl, ?_⟩) hHeld ?_
  rotate_left 1
  · (intro w hSw; (try dsimp only at hSw); go_simp; try with_reducible rfl)
  try simp only [Act.put, List.getElem_toArray, List.getElem_cons_zero, List.getElem_cons_succ, List.setIfInBounds_toArray, List.set_cons_zero, List.set_cons_succ]
  refine wpAnyL_last (by kernel_rfl) rfl (by kernel_rfl) (fun K hK => ?_)
  clear hHeld
  have hc7 : ∀ o, w7.cell? ⟨b, o, none⟩ = ([.int .i32 st, .int .u32 0, I m.mo, I m.un, I m.sp, (.slice qa t.length qc), vi, I m.lg, I m.ck, v] : List Value)[o]? := HP7.out.cells
  have hz7 := HP7.out.blk.frozen
  go_simp
  refine hK.out _ _ ?_
  clear hK K
  refine NoPanic.normal ?_
  have HP8 := hide (HP7.out.field (x' := ⟨st, m.mo, m.un, m.sp, (.slice qa t.length qc), (.slice a7 n7 c7), m.lg, m.ck⟩) 6 (.slice a7 n7 c7) rfl)
  have HQ8 : Hid (SwQ (w7.setCell ⟨b, 6, none⟩ (.slice a7 n7 c7)) (.slice qa t.length qc) t) := by
    have a1 := HQ3.out.G HG6.out
    have a2 : SwQ w7 (.slice qa t.length qc) t := a1.chg HAP.out.1 (fun k hk e => by
      obtain ⟨xs, hx⟩ := own_blk (HI3.out.G HG6.out) e
      exact a1.ne hx (by decide) hk)
    exact a2.off (a2.ne HP7.out.blk (by decide))
  have HI8 : Hid (SwI (w7.setCell ⟨b, 6, none⟩ (.slice a7 n7 c7)) (.slice a7 n7 c7) (m.ids ++ [xa])) := HS7.out.off (HS7.out.ne HP7.out.blk (by decide))
  have HF8 := hide (HF7.out.off (b := b) (o := 6) (v := (.slice a7 n7 c7)) (HF7.out.ne HP7.out.blk (by decide)))
  have HC8 : Hid (Chg K W (w7.setCell ⟨b, 6, none⟩ (.slice a7 n7 c7))) := ((HC3.out.trans HG6.out.chg).trans (HAP.out.1.mono (fun k e => HH.out.ki k e))).trans (chg_setCell _ _ (.inl HH.out.kb))
  have HO8 : Hid (∀ k, (Value.slice a7 n7 c7).ownBlock = some k → K k ∨ W.heap.size ≤ k) := fun k e => by
    rcases HAP.out.2 k e with q | q
    · exact .inl (HH.out.ki k q)
    · exact .inr (Nat.le_trans (HC3.out.trans HG6.out.chg (F := K)).size q)
  clear HP7 HF7 HS7 HAP HC6 HG6 HI3 HQ3 HP3 HF3 HC3 HN1 HN2
  generalize w7.setCell ⟨b, 6, none⟩ (.slice a7 n7 c7) = w8 at HP8 HQ8 HI8 HF8 HC8 ⊢
  have HNF : Hid (¬ hpB b v W.heap.size) := fun e => by
    rcases e with e | e
    · have := HH.out.lt b HH.out.kb
      omega
    · exact Nat.lt_irrefl _ (HH.out.lt _ (HH.out.kv _ e))
  have HTE := hide (tenter_any b ⟨st, m.mo, m.un, m.sp, (.slice qa t.length qc), (.slice a7 n7 c7), m.lg, m.ck⟩ v l xa xb w8.drew (HP8.out.G (G.refl _).drew) (by have h1 := HLL.out; have h2 := HCR.out; omega))
  go_wp2_with fail
  refine wp_region_noPanic ?_
  refine wp_region_held_drew (S := (fun V => (∀ o, V.cell? ⟨W.heap.size, o, none⟩ = ([I xa, I xb] : List Value)[o]?))) (by kernel_rfl) (HF8.out.drew.cell) (fun hHeld => ?_)
  refine wpAnyH_take (i := 0) (v := ?_) rfl (by kernel_rfl) (by kernel_rfl) (by kernel_rfl) (fun _ _ _ h => h) (Or.inl ⟨by rfl, ?_⟩) hHeld ?_
  rotate_left 1
  · (intro w hSw; (try dsimp only at hSw); go_simp; try with_reducible rfl)
  try simp only [Act.put, List.getElem_toArray, List.getElem_cons_zero, List.setIfInBounds_toArray, List.set_cons_zero, List.set_cons_succ]
  refine wpAnyH_take (i := 1) (v := ?_) rfl (by kernel_rfl) (by kernel_rfl) (by kernel_rfl) (fun _ _ _ h => h) (Or.inl ⟨by rfl, ?_⟩) hHeld ?_
  rotate_left 1
  · (intro w hSw; (try dsimp only at hSw); go_simp; try with_reducible rfl)
  try simp only [Act.put, List.getElem_toArray, List.getElem_cons_zero, List.getElem_cons_succ, List.setIfInBounds_toArray, List.set_cons_zero, List.set_cons_succ]
  refine wpAnyH_take (i := 2) (v := ?_) rfl (by kernel_rfl) (by kernel_rfl) (by kernel_rfl) (fun _ _ _ h => h) (Or.inl ⟨by rfl, ?_⟩) hHeld ?_
  rotate_left 1
  · (intro w hSw; (try dsimp only at hSw); go_simp; try with_reducible rfl)
  try simp only [Act.put, List.getElem_toArray, List.getElem_cons_zero, List.getElem_cons_succ, List.setIfInBounds_toArray, List.set_cons_zero, List.set_cons_succ]
  refine wpAnyH_take (i := 3) (v := ?_) rfl (by kernel_rfl) (by kernel_rfl) (by kernel_rfl) (fun _ _ _ h => h) (Or.inl ⟨by rfl, ?_⟩) hHeld ?_
  rotate_left 1
  · (intro w hSw; (try dsimp only at hSw); go_simp; try with_reducible rfl)
  try simp only [Act.put, List.getElem_toArray, List.getElem_cons_zero, List.getElem_cons_succ, List.setIfInBounds_toArray, List.set_cons_zero, List.set_cons_succ]
  refine wpAnyH_take (i := 4) (v := ?_) rfl (by kernel_rfl) (by kernel_rfl) (by kernel_rfl) (fun _ _ _ h => h) (Or.inl ⟨by rfl, ?_⟩) hHeld ?_
  rotate_left 1
  · (intro w hSw; have s2 := hSw; go_simp; try with_reducible rfl)
  try simp only [Act.put, List.getElem_toArray, List.getElem_cons_zero, List.getElem_cons_succ, List.setIfInBounds_toArray, List.set_cons_zero, List.set_cons_succ]
  refine wpAnyH_take (i := 5) (v := ?_) rfl (by kernel_rfl) (by kernel_rfl) (by kernel_rfl) (fun _ _ _ h => h) (Or.inl ⟨by rfl, ?_⟩) hHeld ?_
  rotate_left 1
  · (intro w hSw; (try dsimp only at hSw); go_simp; try with_reducible rfl)
  try simp only [Act.put, List.getElem_toArray, List.getElem_cons_zero, List.getElem_cons_succ, List.setIfInBounds_toArray, List.set_cons_zero, List.set_cons_succ]
  refine wpAnyH_take (i := 6) (v := ?_) rfl (by kernel_rfl) (by kernel_rfl) (by kernel_rfl) (fun _ _ _ h => h) (Or.inl ⟨by rfl, ?_⟩) hHeld ?_
  rotate_left 1
  · (intro w hSw; have s2 := hSw; go_simp; try with_reducible rfl)
  try simp only [Act.put, List.getElem_toArray, List.getElem_cons_zero, List.getElem_cons_succ, List.setIfInBounds_toArray, List.set_cons_zero, List.set_cons_succ]
  refine wpAnyH_ready (rs := [7]) (by kernel_rfl) (by simp) (AllReadyH.cons rfl (fun K hK => ?_) AllReadyH.nil)
  clear hHeld
  go_simp
  refine HTE.out.mono ?_
  rintro e w9 ⟨rfl, v9, l9, hp9, hpm9, hhi9, hch9, hob9⟩
  have HP9 := hide hp9
  have HPM9 := hide hpm9
  have HHI9 := hide hhi9
  have HCH9 := hide hch9
  have HOB9 := hide hob9
  have HF9 := hide ((HF8.out.drew).chg hch9 (fun e => HNF.out e))
  clear hp9 hpm9 hhi9 hch9 hob9
  go_wp2_with fail
  refine hK.out _ _ (HF9.out.cell) (fun hHeld => ?_)
  clear hK K
  try simp only [Act.put, List.getElem_toArray, List.getElem_cons_zero, List.getElem_cons_succ, List.setIfInBounds_toArray, List.set_cons_zero, List.set_cons_succ]
  refine wpAnyH_done (by kernel_rfl) ?_ _
  refine NoPanic.normal ?_
  have hc9 := HF9.out.cell
  go_wp2_with fail
  go_ret
  refine ⟨rfl, fun k => K k ∨ (Value.slice a7 n7 c7).ownBlock = some k ∨ v9.ownBlock = some k, ⟨(.slice qa t.length qc), (.slice a7 n7 c7), v9, l9, HP9.out, ?_, ?_, ?_, HHI9.out HH.out.hi, .inl HH.out.kb, fun k e => .inr (.inr e), fun k e => .inl (HH.out.kq k (by rw [← HOB.out]; exact e)), fun k e => .inr (.inl e), fun k e => ?_⟩, ⟨?_, fun k e => ?_⟩⟩
  · exact HQ8.out.drew.chg HCH9.out (fun k hk e => HP8.out.offS HQ8.out (by decide) (by decide) hk e)
  · have e2 : (m.ent (xa, xb) t).ids = m.ids ++ [xa] := by simp [GM.ent, GM.ids]
    rw [e2]
    exact HI8.out.drew.chg HCH9.out (fun k hk e => HP8.out.offS HI8.out (by decide) (by decide) hk e)
  · refine HPM9.out.trans ?_
    have e3 : (m.ent (xa, xb) t).all = m.all ++ [((xa, xb), m.ck)] := by simp [GM.ent, GM.all, swp]
    rw [e3]
    exact (List.Perm.cons _ HH.out.pm).trans (List.perm_append_singleton _ _).symm
  · have hs1 : W.heap.size ≤ w9.heap.size := Nat.le_trans (HC8.out.trans (chg_drew _)).size HCH9.out.size
    rcases e with e | e | e
    · exact Nat.lt_of_lt_of_le (HH.out.lt k e) hs1
    · exact Nat.lt_of_lt_of_le (HI8.out.lt e) HCH9.out.size
    · exact HP9.out.sl.lt e
  · refine (HC8.out.trans (chg_drew _)).more HCH9.out (fun i hi e => ?_)
    rcases e with rfl | e
    · exact HH.out.kb
    · exact HH.out.kv _ e
  · rcases e with e | e | e
    · exact .inl e
    · exact HO8.out k e
    · rcases HOB9.out k e with q | q
      · exact .inl (HH.out.kv k q)
      · exact .inr (Nat.le_trans (HC8.out.trans (chg_drew _)).size q)
end Go.Proofs.Ytmclbnhbioficac
