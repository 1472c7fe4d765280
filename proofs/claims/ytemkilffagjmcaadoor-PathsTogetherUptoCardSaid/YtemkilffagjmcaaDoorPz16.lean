/- Paths: order, the walk. -/
import Derived.Test.YtemkilffagjmcaaDoorPz14
namespace Go.Proofs.YtemkilffagjmcaaDoor
section
open Go.RowKit

theorem wo_P (ids : List Int) : Hp.WO (ltP ids) := by
  have h1 : ∀ a b, ltP ids a b = true ↔ ids[a.toNat]! < ids[b.toNat]! := fun a b => by simp [ltP]
  have h2 : ∀ a b, ltP ids a b = false ↔ ids[b.toNat]! ≤ ids[a.toNat]! := fun a b => by simp [ltP]
  exact ⟨fun a b h => by rw [h1] at h; rw [h2]; omega, fun a b c h k => by rw [h1] at *; omega, fun a b c h k => by rw [h2] at *; omega⟩
/-- The places that lie in a heap. -/
def plc (l : List It) : List Nat := l.map fun x => x.1.toNat
/-- The one that comes out is the least. -/
theorem first_le {ids : List Int} (hs : ids.Pairwise (· < ·)) {x : It} {l : List It} (hd : ∀ y ∈ x :: l, 0 ≤ y.1 ∧ y.1 < ids.length) (h : Hp.HI (Hp.ah (ltP ids)) (x :: l)) : ∀ m ∈ plc l, x.1.toNat ≤ m := by
  intro m hm
  obtain ⟨y, hy, rfl⟩ := List.mem_map.1 hm
  have h1 := Hp.HI.first (wo_P ids).ah h y (List.mem_cons_of_mem _ hy)
  have hx := hd x (by simp)
  have hy2 := hd y (List.mem_cons_of_mem _ hy)
  have e0 : (x :: l)[0]! = x := rfl
  rw [e0] at h1
  have ex : x.1 = ((x.1.toNat : Nat) : Int) := by omega
  have ey : y.1 = ((y.1.toNat : Nat) : Int) := by omega
  have q1 : ltP ids x.1 y.1 = decide (x.1.toNat < y.1.toNat) := by
    have := ltP_iff hs (a := x.1.toNat) (b := y.1.toNat) (by omega) (by omega)
    rw [← ex, ← ey] at this
    exact this
  have q2 : ltP ids y.1 x.1 = decide (y.1.toNat < x.1.toNat) := by
    have := ltP_iff hs (a := y.1.toNat) (b := x.1.toNat) (by omega) (by omega)
    rw [← ex, ← ey] at this
    exact this
  unfold Hp.ah at h1
  rw [q1, q2] at h1
  split at h1
  · have : x.1.toNat < y.1.toNat := by simpa using h1
    omega
  · have : ¬ y.1.toNat < x.1.toNat := by simpa using h1
    omega
theorem G.trans' {W w w' : World} {F : Nat → Prop} (g : G W w) (c : Chg F w w') (hF : ∀ b, F b → W.heap.size ≤ b) : G W w' := by
  refine ⟨c.os.trans g.os, c.tape.trans g.tape, c.output.trans g.output, Nat.le_trans g.size c.size, fun b hb => ?_⟩
  rw [c.block b (Nat.lt_of_lt_of_le hb g.size) (fun q => by have := hF b q; omega), g.block b hb]
/-- What order has of its own: its box, what waits, what is told, the heap. -/
structure Od (W w : World) (B pb h : Nat) (wv xv v : Value) (ids : List Int) (Ws O : List Nat) (l : List It) (t : Int) : Prop where
  g : G W w
  box : Blk w B 54 [ptr pb]
  wai : Rw W.heap.size 3 1 w wv Ws.length (Ws.map fun (i : Nat) => I (i : Int))
  out : Rw W.heap.size 2 1 w xv O.length ((O.map fun k => ids[k]!).map I)
  hp : HP w h (.func (.func 32) #[] #[ptr B]) v l t
  own : ∀ b, hpB h v b → W.heap.size ≤ b
theorem Od.G {W w : World} {B pb h : Nat} {wv xv v : Value} {ids : List Int} {Ws O : List Nat} {l : List It} {t : Int} {w' : World} (k : Od W w B pb h wv xv v ids Ws O l t) (g : Go.Proofs.YtemkilffagjmcaaDoor.G w w') : Od W w' B pb h wv xv v ids Ws O l t :=
  ⟨k.g.trans g, k.box.G g, Rw.G k.wai g, Rw.G k.out g, k.hp.G g, k.own⟩
theorem HP.offR {w : World} {h : Nat} {f v : Value} {l : List It} {t : Int} (k : HP w h f v l t) {lo : Nat} {e : TypeId} {nc : Nat} {u : Value} {n : Nat} {xs : List Value} (hr : Rw lo e nc w u n xs) (h1 : e ≠ 95) (h2 : e ≠ 97) : ∀ b, u.ownBlock = some b → ¬ hpB h v b := fun b hb => by
  obtain ⟨_, _, ys, hy⟩ := Rw.own hr hb
  exact k.off hy h1 h2
theorem Od.kp {W w : World} {B pb h : Nat} {wv xv v : Value} {ids : List Int} {Ws O : List Nat} {l : List It} {t : Int} {lo : Nat} {iv ov : Value} {mb : Nat} {L : List (List Nat)} {gm : Int → Option Value} (k : Od W w B pb h wv xv v ids Ws O l t) (hpc : Pc lo W pb mb iv ov ids gm L) : ∀ W', Chg (hpB h v) w W' → KP B pb iv lo ids W' := fun W' c => by
  have g1 : Go.Proofs.YtemkilffagjmcaaDoor.G W W' := by
    refine ⟨c.os.trans k.g.os, c.tape.trans k.g.tape, c.output.trans k.g.output, Nat.le_trans k.g.size c.size, fun b hb => ?_⟩
    rw [c.block b (Nat.lt_of_lt_of_le hb k.g.size) (fun q => by have := k.own b q; omega), k.g.block b hb]
  exact ⟨k.box.chg c (k.hp.off k.box (by decide) (by decide)), ⟨_, _, hpc.blk.G g1⟩, Rw.G hpc.ids g1⟩
theorem Od.hpc {W w : World} {B pb h : Nat} {wv xv v : Value} {ids : List Int} {Ws O : List Nat} {l : List It} {t : Int} {w' : World} {v' : Value} {l' : List It} {t' : Int} (k : Od W w B pb h wv xv v ids Ws O l t) (c : Chg (hpB h v) w w') (h' : HP w' h (.func (.func 32) #[] #[ptr B]) v' l' t') (ho : v'.ownBlock = v.ownBlock ∨ ∃ b, v'.ownBlock = some b ∧ w.heap.size ≤ b) : Od W w' B pb h wv xv v' ids Ws O l' t' := by
  refine ⟨?_, k.box.chg c (k.hp.off k.box (by decide) (by decide)), k.wai.chg c (k.hp.offR k.wai (by decide) (by decide)), k.out.chg c (k.hp.offR k.out (by decide) (by decide)), h', fun b q => ?_⟩
  · refine ⟨c.os.trans k.g.os, c.tape.trans k.g.tape, c.output.trans k.g.output, Nat.le_trans k.g.size c.size, fun b hb => ?_⟩
    rw [c.block b (Nat.lt_of_lt_of_le hb k.g.size) (fun q => by have := k.own b q; omega), k.g.block b hb]
  · rcases q with q | q
    · exact k.own b (.inl q)
    · rcases ho with e | ⟨b', e, hb'⟩
      · exact k.own b (.inr (e ▸ q))
      · rw [e] at q
        have := Option.some.inj q
        have := k.g.size
        omega
theorem Od.push {W w : World} {B pb h : Nat} {wv xv v : Value} {ids : List Int} {Ws O : List Nat} {l : List It} {t : Int} {lo : Nat} {iv ov : Value} {mb : Nat} {L : List (List Nat)} {gm : Int → Option Value} (k : Od W w B pb h wv xv v ids Ws O l t) (hpc : Pc lo W pb mb iv ov ids gm L) (hd : ∀ y ∈ l, 0 ≤ y.1 ∧ y.1 < ids.length) (hi : Hp.HI (Hp.ah (ltP ids)) l) (hl : l.length < 17179869184) (ht0 : -1 < t) (ht : t < 17179869184) (m : Nat) (hm : m < ids.length) :
    Calls Tryd.prog 33 #[ptr h, I (m : Int)] w fun e w' => e = .returned (.tuple #[]) ∧ ∃ v' l', Od W w' B pb h wv xv v' ids Ws O l' (t + 1) ∧ (plc l').Perm (m :: plc l) ∧ l'.length = l.length + 1 ∧ (∀ y ∈ l', 0 ≤ y.1 ∧ y.1 < ids.length) ∧ Hp.HI (Hp.ah (ltP ids)) l' := by
  refine (push_any (KP B pb iv lo ids) (fun a => 0 ≤ a ∧ a < ids.length) (.func (.func 32) #[] #[ptr B]) (ltP ids) (ahP B pb iv lo ids) h v l t m w (k.kp hpc) k.hp hd ⟨Int.natCast_nonneg m, Int.ofNat_lt.2 hm⟩ hl ht0 ht).mono ?_
  rintro e w' ⟨rfl, v', l', h1, h2, h3, h4, h5⟩
  refine ⟨rfl, v', l', k.hpc h4 h1 h5, ?_, ?_, fun y hy => ?_, h3 (wo_P ids) hi⟩
  · have := h2.map (fun x : It => x.1.toNat)
    simpa [plc] using this
  · have := h2.length_eq
    simpa using this
  · rcases List.mem_cons.1 (h2.subset hy) with e | e
    · subst e
      exact ⟨Int.natCast_nonneg m, Int.ofNat_lt.2 hm⟩
    · exact hd y e
theorem Od.pop0 {W w : World} {B pb h : Nat} {wv xv v : Value} {ids : List Int} {Ws O : List Nat} {t : Int} (k : Od W w B pb h wv xv v ids Ws O [] t) :
    Calls Tryd.prog 34 #[ptr h] w fun e w' => e = .returned (.tuple #[I 0, .bool false]) ∧ Od W w' B pb h wv xv v ids Ws O [] t := by
  refine (pop_none h (.func (.func 32) #[] #[ptr B]) v t w k.hp).mono ?_
  rintro e w' ⟨rfl, g⟩
  exact ⟨rfl, k.G g⟩
theorem Od.pop {W w : World} {B pb h : Nat} {wv xv v : Value} {ids : List Int} {Ws O : List Nat} {l : List It} {t : Int} {lo : Nat} {iv ov : Value} {mb : Nat} {L : List (List Nat)} {gm : Int → Option Value} {x : It} (k : Od W w B pb h wv xv v ids Ws O (x :: l) t) (hpc : Pc lo W pb mb iv ov ids gm L) (hs : ids.Pairwise (· < ·)) (hd : ∀ y ∈ x :: l, 0 ≤ y.1 ∧ y.1 < ids.length) (hi : Hp.HI (Hp.ah (ltP ids)) (x :: l)) (hl : l.length < 17179869184) :
    Calls Tryd.prog 34 #[ptr h] w fun e w' => ∃ (m : Nat) (v' : Value) (l' : List It), e = .returned (.tuple #[I (m : Int), .bool true]) ∧ m < ids.length ∧ Od W w' B pb h wv xv v' ids Ws O l' t ∧ (plc (x :: l)).Perm (m :: plc l') ∧ (∀ q ∈ plc l', m ≤ q) ∧ l'.length = l.length ∧ (∀ y ∈ l', 0 ≤ y.1 ∧ y.1 < ids.length) ∧ Hp.HI (Hp.ah (ltP ids)) l' := by
  refine (pop_some (KP B pb iv lo ids) (fun a => 0 ≤ a ∧ a < ids.length) (.func (.func 32) #[] #[ptr B]) (ltP ids) (ahP B pb iv lo ids) h v x l t w (k.kp hpc) k.hp hd hl).mono ?_
  rintro e w' ⟨rfl, v', l', h1, h2, h3, h4, h5⟩
  have hx := hd x (by simp)
  have ex : x.1 = ((x.1.toNat : Nat) : Int) := by omega
  have hpm : (plc l').Perm (plc l) := h2.map _
  refine ⟨x.1.toNat, v', l', by rw [← ex], by omega, k.hpc h4 h1 (.inl h5), List.Perm.cons _ hpm.symm, fun q hq => first_le hs hd hi q (hpm.subset hq), h2.length_eq, fun y hy => hd y (List.mem_cons_of_mem _ (h2.subset hy)), h3 (wo_P ids) hi⟩
/-- One of what waits is told anew. -/
theorem Od.wait {W w : World} {B pb h g n cap : Nat} {xv v : Value} {ids : List Int} {Ws O : List Nat} {l : List It} {t : Int} (k : Od W w B pb h (.slice (some ⟨g, 0, none⟩) n cap) xv v ids Ws O l t) (hn : Ws.length = n) {m : Nat} (hm : m < n) (x : Nat) : Od W (w.setCell ⟨g, m, none⟩ (I (x : Int))) B pb h (.slice (some ⟨g, 0, none⟩) n cap) xv v ids (Ws.set m x) O l t := by
  subst hn
  obtain ⟨hlo, _, ys, hy⟩ := Rw.own k.wai (b := g) rfl
  have c : Chg (fun b => b = g) w (w.setCell ⟨g, m, none⟩ (I (x : Int))) := chg_setCell _ _ (.inl rfl)
  have hg : Go.Proofs.YtemkilffagjmcaaDoor.G W (w.setCell ⟨g, m, none⟩ (I (x : Int))) := k.g.setCell hlo _
  refine ⟨hg, k.box.chg c (k.box.ne hy (by decide)), ?_, k.out.chg c (fun b hb e => Rw.offb k.out hy (by decide) (by rw [hb, e])), k.hp.chg c (fun b q e => k.hp.off hy (by decide) (by decide) (e ▸ q)), k.own⟩
  have := Rw.set k.wai m (by omega) (I (x : Int))
  rw [List.length_set, List.map_set]
  exact this
theorem Od.at {W w : World} {B pb h g n cap : Nat} {xv v : Value} {ids : List Int} {Ws O : List Nat} {l : List It} {t : Int} (k : Od W w B pb h (.slice (some ⟨g, 0, none⟩) n cap) xv v ids Ws O l t) (hn : Ws.length = n) {m : Nat} (hm : m < n) : w.cell? ⟨g, m, none⟩ = some (I ((Ws[m]! : Nat) : Int)) ∧ w.frozen? ⟨g, m, none⟩ = false := by
  obtain ⟨g', cap', e, -, hc, -⟩ := k.wai.cell (by omega)
  obtain ⟨_, _, ys, hy⟩ := Rw.own k.wai (b := g) rfl
  have eg : g = g' := by simp at e; exact e.1
  subst eg
  refine ⟨?_, hy.frozen m⟩
  rw [hc m (by omega), List.getElem?_map, List.getElem?_eq_getElem (by omega), Hp.get_of (by omega)]
  rfl
theorem plc_le {l : List It} {n : Nat} (hn : (plc l).Nodup) (h : ∀ m ∈ plc l, m < n) : l.length ≤ n := by
  have := hn.length_le_of_subset (l₂ := List.range n) (fun m hm => List.mem_range.2 (h m hm))
  rw [List.length_range] at this
  simpa [plc] using this
theorem Kp.perm {L : List (List Nat)} {D : List Bool} {k j : Nat} {Ws R R' : List Nat} (h : Kp L D k j Ws R) (p : R.Perm R') : Kp L D k j Ws R' := ⟨h.dl, h.wl, h.cnt, fun m => by rw [← h.rdy m]; exact ⟨fun q => p.symm.subset q, fun q => p.subset q⟩, p.nodup_iff.1 h.nd⟩
/-- One is told. -/
theorem Od.tell {W w : World} {B pb h : Nat} {wv xv v : Value} {ids : List Int} {Ws O : List Nat} {l : List It} {t : Int} (k : Od W w B pb h wv xv v ids Ws O l t) (m : Nat) (id : Int) (hid : ids[m]? = some id) (hb : O.length ≤ 1048576) :
    ∃ v' w', (Builtin.append_ #[23, 23] 23 #[xv, .slice (some ⟨w.heap.size, 0, none⟩) 1 1]).run Tryd.prog (w.alloc (.cells #[I id] 2)) = .ok v' w' ∧ Od W w' B pb h wv v' v ids Ws (O ++ [m]) l t := by
  have gA : Go.Proofs.YtemkilffagjmcaaDoor.G w (w.alloc (.cells #[I id] 2)) := (G.refl w).alloc _
  have hA := k.G gA
  obtain ⟨v', w', q1, q2, q3, q4⟩ := app_I (w.alloc (.cells #[I id] 2)) W.heap.size xv O.length ((O.map fun k => ids[k]!).map I) hA.out ⟨w.heap.size, 0, none⟩ 1 1 [I id] rfl (fun j u hj => by rw [Addr.add_mid, Nat.zero_add, (Blk.new w [I id] 2).cell]; exact hj) (fun u hu => by simp at hu; subst hu; rfl) (by omega) hA.g.size
  refine ⟨v', w', q1, ⟨?_, hA.box.chg q3 (fun e => Rw.offb hA.out hA.box (by decide) e), hA.wai.other hA.out (by decide) q3, ?_, hA.hp.chg q3 (fun b q e => hA.hp.offR hA.out (by decide) (by decide) b e q), hA.own⟩⟩
  · exact hA.g.trans' q3 (fun b e => (Rw.own hA.out e).1)
  · rw [List.length_append, List.map_append, List.map_append]
    have e2 : ids[m]! = id := by simp [hid]
    simp only [List.map_cons, List.map_nil, e2]
    exact q2
end
open Go.RowKit

theorem rw_mw (w : World) (lo n : Nat) (hn : n ≤ maxLen) (hlo : lo ≤ w.heap.size) : Rw lo 3 1 (w.alloc (.cells (List.replicate n (I 0)).toArray 3)) (.slice (some ⟨w.heap.size, 0, none⟩) n n) n ((List.replicate n 0).map fun (i : Nat) => I (i : Int)) :=
  ⟨by simp, .inr ⟨w.heap.size, n, _, rfl, hlo, heap_alloc_new w _, Nat.le_refl _, hn, by simp, by simp⟩⟩
theorem rep0 {n j : Nat} : (List.replicate n 0)[j]! = 0 := by
  rw [List.getElem!_eq_getElem?_getD, List.getElem?_replicate]
  split <;> rfl
/-- How many arcs lead to m. -/
def cs (L : List (List Nat)) (m : Nat) : Nat := (L.map fun l => l.count m).sum
theorem cs_le {L : List (List Nat)} {m b : Nat} (h : ∀ l ∈ L, l.length ≤ b) : cs L m ≤ L.length * b := by
  induction L with
  | nil => simp [cs]
  | cons a L ih =>
    have h1 := ih (fun l hl => h l (List.mem_cons_of_mem _ hl))
    have h2 := h a (by simp)
    have h3 : a.count m ≤ a.length := List.count_le_length
    unfold cs at h1 ⊢
    rw [List.map_cons, List.sum_cons, List.length_cons, Nat.succ_mul]
    omega
theorem cs_take {L : List (List Nat)} {m i : Nat} {l : List Nat} (h : L[i]? = some l) : cs (L.take (i + 1)) m = cs (L.take i) m + l.count m := by
  have e : L.take (i + 1) = L.take i ++ [l] := by rw [List.take_add_one, h]; rfl
  unfold cs
  rw [e, List.map_append, List.sum_append]
  simp
theorem wadd {x : Nat} (h : x ≤ 8589934592) : wrap64 ((x : Int) + 1) = (x : Int) + 1 := by unfold wrap64; omega
theorem cnt_le {L : List (List Nat)} {n i j m : Nat} {l : List Nat} (hb : n ≤ 4096) (hn : L.length = n) (hl : ∀ l ∈ L, l.length ≤ 1048576) (hll : l.length ≤ 1048576) : cs (L.take i) m + (l.take j).count m ≤ 8589934592 := by
  have h1 := cs_le (L := L.take i) (m := m) (b := 1048576) (fun l hq => hl l (List.mem_of_mem_take hq))
  have h2 : (l.take j).count m ≤ (l.take j).length := List.count_le_length
  rw [List.length_take] at h1 h2
  have h3 : min i L.length ≤ 4096 := by omega
  have h4 := Nat.mul_le_mul_right 1048576 h3
  omega
theorem cnt_step {L : List (List Nat)} {i j k : Nat} {l Ws : List Nat} {n : Nat} (hk : l[j]? = some k) (hkl : k < Ws.length) (h : ∀ m, m < n → Ws[m]! = cs (L.take i) m + (l.take j).count m) : ∀ m, m < n → (Ws.set k (Ws[k]! + 1))[m]! = cs (L.take i) m + (l.take (j + 1)).count m := fun m hm => by
  have e : l.take (j + 1) = l.take j ++ [k] := by rw [List.take_add_one, hk]; rfl
  rw [e, List.count_append, getW_set hkl]
  by_cases q : m = k
  · subst q
    rw [if_pos rfl, h m hm]
    simp
    omega
  · rw [if_neg q, h m hm, List.count_eq_zero.2 (show m ∉ [k] by simp [q])]
    rfl
/-- While it is counted. -/
structure Ow (W w : World) (B pb wb : Nat) (ids : List Int) (Ws : List Nat) : Prop where
  g : G W w
  box : Blk w B 54 [ptr pb]
  wai : Rw W.heap.size 3 1 w (.slice (some ⟨wb, 0, none⟩) ids.length ids.length) ids.length (Ws.map fun (i : Nat) => I (i : Int))
  len : Ws.length = ids.length
theorem Ow.G {W w w' : World} {B pb wb : Nat} {ids : List Int} {Ws : List Nat} (k : Ow W w B pb wb ids Ws) (g : Go.Proofs.YtemkilffagjmcaaDoor.G w w') : Ow W w' B pb wb ids Ws := ⟨k.g.trans g, k.box.G g, Rw.G k.wai g, k.len⟩
theorem Ow.set {W w : World} {B pb wb : Nat} {ids : List Int} {Ws : List Nat} (k : Ow W w B pb wb ids Ws) {m : Nat} (hm : m < ids.length) (n : Nat) : Ow W (w.setCell ⟨wb, m, none⟩ (I (n : Int))) B pb wb ids (Ws.set m n) := by
  obtain ⟨hlo, _, ys, hy⟩ := Rw.own k.wai (b := wb) rfl
  refine ⟨k.g.setCell hlo _, k.box.off (k.box.ne hy (by decide)), ?_, by rw [List.length_set]; exact k.len⟩
  have := Rw.set k.wai m (by omega) (I (n : Int))
  rw [List.map_set]
  exact this
theorem Ow.at {W w : World} {B pb wb : Nat} {ids : List Int} {Ws : List Nat} (k : Ow W w B pb wb ids Ws) {m : Nat} (hm : m < ids.length) : w.cell? ⟨wb, m, none⟩ = some (I ((Ws[m]! : Nat) : Int)) ∧ w.frozen? ⟨wb, m, none⟩ = false := by
  obtain ⟨g, cap, e, -, hc, -⟩ := k.wai.cell (by omega)
  obtain ⟨_, _, ys, hy⟩ := Rw.own k.wai (b := wb) rfl
  have eg : wb = g := by simp at e; exact e.1
  subst eg
  refine ⟨?_, hy.frozen m⟩
  rw [hc m (by omega), List.getElem?_map, List.getElem?_eq_getElem (by rw [k.len]; exact hm), Hp.get_of (by rw [k.len]; exact hm)]
  rfl
theorem push_in {i : Nat} {Ws R R' : List Nat} (h : ∀ m, m ∈ R ↔ m < i ∧ Ws[m]! = 0) (hn : R.Nodup) (h0 : Ws[i]! = 0) (hp : R'.Perm (i :: R)) : (∀ m, m ∈ R' ↔ m < i + 1 ∧ Ws[m]! = 0) ∧ R'.Nodup := by
  refine ⟨fun m => ?_, hp.nodup_iff.2 (List.nodup_cons.2 ⟨fun q => by have := ((h i).1 q).1; omega, hn⟩)⟩
  rw [show m ∈ R' ↔ m ∈ i :: R from ⟨fun q => hp.subset q, fun q => hp.symm.subset q⟩, List.mem_cons, h m]
  constructor
  · rintro (rfl | ⟨q1, q2⟩)
    · exact ⟨by omega, h0⟩
    · exact ⟨by omega, q2⟩
  · rintro ⟨q1, q2⟩
    by_cases e : m = i
    · exact .inl e
    · exact .inr ⟨by omega, q2⟩
theorem push_no {i : Nat} {Ws R : List Nat} (h : ∀ m, m ∈ R ↔ m < i ∧ Ws[m]! = 0) (h0 : Ws[i]! ≠ 0) : ∀ m, m ∈ R ↔ m < i + 1 ∧ Ws[m]! = 0 := fun m => by
  rw [h m]
  constructor
  · rintro ⟨q1, q2⟩
    exact ⟨by omega, q2⟩
  · rintro ⟨q1, q2⟩
    have hmi : m ≠ i := fun e => h0 (e ▸ q2)
    exact ⟨by omega, q2⟩
theorem sum_le {f : Nat → Nat} {b : Nat} (h : ∀ i, f i ≤ b) : ∀ l : List Nat, (l.map f).sum ≤ l.length * b
  | [] => by simp
  | a :: l => by
    have h1 := sum_le h l
    have h2 := h a
    rw [List.map_cons, List.sum_cons, List.length_cons, Nat.succ_mul]
    omega
theorem wcnt_le {L : List (List Nat)} {D : List Bool} {n m : Nat} (hb : n ≤ 4096) (hn : L.length = n) (hl : ∀ l ∈ L, l.length ≤ 1048576) : wcnt L D m ≤ 8589934592 := by
  have h1 := sum_le (f := fun i => if D[i]! then 0 else (L[i]!).count m) (b := 1048576) (fun i => by
    split
    · exact Nat.zero_le _
    · refine Nat.le_trans List.count_le_length ?_
      by_cases hi : i < L.length
      · rw [Hp.get_of hi]
        exact hl _ (List.getElem_mem hi)
      · have e : L[i]! = [] := by rw [List.getElem!_eq_getElem?_getD, List.getElem?_eq_none (by omega)]; rfl
        rw [e]
        exact Nat.zero_le _) (List.range L.length)
  rw [List.length_range] at h1
  have h4 := Nat.mul_le_mul_right 1048576 (show L.length ≤ 4096 by omega)
  unfold wcnt
  omega
theorem wsub {x : Nat} (h1 : 1 ≤ x) (h : x ≤ 8589934592) : wrap64 ((x : Int) - 1) = ((x - 1 : Nat) : Int) := by unfold wrap64; omega
/-- What is taken so far. -/
structure Tk (n : Nat) (L : List (List Nat)) (R : List Nat × Bool) (D : List Bool) (O : List Nat) : Prop where
  dl : D.length = n
  mem : ∀ m, m ∈ O ↔ m < n ∧ D[m]! = true
  nd : O.Nodup
  ord : ordF L (n - O.length) D O = R
  done : ∀ q, q < L.length → D[q]! = true → wcnt L D q = 0
theorem Tk.le {n : Nat} {L : List (List Nat)} {R : List Nat × Bool} {D : List Bool} {O : List Nat} (h : Tk n L R D O) : O.length ≤ n := by
  have := h.nd.length_le_of_subset (l₂ := List.range n) (fun m hm => List.mem_range.2 ((h.mem m).1 hm).1)
  rwa [List.length_range] at this
theorem Tk.step {n : Nat} {L : List (List Nat)} {R : List Nat × Bool} {D : List Bool} {O : List Nat} {k : Nat} (h : Tk n L R D O) (hn : L.length = n) (hk : k < n) (hd : D[k]! = false) (hw : wcnt L D k = 0) (hx : nxtO L D = some k) : O.length < n ∧ Tk n L R (D.set k true) (O ++ [k]) := by
  have hkO : k ∉ O := fun q => by
    have := ((h.mem k).1 q).2
    rw [hd] at this
    cases this
  have hnd : (O ++ [k]).Nodup := by
    rw [List.nodup_append]
    exact ⟨h.nd, by simp, fun a ha b hb e => by simp at hb; subst hb; exact hkO (e ▸ ha)⟩
  have hmem : ∀ m, m ∈ O ++ [k] ↔ m < n ∧ (D.set k true)[m]! = true := fun m => by
    rw [List.mem_append, List.mem_singleton, h.mem m]
    by_cases e : m = k
    · subst e
      rw [set_at (by rw [h.dl]; exact hk)]
      simp [hk]
    · rw [set_ne e]
      simp [e]
  have hlt : O.length < n := by
    have := hnd.length_le_of_subset (l₂ := List.range n) (fun m hm => List.mem_range.2 ((hmem m).1 hm).1)
    rw [List.length_range, List.length_append] at this
    exact this
  refine ⟨hlt, by rw [List.length_set]; exact h.dl, hmem, hnd, ?_, fun q hq hdq => ?_⟩
  · have h1 := h.ord
    rw [show n - O.length = (n - (O ++ [k]).length) + 1 by rw [List.length_append]; simp; omega, ordF_some hx] at h1
    exact h1
  · have h2 := wcnt_done (m := q) (h.dl.trans hn.symm) (by rw [hn]; exact hk) hd
    by_cases e : q = k
    · subst e
      omega
    · rw [set_ne e] at hdq
      have := h.done q hq hdq
      omega
theorem Tk.fin {n : Nat} {L : List (List Nat)} {R : List Nat × Bool} {D : List Bool} {O : List Nat} (h : Tk n L R D O) (hx : nxtO L D = none) : R.1 = O := by
  have h1 := h.ord
  cases hf : n - O.length with
  | zero =>
    rw [hf] at h1
    rw [← h1]
    rfl
  | succ f =>
    rw [hf, ordF_none hx] at h1
    rw [← h1]
theorem Tk.start {n : Nat} {L : List (List Nat)} {R : List Nat × Bool} (h : ordF L n (List.replicate n false) [] = R) (hn : L.length = n) : Tk n L R (List.replicate L.length false) [] :=
  ⟨by rw [List.length_replicate, hn], fun m => by rw [rep_at]; simp, List.nodup_nil, by rw [hn]; exact h, fun q _ hd => by rw [rep_at] at hd; cases hd⟩
/-- What one knows when Pop has told. -/
def OpI (W w : World) (B pb h wb : Nat) (ids : List Int) (L : List (List Nat)) (R : List Nat × Bool) (xv iv okv : Value) : Prop :=
  ∃ (O : List Nat) (D : List Bool) (Ws : List Nat) (v : Value) (l : List It), Tk ids.length L R D O ∧ Ws.length = ids.length ∧ (∀ y ∈ l, 0 ≤ y.1 ∧ y.1 < ids.length) ∧ Hp.HI (Hp.ah (ltP ids)) l ∧
    ((iv = I 0 ∧ okv = .bool false ∧ R.1 = O ∧ Od W w B pb h (.slice (some ⟨wb, 0, none⟩) ids.length ids.length) xv v ids Ws O l (l.length + O.length : Nat)) ∨
     (∃ k : Nat, iv = I k ∧ okv = .bool true ∧ k < ids.length ∧ D[k]! = false ∧ nxtO L D = some k ∧ wcnt L D k = 0 ∧ Kp L D k 0 Ws (plc l) ∧ Od W w B pb h (.slice (some ⟨wb, 0, none⟩) ids.length ids.length) xv v ids Ws O l (l.length + O.length + 1 : Nat)))
theorem pop_call {W w : World} {B pb h wb lo mb : Nat} {iv ov xv v : Value} {ids : List Int} {gm : Int → Option Value} {L : List (List Nat)} {R : List Nat × Bool} {O Ws : List Nat} {D : List Bool} {l : List It} (k : Od W w B pb h (.slice (some ⟨wb, 0, none⟩) ids.length ids.length) xv v ids Ws O l (l.length + O.length : Nat)) (hpc : Pc lo W pb mb iv ov ids gm L) (hs : ids.Pairwise (· < ·)) (hd : ∀ y ∈ l, 0 ≤ y.1 ∧ y.1 < ids.length) (hi : Hp.HI (Hp.ah (ltP ids)) l) (kh : Kh L D Ws (plc l)) (tk : Tk ids.length L R D O) (hb : ids.length ≤ 4096) (hn : L.length = ids.length) :
    Calls Tryd.prog 34 #[ptr h] w fun e w' => ∃ iv okv, e = .returned (.tuple #[iv, okv]) ∧ OpI W w' B pb h wb ids L R xv iv okv := by
  cases l with
  | nil =>
    refine (k.pop0).mono ?_
    rintro e w' ⟨rfl, k'⟩
    exact ⟨_, _, rfl, O, D, Ws, v, [], tk, kh.wl.trans hn, hd, hi, .inl ⟨rfl, rfl, tk.fin kh.none, k'⟩⟩
  | cons x l =>
    have hll : (x :: l).length ≤ ids.length := plc_le kh.nd (fun m hm => by rw [← hn]; exact ((kh.rdy m).1 hm).1)
    refine (k.pop hpc hs hd hi (by simp at hll; omega)).mono ?_
    rintro e w' ⟨m, v', l', rfl, hm, k', hpm, hle, hln, hd', hi'⟩
    obtain ⟨q1, q2, q3, q4⟩ := kh.pop hpm hle
    refine ⟨_, _, rfl, O, D, Ws, v', l', tk, kh.wl.trans hn, hd', hi', .inr ⟨m, rfl, rfl, hm, q4, q1, ?_, q2, ?_⟩⟩
    · have h0 := (kh.rdy m).1 (hpm.symm.subset (by simp))
      rw [← kh.cnt m q3]
      exact h0.2.2
    · rw [hln, show l.length + O.length + 1 = (x :: l).length + O.length by simp; omega]
      exact k'
set_option maxRecDepth 100000 in
set_option maxHeartbeats 4000000 in
theorem order_any (W : World) (lo pb mb : Nat) (iv ov : Value) (ids : List Int) (gm : Int → Option Value) (L : List (List Nat)) (hpc : Pc lo W pb mb iv ov ids gm L) (hs : ids.Pairwise (· < ·)) (hn : L.length = ids.length) (hb : ids.length ≤ 4096) (hLl : ∀ l ∈ L, l.length ≤ 1048576) (hin : ∀ l ∈ L, ∀ m ∈ l, m < ids.length) (R : List Nat × Bool) (hR : ordF L ids.length (List.replicate ids.length false) [] = R) :
    Calls Tryd.prog 21 #[ptr pb] W fun e W' => ∃ xv, e = .returned xv ∧ G W W' ∧ Rw W.heap.size 2 1 W' xv R.1.length ((R.1.map fun k => ids[k]!).map I) := by
  obtain ⟨ia, ic, rfl⟩ := Rw.form hpc.ids
  obtain ⟨vs, hvs, hvr⟩ := hpc.arc
  obtain ⟨oa, oc, rfl⟩ := Rw.form hvs
  obtain ⟨i0, hi, hz0, hz1, hz2⟩ := info_N
  have hmx : (4096 : Nat) ≤ maxLen := of_decide_eq_true (by kernel_rfl)
  have hmk := run_make (P := Tryd.prog) (W.alloc (.cells #[ptr pb] 54)) 62 3 i0 (I 0) Tryd.underlying62 hi hz0 .i64 .i64 (ids.length : Int) (ids.length : Int) (by omega) (by omega) (by rw [hz2]; omega) (by omega)
  rw [hz1, made_i, Nat.mul_one, show ((ids.length : Int)).toNat = ids.length by omega] at hmk
  have hG1 : G W ((W.alloc (.cells #[ptr pb] 54)).alloc (.cells (List.replicate ids.length (I 0)).toArray 3)) := ((G.refl W).alloc _).alloc _
  have hB1 : Blk ((W.alloc (.cells #[ptr pb] 54)).alloc (.cells (List.replicate ids.length (I 0)).toArray 3)) W.heap.size 54 [ptr pb] := (Blk.new W [ptr pb] 54).G ((G.refl _).alloc _)
  have hR1 := rw_mw (W.alloc (.cells #[ptr pb] 54)) W.heap.size ids.length (by omega) (by rw [World.size_alloc]; omega)
  have cp := (hpc.blk.G ((G.refl W).alloc (.cells #[ptr pb] 54))).cell
  have cb := (Blk.new W [ptr pb] 54).cell
  have hvl : vs.length = L.length := by have := hvs.1; omega
  have HVS := hide hvs
  have HVR := hide hvr
  have HVL := hide hvl
  clear hvs hvr hvl
  have cp1 := (hpc.blk.G hG1).cell
  have hpc1 := hpc.G hG1
  rw [World.size_alloc] at hmk hR1
  have HMK := hide hmk
  have HOW0 : Hid (Ow W ((W.alloc (.cells #[ptr pb] 54)).alloc (.cells (List.replicate ids.length (I 0)).toArray 3)) W.heap.size pb (W.heap.size + 1) ids (List.replicate ids.length 0)) := ⟨hG1, hB1, hR1, List.length_replicate⟩
  have HPC := hide hpc
  have HS := hide hs
  have HN := hide hn
  have HB := hide hb
  have HLL := hide hLl
  have HIN := hide hin
  have HRR := hide hR
  clear hmk hG1 hB1 hR1 hpc hpc1 hi hz0 hz1 hz2 hs hb hLl hin hR hmx
  generalize ((W.alloc (.cells #[ptr pb] 54)).alloc (.cells (List.replicate ids.length (I 0)).toArray 3)) = w1 at *
  obtain ⟨wb, hwb⟩ : ∃ wb, wb = W.heap.size + 1 := ⟨_, rfl⟩
  rw [← hwb] at HMK HOW0
  obtain ⟨B, hB⟩ : ∃ B, B = W.heap.size := ⟨_, rfl⟩
  have HBB := hide hB
  rw [← hB] at HOW0
  clear hwb
  go_enter Tryd.func21, Tryd.ntmps21
  go_wp2_with fail
  rw [HMK.out]
  clear cp cb HMK
  rw [← hB]
  clear hB
  have cb1 := HOW0.out.box.cell
  go_wp2_with fail
  clear cb1 cp1
  go_loopw [27] (fun kv wr => ∃ (i : Nat) (Ws : List Nat), kv = I i ∧ i ≤ L.length ∧ Ow W wr B pb wb ids Ws ∧ ∀ m, m < ids.length → Ws[m]! = cs (L.take i) m) (fun kv _ => L.length - (RowKit.intOf kv).toNat)
  case atStart => exact ⟨0, _, rfl, Nat.zero_le _, HOW0.out, fun m hm => by rw [rep0]; rfl⟩
  case round =>
    obtain ⟨i, Ws, rfl, hi, how, hcs⟩ := hrel
    by_cases hil : i < L.length
    · have hiI : (i : Int) < L.length := Int.ofNat_lt.2 hil
      obtain ⟨l, hl⟩ : ∃ l, L[i]? = some l := ⟨_, List.getElem?_eq_getElem hil⟩
      obtain ⟨lv, hlv⟩ : ∃ lv, vs[i]? = some lv := ⟨_, List.getElem?_eq_getElem (by rw [HVL.out]; exact hil)⟩
      obtain ⟨go, capo, heo, -, hco, -⟩ := (Rw.G HVS.out how.g).cell (by omega)
      obtain ⟨rfl, rfl⟩ : oa = some ⟨go, 0, none⟩ ∧ oc = capo := by simp at heo; exact heo
      have co : wr.cell? ⟨go, i, none⟩ = some lv := by rw [hco i (by omega)]; exact hlv
      have hwi : wrap64 ((i : Int) + 1) = (i : Int) + 1 := wone5 i (by have := HB.out; omega)
      have HROW := hide (HVR.out i lv l hlv hl)
      have HLN := hide (HLL.out l (List.mem_of_getElem? hl))
      have HLI := hide (HIN.out l (List.mem_of_getElem? hl))
      have HL := hide hl
      have HOW := hide how
      have HCS := hide hcs
      have HIL := hide hil
      obtain ⟨ta, tc, rfl⟩ := Rw.form (HVR.out i lv l hlv hl)
      clear hi how hcs hil hl hlv heo hco
      go_wp2_with fail
      go_loopw [33] (fun jv w2 => ∃ (j : Nat) (Ws : List Nat), jv = I j ∧ j ≤ l.length ∧ Ow W w2 B pb wb ids Ws ∧ ∀ m, m < ids.length → Ws[m]! = cs (L.take i) m + (l.take j).count m) (fun jv _ => l.length - (RowKit.intOf jv).toNat)
      case atStart => exact ⟨0, _, rfl, Nat.zero_le _, HOW.out, fun m hm => by rw [List.take_zero]; exact HCS.out m hm⟩
      case round =>
        obtain ⟨j, Ws2, rfl, hj, how2, hcs2⟩ := hrel
        by_cases hjl : j < l.length
        · have hjI : (j : Int) < l.length := Int.ofNat_lt.2 hjl
          obtain ⟨k, hk⟩ : ∃ k, l[j]? = some k := ⟨_, List.getElem?_eq_getElem hjl⟩
          have hkn : k < ids.length := HLI.out k (List.mem_of_getElem? hk)
          have hkI : (k : Int) < ids.length := Int.ofNat_lt.2 hkn
          obtain ⟨gt, capt, het, -, hct, -⟩ := (Rw.G HROW.out how2.g).cell (by omega)
          obtain ⟨rfl, rfl⟩ : ta = some ⟨gt, 0, none⟩ ∧ tc = capt := by simp at het; exact het
          have ct : wr.cell? ⟨gt, j, none⟩ = some (I (k : Int)) := by rw [hct j (by omega), List.getElem?_map, hk]; rfl
          have hwj : wrap64 ((j : Int) + 1) = (j : Int) + 1 := wone5 j (by have := HLN.out; omega)
          obtain ⟨cw, zw⟩ := how2.at hkn
          have hww : wrap64 (((Ws2[k]! : Nat) : Int) + 1) = ((Ws2[k]! : Nat) : Int) + 1 := wadd (by rw [hcs2 k hkn]; exact cnt_le HB.out HN.out HLL.out HLN.out)
          have HO3 := hide (how2.set hkn (Ws2[k]! + 1))
          have HC3 := hide (cnt_step hk (by rw [how2.len]; exact hkn) hcs2)
          have HJL := hide hjl
          generalize Ws2[k]! = x at *
          clear hj how2 hcs2 hjl hk hkn het hct
          have ex : ((x + 1 : Nat) : Int) = (x : Int) + 1 := by rfl
          rw [ex] at HO3
          clear ex
          go_wp2_with fail
          go_roundw
          case rel => (try rw [hwj]); exact ⟨j + 1, _, by simp, HJL.out, HO3.out, HC3.out⟩
          case measure => (try rw [hwj]); simp only [RowKit.intOf]; exact ms5 HJL.out
        · have hjI : ¬ ((j : Int) < l.length) := fun h => hjl (Int.ofNat_lt.1 h)
          obtain rfl : j = l.length := Nat.le_antisymm hj (Nat.le_of_not_lt hjl)
          have HO3 := hide how2
          have HC3 : Hid (∀ m, m < ids.length → Ws2[m]! = cs (L.take (i + 1)) m) := fun m hm => by
            rw [cs_take HL.out, hcs2 m hm, List.take_length]
          clear hj how2 hcs2 hjl
          go_wp2_with fail
          go_roundw
          case rel => (try rw [hwi]); exact ⟨i + 1, _, by simp, HIL.out, HO3.out, HC3.out⟩
          case measure => (try rw [hwi]); simp only [RowKit.intOf]; exact ms5 HIL.out
    · have hiI : ¬ ((i : Int) < L.length) := fun h => hil (Int.ofNat_lt.1 h)
      obtain rfl : i = L.length := Nat.le_antisymm hi (Nat.le_of_not_lt hil)
      rw [List.take_length] at hcs
      have HOW := hide how
      have HCS := hide hcs
      have HNH := hide (nho_any B wr)
      clear hi how hcs hil
      go_wp2_with fail
      refine HNH.out.mono ?_
      rintro e w4 ⟨h, rfl, hp4, hg4, hh4⟩
      have HOD : Hid (Od W w4 B pb h (.slice (some ⟨wb, 0, none⟩) ids.length ids.length) (.slice none 0 0) (.slice none 0 0) ids Ws [] [] ((([] : List It).length : Nat) : Int)) := by
        have k4 := HOW.out.G hg4
        refine ⟨k4.g, k4.box, ?_, Rw.nil _ _ _ _, hp4, fun b q => ?_⟩
        · rw [k4.len]
          exact k4.wai
        · rcases q with q | q
          · rw [q]
            exact Nat.le_trans HOW.out.g.size hh4
          · cases q
      have HWL := hide HOW.out.len
      clear hp4 hg4 hh4 HNH HOW
      go_wp2_with fail
      go_loopw [49] (fun kv w5 => ∃ (i : Nat) (v : Value) (l : List It), kv = I i ∧ i ≤ ids.length ∧ Od W w5 B pb h (.slice (some ⟨wb, 0, none⟩) ids.length ids.length) (.slice none 0 0) v ids Ws [] l (l.length : Int) ∧ (∀ m, m ∈ plc l ↔ m < i ∧ Ws[m]! = 0) ∧ (plc l).Nodup ∧ (∀ y ∈ l, 0 ≤ y.1 ∧ y.1 < ids.length) ∧ Hp.HI (Hp.ah (ltP ids)) l) (fun kv _ => ids.length - (RowKit.intOf kv).toNat)
      case atStart => exact ⟨0, _, [], rfl, Nat.zero_le _, HOD.out, fun m => by simp [plc], List.nodup_nil, fun y hy => absurd hy (by simp), fun j _ h => absurd h (by simp)⟩
      case round =>
        obtain ⟨i, v, l, rfl, hi, hod, hrd, hnd, hd, hhi⟩ := hrel
        by_cases hil : i < ids.length
        · have hiI : (i : Int) < ids.length := Int.ofNat_lt.2 hil
          obtain ⟨cw, zw⟩ := hod.at HWL.out hil
          have hwi : wrap64 ((i : Int) + 1) = (i : Int) + 1 := wone5 i (by have := HB.out; omega)
          have hll : l.length ≤ ids.length := plc_le hnd (fun m hm => by have := (hrd m).1 hm; omega)
          have HPU := hide (hod.push HPC.out hd hhi (by have := HB.out; omega) (by omega) (by have := HB.out; omega) i hil)
          have HOD5 := hide hod
          have HRD := hide hrd
          have HND := hide hnd
          have HD := hide hd
          have HHI := hide hhi
          have HIL := hide hil
          obtain ⟨x, hx⟩ : ∃ x, x = Ws[i]! := ⟨_, rfl⟩
          have HX := hide hx
          rw [← hx] at cw
          clear hi hod hrd hnd hd hhi hil hx hll
          by_cases hx0 : x = 0
          · subst hx0
            have h00 : (((0 : Nat) : Int) == 0) = true := rfl
            go_wp2_with fail
            refine HPU.out.mono ?_
            rintro e w6 ⟨rfl, v6, l6, hod6, hpm6, hln6, hd6, hhi6⟩
            obtain ⟨q1, q2⟩ := push_in HRD.out HND.out HX.out.symm hpm6
            have HREL : Hid (∃ (i' : Nat) (v : Value) (l : List It), I ((i : Int) + 1) = I i' ∧ i' ≤ ids.length ∧ Od W w6 B pb h (.slice (some ⟨wb, 0, none⟩) ids.length ids.length) (.slice none 0 0) v ids Ws [] l (l.length : Int) ∧ (∀ m, m ∈ plc l ↔ m < i' ∧ Ws[m]! = 0) ∧ (plc l).Nodup ∧ (∀ y ∈ l, 0 ≤ y.1 ∧ y.1 < ids.length) ∧ Hp.HI (Hp.ah (ltP ids)) l) := ⟨i + 1, v6, l6, by simp, HIL.out, by rw [hln6]; exact hod6, q1, q2, hd6, hhi6⟩
            clear hod6 hpm6 hln6 hd6 hhi6 q1 q2 HPU
            go_wp2_with fail
            go_roundw
            case rel => (try rw [hwi]); exact HREL.out
            case measure => (try rw [hwi]); simp only [RowKit.intOf]; exact ms5 HIL.out
          · have hx1 : ((x : Int) == 0) = false := beq_eq_false_iff_ne.2 (fun e => hx0 (by omega))
            have HRD2 := hide (push_no HRD.out (by rw [← HX.out]; exact hx0))
            clear HPU hx0
            go_wp2_with fail
            go_roundw
            case rel => (try rw [hwi]); exact ⟨i + 1, _, _, by simp, HIL.out, HOD5.out, HRD2.out, HND.out, HD.out, HHI.out⟩
            case measure => (try rw [hwi]); simp only [RowKit.intOf]; exact ms5 HIL.out
        · have hiI : ¬ ((i : Int) < ids.length) := fun h => hil (Int.ofNat_lt.1 h)
          obtain rfl : i = ids.length := Nat.le_antisymm hi (Nat.le_of_not_lt hil)
          have HKH : Hid (Kh L (List.replicate L.length false) Ws (plc l)) := by
            refine ⟨List.length_replicate, by rw [HWL.out, HN.out], fun m hm => ?_, fun m => ?_, hnd⟩
            · rw [wcnt_start]
              exact HCS.out m (by rw [← HN.out]; exact hm)
            · rw [hrd m, rep_at, HN.out]
              simp
          have HOD5 := hide hod
          have HD := hide hd
          have HHI := hide hhi
          have HPO := hide (pop_call (R := R) hod HPC.out HS.out hd hhi HKH.out (Tk.start HRR.out HN.out) HB.out HN.out)
          clear hi hod hrd hnd hd hhi hil HOD5 HD HHI HKH
          go_wp2_with fail
          refine HPO.out.mono ?_
          rintro e w6 ⟨iv6, okv6, rfl, hop6⟩
          have HOP := hide hop6
          clear hop6 HPO
          go_wp2_with fail
          go_loopw [11, 12, 13] (fun xv iv okv w7 => OpI W w7 B pb h wb ids L R xv iv okv) (fun xv _ _ _ => ids.length - slen xv)
          case atStart => exact HOP.out
          case round =>
            obtain ⟨O, D, Ws3, v7, l7, htk, hwl, hd7, hhi7, hca⟩ := hrel
            rcases hca with ⟨rfl, rfl, hRO, hod7⟩ | ⟨k, rfl, rfl, hk, hdk, hnx, hwk, hkp, hod7⟩
            · obtain ⟨xa, xc, rfl⟩ := Rw.form hod7.out
              have HFI : Hid (∃ xv, Ending.returned (.slice xa O.length xc) = .returned xv ∧ G W wr ∧ Rw W.heap.size 2 1 wr xv R.1.length ((R.1.map fun k => ids[k]!).map I)) := ⟨_, rfl, hod7.g, by rw [hRO]; exact hod7.out⟩
              clear htk hwl hd7 hhi7 hRO hod7
              go_wp2_with fail
              go_ret
              exact HFI.out
            · obtain ⟨xa, xc, rfl⟩ := Rw.form hod7.out
              obtain ⟨id, hid⟩ : ∃ id, ids[k]? = some id := ⟨_, List.getElem?_eq_getElem hk⟩
              have hkI : (k : Int) < ids.length := Int.ofNat_lt.2 hk
              have hkL : k < L.length := by rw [HN.out]; exact hk
              have hkLI : (k : Int) < L.length := Int.ofNat_lt.2 hkL
              obtain ⟨v8, w8, hrun8, hod8⟩ := hod7.tell k id hid (by have := htk.le; have := HB.out; omega)
              obtain ⟨hlt, htk8⟩ := htk.step HN.out hk hdk hwk hnx
              obtain ⟨xa8, xc8, rfl⟩ := Rw.form hod8.out
              have cb7 := hod7.box.cell
              have cp7 := (HPC.out.blk.G hod7.g).cell
              have cb8 := hod8.box.cell
              have cp8 := (HPC.out.blk.G hod8.g).cell
              obtain ⟨g6, cap6, he6, -, hc6, -⟩ := (Rw.G HPC.out.ids hod7.g).cell (by omega)
              obtain ⟨rfl, rfl⟩ : ia = some ⟨g6, 0, none⟩ ∧ ic = cap6 := by simp at he6; exact he6
              have c6 : wr.cell? ⟨g6, k, none⟩ = some (I id) := by rw [hc6 k (by omega), List.getElem?_map, hid]; rfl
              obtain ⟨l, hl⟩ : ∃ l, L[k]? = some l := ⟨_, List.getElem?_eq_getElem hkL⟩
              obtain ⟨lv, hlv⟩ : ∃ lv, vs[k]? = some lv := ⟨_, List.getElem?_eq_getElem (by rw [HVL.out]; exact hkL)⟩
              obtain ⟨go, capo, heo, -, hco, -⟩ := (Rw.G HVS.out hod8.g).cell (by omega)
              obtain ⟨rfl, rfl⟩ : oa = some ⟨go, 0, none⟩ ∧ oc = capo := by simp at heo; exact heo
              have co : w8.cell? ⟨go, k, none⟩ = some lv := by rw [hco k (by omega)]; exact hlv
              have HROW := hide (HVR.out k lv l hlv hl)
              have HLN := hide (HLL.out l (List.mem_of_getElem? hl))
              have HLI := hide (HIN.out l (List.mem_of_getElem? hl))
              have HEL : Hid (L[k]! = l) := by show _ = _; simp [hl]
              obtain ⟨ta, tc, rfl⟩ := Rw.form (HVR.out k lv l hlv hl)
              have HRUN8 := hide hrun8
              have HMS : Hid (ids.length - (O ++ [k]).length < ids.length - O.length) := by
                show _ < _
                rw [List.length_append]
                simp
                omega
              have HT8 : Hid ((l7.length + O.length + 1 : Nat) = l7.length + (O ++ [k]).length) := by
                show _ = _
                rw [List.length_append]
                rfl
              rw [HT8.out] at hod8
              have HTK8 := hide htk8
              have HTK := hide htk
              have HOD8 := hide hod8
              have HKP := hide hkp
              have HK := hide hk
              have HDK := hide hdk
              have HWK := hide hwk
              have HD7 := hide hd7
              have HHI7 := hide hhi7
              obtain ⟨O8, hO8⟩ : ∃ O8, O8 = O ++ [k] := ⟨_, rfl⟩
              rw [← hO8] at HRUN8 HMS HTK8 HOD8
              obtain ⟨m8, hm8⟩ : ∃ m8, m8 = O8.length := ⟨_, rfl⟩
              have HM8 := hide hm8
              rw [← hm8] at HRUN8 HMS HOD8
              clear htk hwl hd7 hhi7 hk hdk hnx hwk hkp hod7 hid hrun8 hod8 hlt htk8 he6 hc6 hl hlv heo hco hkL HT8 hO8 hm8
              go_wp2_with (first | (at_builtin; refine wpList_append_run rfl _ _ 23 rfl (.slice xa O.length xc) (.slice (some ⟨wr.heap.size, 0, none⟩) 1 1) rfl rfl HRUN8.out ?_) | fail)
              clear cb7 cp7 cb8 cp8 c6 co HRUN8
              go_loopw [89] (fun jv w9 => ∃ (j' : Nat) (Ws : List Nat) (v : Value) (l' : List It), jv = I j' ∧ j' ≤ l.length ∧ Kp L D k j' Ws (plc l') ∧ Od W w9 B pb h (.slice (some ⟨wb, 0, none⟩) ids.length ids.length) (.slice xa8 m8 xc8) v ids Ws O8 l' (l'.length + m8 : Nat) ∧ (∀ y ∈ l', 0 ≤ y.1 ∧ y.1 < ids.length) ∧ Hp.HI (Hp.ah (ltP ids)) l') (fun jv _ => l.length - (RowKit.intOf jv).toNat)
              case atStart => exact ⟨0, _, _, _, rfl, Nat.zero_le _, HKP.out, HOD8.out, HD7.out, HHI7.out⟩
              case round =>
                obtain ⟨j, Ws9, v9, l9, rfl, hj, hkp9, hod9, hd9, hhi9⟩ := hrel
                have hw9 : Ws9.length = ids.length := hkp9.wl.trans HN.out
                by_cases hjl : j < l.length
                · have hjI : (j : Int) < l.length := Int.ofNat_lt.2 hjl
                  obtain ⟨m, hm⟩ : ∃ m, l[j]? = some m := ⟨_, List.getElem?_eq_getElem hjl⟩
                  have hmn : m < ids.length := HLI.out m (List.mem_of_getElem? hm)
                  have hmI : (m : Int) < ids.length := Int.ofNat_lt.2 hmn
                  obtain ⟨gt, capt, het, -, hct, -⟩ := (Rw.G HROW.out hod9.g).cell (by omega)
                  obtain ⟨rfl, rfl⟩ : ta = some ⟨gt, 0, none⟩ ∧ tc = capt := by simp at het; exact het
                  have ct : wr.cell? ⟨gt, j, none⟩ = some (I (m : Int)) := by rw [hct j (by omega), List.getElem?_map, hm]; rfl
                  have hwj : wrap64 ((j : Int) + 1) = (j : Int) + 1 := wone5 j (by have := HLN.out; omega)
                  obtain ⟨hx1, hmR, hz, hnz⟩ := hkp9.step (by rw [HN.out]; exact HK.out) HDK.out HWK.out HTK.out.done (by rw [HEL.out]; exact hm) (by rw [HN.out]; exact hmn)
                  obtain ⟨cw, zw⟩ := hod9.at hw9 hmn
                  have hxle : Ws9[m]! ≤ 8589934592 := by
                    have h1 := hkp9.cnt m (by rw [HN.out]; exact hmn)
                    have h2 := wcnt_le (D := D) (m := m) HB.out HN.out HLL.out
                    omega
                  have hww := wsub hx1 hxle
                  have hod10 := hod9.wait hw9 hmn (Ws9[m]! - 1)
                  obtain ⟨cw2, zw2⟩ := hod10.at (by rw [List.length_set]; exact hw9) hmn
                  rw [getW_set (by rw [hw9]; exact hmn), if_pos rfl] at cw2
                  obtain ⟨x, hx⟩ : ∃ x, x = Ws9[m]! := ⟨_, rfl⟩
                  rw [← hx] at cw hww hod10 cw2 zw2 hz hnz
                  obtain ⟨y, hy⟩ : ∃ y, y = x - 1 := ⟨_, rfl⟩
                  rw [← hy] at hww hod10 cw2 zw2 hz hnz
                  have HZ := hide hz
                  have HNZ := hide hnz
                  have HOD10 := hide hod10
                  have HD9 := hide hd9
                  have HHI9 := hide hhi9
                  have HJL := hide hjl
                  have HMN := hide hmn
                  have HKP9 := hide hkp9
                  clear hj hkp9 hod9 hd9 hhi9 hw9 hjl hm hmn het hct hx1 hmR hz hnz hxle hod10 hx hy
                  by_cases hy0 : y = 0
                  · have hl9 : l9.length ≤ ids.length := plc_le HKP9.out.nd (fun q hq => by rw [← HN.out]; exact ((HKP9.out.rdy q).1 hq).1)
                    have hm9 : m8 ≤ ids.length := by rw [HM8.out]; exact HTK8.out.le
                    have HPU := hide (HOD10.out.push HPC.out HD9.out HHI9.out (by have := HB.out; omega) (by omega) (by have := HB.out; omega) m HMN.out)
                    have HKP10 := hide (HZ.out hy0)
                    subst hy0
                    have h00 : (((0 : Nat) : Int) == 0) = true := rfl
                    clear hl9 hm9 HZ HNZ HKP9 HOD10
                    go_wp2_with fail
                    refine HPU.out.mono ?_
                    rintro e w11 ⟨rfl, v11, l11, hod11, hpm11, hln11, hd11, hhi11⟩
                    have HREL : Hid (∃ (j' : Nat) (Ws : List Nat) (v : Value) (l' : List It), I ((j : Int) + 1) = I j' ∧ j' ≤ l.length ∧ Kp L D k j' Ws (plc l') ∧ Od W w11 B pb h (.slice (some ⟨wb, 0, none⟩) ids.length ids.length) (.slice xa8 m8 xc8) v ids Ws O8 l' (l'.length + m8 : Nat) ∧ (∀ y ∈ l', 0 ≤ y.1 ∧ y.1 < ids.length) ∧ Hp.HI (Hp.ah (ltP ids)) l') := ⟨j + 1, _, v11, l11, by simp, HJL.out, HKP10.out.perm hpm11.symm, by rw [hln11, show ((l9.length + 1 + m8 : Nat) : Int) = ((l9.length + m8 : Nat) : Int) + 1 by omega]; exact hod11, hd11, hhi11⟩
                    clear hod11 hpm11 hln11 hd11 hhi11 HPU HKP10
                    go_wp2_with fail
                    go_roundw
                    case rel => (try rw [hwj]); exact HREL.out
                    case measure => (try rw [hwj]); simp only [RowKit.intOf]; exact ms5 HJL.out
                  · have hy1 : ((y : Int) == 0) = false := beq_eq_false_iff_ne.2 (fun e => hy0 (by omega))
                    have HKP10 := hide (HNZ.out hy0)
                    clear hy0 HZ HNZ HKP9
                    go_wp2_with fail
                    go_roundw
                    case rel => (try rw [hwj]); exact ⟨j + 1, _, _, _, by simp, HJL.out, HKP10.out, HOD10.out, HD9.out, HHI9.out⟩
                    case measure => (try rw [hwj]); simp only [RowKit.intOf]; exact ms5 HJL.out
                · have hjI : ¬ ((j : Int) < l.length) := fun h => hjl (Int.ofNat_lt.1 h)
                  obtain rfl : j = l.length := Nat.le_antisymm hj (Nat.le_of_not_lt hjl)
                  rw [← HEL.out] at hkp9
                  have hkh := hkp9.fin (by rw [HN.out]; exact HK.out) HDK.out
                  have HPO := hide (pop_call (R := R) (by rw [← HM8.out]; exact hod9) HPC.out HS.out hd9 hhi9 hkh HTK8.out HB.out HN.out)
                  clear hj hjl hkp9 hkh hod9 hd9 hhi9 hw9
                  go_wp2_with fail
                  refine HPO.out.mono ?_
                  rintro e w10 ⟨iv10, okv10, rfl, hop10⟩
                  have HOP10 := hide hop10
                  clear hop10 HPO
                  go_wp2_with fail
                  go_roundw
                  case rel => exact HOP10.out
                  case measure => exact HMS.out
end Go.Proofs.YtemkilffagjmcaaDoor
