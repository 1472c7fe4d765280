/- Paths: the order of a piece in memory. -/
import Derived.Test.YtcbjcienjolceabDoorPz14
namespace Go.Proofs.YtcbjcienjolceabDoor
open Go.RowKit

theorem wo_P (ids : List Int) : Hp.WO (ltP ids) := by
  have h1 : ∀ a b, ltP ids a b = true ↔ ids[a.toNat]! < ids[b.toNat]! := fun a b => by simp [ltP]
  have h2 : ∀ a b, ltP ids a b = false ↔ ids[b.toNat]! ≤ ids[a.toNat]! := fun a b => by simp [ltP]
  exact ⟨fun a b h => by rw [h1] at h; rw [h2]; omega, fun a b c h k => by rw [h1] at *; omega, fun a b c h k => by rw [h2] at *; omega⟩
/-- The places that lie in a heap. -/
def plc (l : List It) : List Nat := l.map fun x => x.1.toNat
/-- The one that comes out is the least. -/
theorem first_le {ids : List Int} (hs : ids.Pairwise (· < ·)) {x : It} {l : List It} (hd : ∀ y ∈ x :: l, 0 ≤ y.1 ∧ y.1 < ids.length) (h : Hp.HI (Hp.ah (ltP ids)) (x :: l)) : ∀ m ∈ plc l, x.1.toNat ≤ m := by
  intro m hm
  obtain ⟨y, hy, rfl⟩ := List.mem_map.1 hm
  have h1 := Hp.HI.first (wo_P ids).ah h y (List.mem_cons_of_mem _ hy)
  have hx := hd x (by simp)
  have hy2 := hd y (List.mem_cons_of_mem _ hy)
  have e0 : (x :: l)[0]! = x := rfl
  rw [e0] at h1
  have ex : x.1 = ((x.1.toNat : Nat) : Int) := by omega
  have ey : y.1 = ((y.1.toNat : Nat) : Int) := by omega
  have q1 : ltP ids x.1 y.1 = decide (x.1.toNat < y.1.toNat) := by
    have := ltP_iff hs (a := x.1.toNat) (b := y.1.toNat) (by omega) (by omega)
    rw [← ex, ← ey] at this
    exact this
  have q2 : ltP ids y.1 x.1 = decide (y.1.toNat < x.1.toNat) := by
    have := ltP_iff hs (a := y.1.toNat) (b := x.1.toNat) (by omega) (by omega)
    rw [← ex, ← ey] at this
    exact this
  unfold Hp.ah at h1
  rw [q1, q2] at h1
  split at h1
  · have : x.1.toNat < y.1.toNat := by simpa using h1
    omega
  · have : ¬ y.1.toNat < x.1.toNat := by simpa using h1
    omega
theorem G.trans' {W w w' : World} {F : Nat → Prop} (g : G W w) (c : Chg F w w') (hF : ∀ b, F b → W.heap.size ≤ b) : G W w' := by
  refine ⟨c.os.trans g.os, c.tape.trans g.tape, c.output.trans g.output, Nat.le_trans g.size c.size, fun b hb => ?_⟩
  rw [c.block b (Nat.lt_of_lt_of_le hb g.size) (fun q => by have := hF b q; omega), g.block b hb]
/-- What order has of its own: its box, what waits, what is told, the heap. -/
structure Od (W w : World) (B pb h : Nat) (wv xv v : Value) (ids : List Int) (Ws O : List Nat) (l : List It) (t : Int) : Prop where
  g : G W w
  box : Blk w B 70 [ptr pb]
  wai : Rw W.heap.size 3 1 w wv Ws.length (Ws.map fun (i : Nat) => I (i : Int))
  out : Rw W.heap.size 2 1 w xv O.length ((O.map fun k => ids[k]!).map I)
  hp : HP w h (.func (.func 52) #[] #[ptr B]) v l t
  own : ∀ b, hpB h v b → W.heap.size ≤ b
theorem Od.G {W w : World} {B pb h : Nat} {wv xv v : Value} {ids : List Int} {Ws O : List Nat} {l : List It} {t : Int} {w' : World} (k : Od W w B pb h wv xv v ids Ws O l t) (g : Go.Proofs.YtcbjcienjolceabDoor.G w w') : Od W w' B pb h wv xv v ids Ws O l t :=
  ⟨k.g.trans g, k.box.G g, Rw.G k.wai g, Rw.G k.out g, k.hp.G g, k.own⟩
theorem HP.offR {w : World} {h : Nat} {f v : Value} {l : List It} {t : Int} (k : HP w h f v l t) {lo : Nat} {e : TypeId} {nc : Nat} {u : Value} {n : Nat} {xs : List Value} (hr : Rw lo e nc w u n xs) (h1 : e ≠ 120) (h2 : e ≠ 122) : ∀ b, u.ownBlock = some b → ¬ hpB h v b := fun b hb => by
  obtain ⟨_, _, ys, hy⟩ := Rw.own hr hb
  exact k.off hy h1 h2
theorem Od.kp {W w : World} {B pb h : Nat} {wv xv v : Value} {ids : List Int} {Ws O : List Nat} {l : List It} {t : Int} {lo : Nat} {iv ov : Value} {mb : Nat} {L : List (List Nat)} {gm : Int → Option Value} (k : Od W w B pb h wv xv v ids Ws O l t) (hpc : Pc lo W pb mb iv ov ids gm L) : ∀ W', Chg (hpB h v) w W' → KP B pb iv lo ids W' := fun W' c => by
  have g1 : Go.Proofs.YtcbjcienjolceabDoor.G W W' := by
    refine ⟨c.os.trans k.g.os, c.tape.trans k.g.tape, c.output.trans k.g.output, Nat.le_trans k.g.size c.size, fun b hb => ?_⟩
    rw [c.block b (Nat.lt_of_lt_of_le hb k.g.size) (fun q => by have := k.own b q; omega), k.g.block b hb]
  exact ⟨k.box.chg c (k.hp.off k.box (by decide) (by decide)), ⟨_, _, hpc.blk.G g1⟩, Rw.G hpc.ids g1⟩
theorem Od.hpc {W w : World} {B pb h : Nat} {wv xv v : Value} {ids : List Int} {Ws O : List Nat} {l : List It} {t : Int} {w' : World} {v' : Value} {l' : List It} {t' : Int} (k : Od W w B pb h wv xv v ids Ws O l t) (c : Chg (hpB h v) w w') (h' : HP w' h (.func (.func 52) #[] #[ptr B]) v' l' t') (ho : v'.ownBlock = v.ownBlock ∨ ∃ b, v'.ownBlock = some b ∧ w.heap.size ≤ b) : Od W w' B pb h wv xv v' ids Ws O l' t' := by
  refine ⟨?_, k.box.chg c (k.hp.off k.box (by decide) (by decide)), k.wai.chg c (k.hp.offR k.wai (by decide) (by decide)), k.out.chg c (k.hp.offR k.out (by decide) (by decide)), h', fun b q => ?_⟩
  · refine ⟨c.os.trans k.g.os, c.tape.trans k.g.tape, c.output.trans k.g.output, Nat.le_trans k.g.size c.size, fun b hb => ?_⟩
    rw [c.block b (Nat.lt_of_lt_of_le hb k.g.size) (fun q => by have := k.own b q; omega), k.g.block b hb]
  · rcases q with q | q
    · exact k.own b (.inl q)
    · rcases ho with e | ⟨b', e, hb'⟩
      · exact k.own b (.inr (e ▸ q))
      · rw [e] at q
        have := Option.some.inj q
        have := k.g.size
        omega
theorem Od.push {W w : World} {B pb h : Nat} {wv xv v : Value} {ids : List Int} {Ws O : List Nat} {l : List It} {t : Int} {lo : Nat} {iv ov : Value} {mb : Nat} {L : List (List Nat)} {gm : Int → Option Value} (k : Od W w B pb h wv xv v ids Ws O l t) (hpc : Pc lo W pb mb iv ov ids gm L) (hd : ∀ y ∈ l, 0 ≤ y.1 ∧ y.1 < ids.length) (hi : Hp.HI (Hp.ah (ltP ids)) l) (hl : l.length < 17179869184) (ht0 : -1 < t) (ht : t < 17179869184) (m : Nat) (hm : m < ids.length) :
    Calls Tryd.prog 53 #[ptr h, I (m : Int)] w fun e w' => e = .returned (.tuple #[]) ∧ ∃ v' l', Od W w' B pb h wv xv v' ids Ws O l' (t + 1) ∧ (plc l').Perm (m :: plc l) ∧ l'.length = l.length + 1 ∧ (∀ y ∈ l', 0 ≤ y.1 ∧ y.1 < ids.length) ∧ Hp.HI (Hp.ah (ltP ids)) l' := by
  refine (push_any (KP B pb iv lo ids) (fun a => 0 ≤ a ∧ a < ids.length) (.func (.func 52) #[] #[ptr B]) (ltP ids) (ahP B pb iv lo ids) h v l t m w (k.kp hpc) k.hp hd ⟨Int.natCast_nonneg m, Int.ofNat_lt.2 hm⟩ hl ht0 ht).mono ?_
  rintro e w' ⟨rfl, v', l', h1, h2, h3, h4, h5⟩
  refine ⟨rfl, v', l', k.hpc h4 h1 h5, ?_, ?_, fun y hy => ?_, h3 (wo_P ids) hi⟩
  · have := h2.map (fun x : It => x.1.toNat)
    simpa [plc] using this
  · have := h2.length_eq
    simpa using this
  · rcases List.mem_cons.1 (h2.subset hy) with e | e
    · subst e
      exact ⟨Int.natCast_nonneg m, Int.ofNat_lt.2 hm⟩
    · exact hd y e
theorem Od.pop0 {W w : World} {B pb h : Nat} {wv xv v : Value} {ids : List Int} {Ws O : List Nat} {t : Int} (k : Od W w B pb h wv xv v ids Ws O [] t) :
    Calls Tryd.prog 54 #[ptr h] w fun e w' => e = .returned (.tuple #[I 0, .bool false]) ∧ Od W w' B pb h wv xv v ids Ws O [] t := by
  refine (pop_none h (.func (.func 52) #[] #[ptr B]) v t w k.hp).mono ?_
  rintro e w' ⟨rfl, g⟩
  exact ⟨rfl, k.G g⟩
theorem Od.pop {W w : World} {B pb h : Nat} {wv xv v : Value} {ids : List Int} {Ws O : List Nat} {l : List It} {t : Int} {lo : Nat} {iv ov : Value} {mb : Nat} {L : List (List Nat)} {gm : Int → Option Value} {x : It} (k : Od W w B pb h wv xv v ids Ws O (x :: l) t) (hpc : Pc lo W pb mb iv ov ids gm L) (hs : ids.Pairwise (· < ·)) (hd : ∀ y ∈ x :: l, 0 ≤ y.1 ∧ y.1 < ids.length) (hi : Hp.HI (Hp.ah (ltP ids)) (x :: l)) (hl : l.length < 17179869184) :
    Calls Tryd.prog 54 #[ptr h] w fun e w' => ∃ (m : Nat) (v' : Value) (l' : List It), e = .returned (.tuple #[I (m : Int), .bool true]) ∧ m < ids.length ∧ Od W w' B pb h wv xv v' ids Ws O l' t ∧ (plc (x :: l)).Perm (m :: plc l') ∧ (∀ q ∈ plc l', m ≤ q) ∧ l'.length = l.length ∧ (∀ y ∈ l', 0 ≤ y.1 ∧ y.1 < ids.length) ∧ Hp.HI (Hp.ah (ltP ids)) l' := by
  refine (pop_some (KP B pb iv lo ids) (fun a => 0 ≤ a ∧ a < ids.length) (.func (.func 52) #[] #[ptr B]) (ltP ids) (ahP B pb iv lo ids) h v x l t w (k.kp hpc) k.hp hd hl).mono ?_
  rintro e w' ⟨rfl, v', l', h1, h2, h3, h4, h5⟩
  have hx := hd x (by simp)
  have ex : x.1 = ((x.1.toNat : Nat) : Int) := by omega
  have hpm : (plc l').Perm (plc l) := h2.map _
  refine ⟨x.1.toNat, v', l', by rw [← ex], by omega, k.hpc h4 h1 (.inl h5), List.Perm.cons _ hpm.symm, fun q hq => first_le hs hd hi q (hpm.subset hq), h2.length_eq, fun y hy => hd y (List.mem_cons_of_mem _ (h2.subset hy)), h3 (wo_P ids) hi⟩
/-- One of what waits is told anew. -/
theorem Od.wait {W w : World} {B pb h g n cap : Nat} {xv v : Value} {ids : List Int} {Ws O : List Nat} {l : List It} {t : Int} (k : Od W w B pb h (.slice (some ⟨g, 0, none⟩) n cap) xv v ids Ws O l t) (hn : Ws.length = n) {m : Nat} (hm : m < n) (x : Nat) : Od W (w.setCell ⟨g, m, none⟩ (I (x : Int))) B pb h (.slice (some ⟨g, 0, none⟩) n cap) xv v ids (Ws.set m x) O l t := by
  subst hn
  obtain ⟨hlo, _, ys, hy⟩ := Rw.own k.wai (b := g) rfl
  have c : Chg (fun b => b = g) w (w.setCell ⟨g, m, none⟩ (I (x : Int))) := chg_setCell _ _ (.inl rfl)
  have hg : Go.Proofs.YtcbjcienjolceabDoor.G W (w.setCell ⟨g, m, none⟩ (I (x : Int))) := k.g.setCell hlo _
  refine ⟨hg, k.box.chg c (k.box.ne hy (by decide)), ?_, k.out.chg c (fun b hb e => Rw.offb k.out hy (by decide) (by rw [hb, e])), k.hp.chg c (fun b q e => k.hp.off hy (by decide) (by decide) (e ▸ q)), k.own⟩
  have := Rw.set k.wai m (by omega) (I (x : Int))
  rw [List.length_set, List.map_set]
  exact this
theorem Od.at {W w : World} {B pb h g n cap : Nat} {xv v : Value} {ids : List Int} {Ws O : List Nat} {l : List It} {t : Int} (k : Od W w B pb h (.slice (some ⟨g, 0, none⟩) n cap) xv v ids Ws O l t) (hn : Ws.length = n) {m : Nat} (hm : m < n) : w.cell? ⟨g, m, none⟩ = some (I ((Ws[m]! : Nat) : Int)) ∧ w.frozen? ⟨g, m, none⟩ = false := by
  obtain ⟨g', cap', e, -, hc, -⟩ := k.wai.cell (by omega)
  obtain ⟨_, _, ys, hy⟩ := Rw.own k.wai (b := g) rfl
  have eg : g = g' := by simp at e; exact e.1
  subst eg
  refine ⟨?_, hy.frozen m⟩
  rw [hc m (by omega), List.getElem?_map, List.getElem?_eq_getElem (by omega), Hp.get_of (by omega)]
  rfl
theorem plc_le {l : List It} {n : Nat} (hn : (plc l).Nodup) (h : ∀ m ∈ plc l, m < n) : l.length ≤ n := by
  have := hn.length_le_of_subset (l₂ := List.range n) (fun m hm => List.mem_range.2 (h m hm))
  rw [List.length_range] at this
  simpa [plc] using this
theorem Kp.perm {L : List (List Nat)} {D : List Bool} {k j : Nat} {Ws R R' : List Nat} (h : Kp L D k j Ws R) (p : R.Perm R') : Kp L D k j Ws R' := ⟨h.dl, h.wl, h.cnt, fun m => by rw [← h.rdy m]; exact ⟨fun q => p.symm.subset q, fun q => p.subset q⟩, p.nodup_iff.1 h.nd⟩
/-- One is told. -/
theorem Od.tell {W w : World} {B pb h : Nat} {wv xv v : Value} {ids : List Int} {Ws O : List Nat} {l : List It} {t : Int} (k : Od W w B pb h wv xv v ids Ws O l t) (m : Nat) (id : Int) (hid : ids[m]? = some id) (hb : O.length ≤ 1048576) :
    ∃ v' w', (Builtin.append_ #[25, 25] 25 #[xv, .slice (some ⟨w.heap.size, 0, none⟩) 1 1]).run Tryd.prog (w.alloc (.cells #[I id] 2)) = .ok v' w' ∧ Od W w' B pb h wv v' v ids Ws (O ++ [m]) l t := by
  have gA : Go.Proofs.YtcbjcienjolceabDoor.G w (w.alloc (.cells #[I id] 2)) := (G.refl w).alloc _
  have hA := k.G gA
  obtain ⟨v', w', q1, q2, q3, q4⟩ := app_I (w.alloc (.cells #[I id] 2)) W.heap.size xv O.length ((O.map fun k => ids[k]!).map I) hA.out ⟨w.heap.size, 0, none⟩ 1 1 [I id] rfl (fun j u hj => by rw [Addr.add_mid, Nat.zero_add, (Blk.new w [I id] 2).cell]; exact hj) (fun u hu => by simp at hu; subst hu; rfl) (by omega) hA.g.size
  refine ⟨v', w', q1, ⟨?_, hA.box.chg q3 (fun e => Rw.offb hA.out hA.box (by decide) e), hA.wai.other hA.out (by decide) q3, ?_, hA.hp.chg q3 (fun b q e => hA.hp.offR hA.out (by decide) (by decide) b e q), hA.own⟩⟩
  · exact hA.g.trans' q3 (fun b e => (Rw.own hA.out e).1)
  · rw [List.length_append, List.map_append, List.map_append]
    have e2 : ids[m]! = id := by simp [hid]
    simp only [List.map_cons, List.map_nil, e2]
    exact q2
end Go.Proofs.YtcbjcienjolceabDoor
