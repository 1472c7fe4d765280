/- PathsSorted: the walk. -/
import Derived.Test.YtbhbmcgjfcgdgaaPa7
import Derived.LoopTactic
import Derived.Deep.QuietTactic
import Derived.BigQuiet
namespace Go.Proofs.Ytbhbmcgjfcgdgaa
open Go.RowKit

/-- The item of the key at i. -/
def itX (X : Nat → Int) (i : Nat) : It := ((X i, (i : Int)), (i : Int))
/-- A heap that is of our own since W, and in order. -/
structure Own (W wr : World) (h : Nat) (f v : Value) (lt : Int × Int → Int × Int → Bool) (l : List It) (t : Int) : Prop where
  hp : HP wr h f v l t
  hi : Hp.WO lt → Hp.HI (Hp.ah lt) l
  g : G W wr
  o : ∀ b, v.ownBlock = some b → W.heap.size ≤ b
  h : W.heap.size ≤ h
theorem made_rep (z : Array Value) (v : Value) (n : Nat) (h0 : 0 < z.size) (hz : ∀ k, k < z.size → z[k]! = v) : madeCells z n = (List.replicate n v).toArray := by
  unfold madeCells
  apply Array.ext
  · simp
  · intro i h1 h2
    simp only [Array.getElem_map, Array.getElem_range, List.getElem_toArray, List.getElem_replicate]
    exact hz _ (Nat.mod_lt _ h0)
theorem made_b (n : Nat) : madeCells (Value.bool false).cells n = (List.replicate n (Value.bool false)).toArray := by
  have e : (Value.bool false).cells = #[.bool false] := rfl
  rw [e]
  exact made_rep _ (.bool false) _ (by decide) (fun k hk => by simp at hk; subst hk; rfl)
theorem info_b : ∃ i, Try.prog.info? 4 = some i ∧ i.zero = some (.bool false) ∧ i.size = 1 ∧ i.bytes = 1 := info_parts (by kernel_rfl)
def seenL (L : Nat) (ts : List Nat) : List Value := (List.range L).map fun t => .bool (!(decide (t ∈ ts)))
theorem seenL_get {L : Nat} {ts : List Nat} {t : Nat} (h : t < L) : (seenL L ts)[t]? = some (.bool (!(decide (t ∈ ts)))) := by simp [seenL, h]
theorem seenL_all (L : Nat) : List.replicate L (Value.bool false) = seenL L (List.range L) := by
  apply List.ext_getElem?
  intro i
  by_cases h : i < L
  · rw [seenL_get h]; simp [h]
  · simp [seenL, h]
theorem seenL_set {L : Nat} {ts : List Nat} (hn : ts.Nodup) (t : Nat) : (seenL L ts).set t (.bool true) = seenL L (ts.erase t) := by
  apply List.ext_getElem?
  intro i
  by_cases h : i < L
  · rw [seenL_get h]
    by_cases e : i = t
    · subst e
      rw [List.getElem?_set_self (by simpa [seenL] using h)]
      simp [hn.mem_erase_iff]
    · rw [List.getElem?_set_ne (fun q => e q.symm), seenL_get h]
      simp [hn.mem_erase_iff, e]
  · rw [List.getElem?_eq_none (by simp [seenL]; omega), List.getElem?_eq_none (by simp [seenL]; omega)]
theorem ah_up {a b : It} (h : Hp.ah upL a b = false) : b.1.1 < a.1.1 ∨ (b.1.1 = a.1.1 ∧ b.2 ≤ a.2) := by
  unfold Hp.ah at h
  by_cases c : a.2 < b.2
  · rw [if_pos c] at h; simp [upL] at h; omega
  · rw [if_neg c] at h; simp [upL] at h; omega
/-- The one that comes out. -/
theorem pop_pick {X : Nat → Int} {ts : List Nat} {x : It} {l : List It} (hpm : (x :: l).Perm (ts.map (itX X))) (hn : ts.Nodup) (hh : Hp.HI (Hp.ah upL) (x :: l)) : ∃ t, t ∈ ts ∧ x = itX X t ∧ l.Perm ((ts.erase t).map (itX X)) ∧ ∀ t', t' ∈ ts.erase t → X t < X t' ∨ (X t = X t' ∧ (t : Int) < t') := by
  have hx : x ∈ ts.map (itX X) := hpm.subset (List.mem_cons_self)
  obtain ⟨t, ht, rfl⟩ := List.mem_map.1 hx
  have hp2 : (ts.map (itX X)).Perm (itX X t :: (ts.erase t).map (itX X)) := by
    have := (List.perm_cons_erase ht).map (itX X)
    simpa using this
  refine ⟨t, ht, rfl, List.Perm.cons_inv (hpm.trans hp2), fun t' ht' => ?_⟩
  obtain ⟨hne, hts⟩ := hn.mem_erase_iff.1 ht'
  have hm : itX X t' ∈ itX X t :: l := hpm.symm.subset (List.mem_map_of_mem hts)
  have h1 := hh.first wo_up.ah _ hm
  simp only [List.getElem!_cons_zero] at h1
  have h2 := ah_up (show Hp.ah upL (itX X t') (itX X t) = false from h1)
  simp only [itX] at h2
  omega
theorem Own.off {W wr : World} {h : Nat} {f v : Value} {lt : Int × Int → Int × Int → Bool} {l : List It} {t : Int} (o : Own W wr h f v lt l t) {b : Nat} {e : TypeId} {xs : List Value} (hb : Blk wr b e xs) (h1 : e ≠ 45) (h2 : e ≠ 47) : ¬ hpB h v b := fun q => by
  rcases q with q | q
  · subst q; exact hb.ne o.hp.blk h1 rfl
  · rcases o.hp.sl with ⟨rfl, _⟩ | ⟨g, cap, rest, rfl, hg, _⟩
    · simp [Value.ownBlock] at q
    · have e2 : g = b := Option.some.inj q
      subst e2
      exact hb.ne hg h2 rfl
theorem Own.pop {W wr w' : World} {h : Nat} {f v v' : Value} {lt : Int × Int → Int × Int → Bool} {x : It} {l l' : List It} {t : Int} (o : Own W wr h f v lt (x :: l) t) (hp : HP w' h f v' l' t) (hhi : Hp.WO lt → Hp.HI (Hp.ah lt) (x :: l) → Hp.HI (Hp.ah lt) l') (hch : Chg (hpB h v) wr w') (hob : v'.ownBlock = v.ownBlock) : Own W w' h f v' lt l' t :=
  ⟨hp, fun q => hhi q (o.hi q), g_of o.g o.h o.o hch, fun b e => o.o b (by rw [← hob]; exact e), o.h⟩
theorem Own.G {W wr w' : World} {h : Nat} {f v : Value} {lt : Int × Int → Int × Int → Bool} {l : List It} {t : Int} (o : Own W wr h f v lt l t) (g : Go.Proofs.Ytbhbmcgjfcgdgaa.G wr w') : Own W w' h f v lt l t := ⟨o.hp.G g, o.hi, o.g.trans g, o.o, o.h⟩
theorem Own.chg {W wr w' : World} {h : Nat} {f v : Value} {lt : Int × Int → Int × Int → Bool} {l : List It} {t : Int} (o : Own W wr h f v lt l t) {F : Nat → Prop} (c : Chg F wr w') (hF : ∀ b, F b → W.heap.size ≤ b ∧ ¬ hpB h v b) : Own W w' h f v lt l t :=
  ⟨o.hp.chg c (fun b q f => (hF b f).2 q), o.hi, ⟨c.os.trans o.g.os, c.tape.trans o.g.tape, c.output.trans o.g.output, Nat.le_trans o.g.size c.size, fun b hb => (c.block b (Nat.lt_of_lt_of_le hb o.g.size) (fun f => by have := (hF b f).1; omega)).trans (o.g.block b hb)⟩, o.o, o.h⟩
theorem g_drewN (w : World) (n : Nat) : G w (w.drewN n) := ⟨rfl, rfl, rfl, Nat.le_refl _, fun _ _ => rfl⟩
theorem range_push (X : Nat → Int) (k : Nat) : (List.range (k + 1)).map (itX X) = (List.range k).map (itX X) ++ [itX X k] := by rw [List.range_succ, List.map_append]; rfl
set_option maxRecDepth 100000 in
set_option maxHeartbeats 2000000 in
theorem sorted_any (va : Option Addr) (L cap : Nat) (X : Nat → Int) (hL : L ≤ 1048576) (W : World) (hv : L = 0 ∨ ∃ b off, va = some ⟨b, off, none⟩ ∧ Nums W b off L X) : Calls Try.prog 3 #[.slice va L cap] W fun e W' => e = .returned (.bool true) ∧ G W W' := by
  have HNH := hide (nh_s W)
  have HV := hide hv
  clear hv
  go_enter Try.func3, Try.ntmps3
  go_wp2_with fail
  refine HNH.out.mono ?_
  rintro e w1 ⟨h, rfl, hp1, hg1, hh⟩
  have HO1 : Hid (Own W w1 h (.func (.func 7) #[] #[]) (.slice none 0 0) upL [] 0) := ⟨hp1, fun _ j _ hj => by simp at hj, hg1, fun b e => by simp [Value.ownBlock] at e, hh⟩
  clear hp1 hg1 hh HNH
  go_wp2_with fail
  go_loopw [4] (fun iv wr => ∃ (k : Nat) (v : Value) (l : List It), iv = I k ∧ k ≤ L ∧ Own W wr h (.func (.func 7) #[] #[]) v upL l k ∧ l.Perm ((List.range k).map (itX X))) (fun iv _ => L - (RowKit.intOf iv).toNat)
  case atStart => exact ⟨0, _, [], rfl, Nat.zero_le _, HO1.out, List.Perm.refl _⟩
  case round =>
    rename_i wr
    obtain ⟨k, v, l, rfl, hk, ho, hpm⟩ := hrel
    have hll : l.length = k := by have := hpm.length_eq; simpa using this
    by_cases hlt : k < L
    · rcases HV.out with h0 | ⟨b, off, rfl, hN⟩
      · omega
      · have hc := (hN.G ho.g) k hlt
        have hlI : (k : Int) < L := by omega
        have HPU := hide (push_any W (.func (.func 7) #[] #[]) upL (ahS W) h v l k (X k) k wr ho.g ho.hp (by omega) (by omega) (by omega) ho.h ho.o)
        have HOO := hide ho
        have hw : wrap64 ((k : Int) + 1) = (k : Int) + 1 := by unfold wrap64; omega
        clear ho
        go_wp2_with fail
        with_reducible refine HPU.out.mono ?_
        rintro e w2 ⟨rfl, v', l', hp', hperm, hhi, hch, hown⟩
        have HREL : Hid (∃ (k2 : Nat) (v : Value) (l : List It), I ((k : Int) + 1) = I k2 ∧ k2 ≤ L ∧ Own W w2 h (.func (.func 7) #[] #[]) v upL l k2 ∧ l.Perm ((List.range k2).map (itX X))) :=
          ⟨k + 1, v', l', by simp, hlt, ⟨by simpa using hp', fun o => hhi o (HOO.out.hi o), g_of HOO.out.g HOO.out.h HOO.out.o hch, fun b e => by
            rcases hown with q | ⟨b', q, q2⟩
            · rw [q] at e; exact HOO.out.o b e
            · rw [q] at e
              have e2 : b' = b := Option.some.inj e
              have := HOO.out.g.size
              omega, HOO.out.h⟩, by
            rw [range_push]
            exact (hperm.trans ((hpm.cons _))).trans (List.perm_append_singleton _ _).symm⟩
        clear hp' hperm hhi hch hown HPU HOO hpm hll
        go_wp2_with fail
        go_roundw
        case rel => exact HREL.out
        case measure => simp only [RowKit.intOf]; omega
    · obtain rfl : k = L := by omega
      have hlI : ¬ ((k : Int) < k) := by omega
      have HOO := hide ho
      have HPM := hide hpm
      clear ho hpm
      obtain ⟨i0, hi, hz0, hz1, hz2⟩ := info_b
      have hmk := run_make (P := Try.prog) wr 29 4 i0 (.bool false) Try.underlying29 hi hz0 .i64 .i64 (k : Int) (k : Int) (by omega) (by omega) (by rw [hz2]; omega) (by omega)
      rw [hz1, Int.toNat_natCast, Nat.mul_one, made_b] at hmk
      have HMK := hide hmk
      clear hmk hi hz0 hz1 hz2
      go_wp2_with fail
      rw [HMK.out]
      clear HMK
      go_wp2_with fail
      obtain ⟨sb, hsb⟩ : ∃ sb, sb = wr.heap.size := ⟨_, rfl⟩
      obtain ⟨lb, hlb⟩ : ∃ lb, lb = wr.heap.size + 1 := ⟨_, rfl⟩
      have HW3 : Hid (G wr ((wr.alloc (.cells (Array.replicate k (.bool false)) 4)).alloc (.cells #[I 0, I 0] 26))) := ((G.refl _).alloc _).alloc _
      have HS3 : Hid (Blk ((wr.alloc (.cells (Array.replicate k (.bool false)) 4)).alloc (.cells #[I 0, I 0] 26)) sb 4 (seenL k (List.range k))) := by
        have := (Blk.new wr (List.replicate k (.bool false)) 4).G ((G.refl _).alloc (.cells #[I 0, I 0] 26))
        rw [← hsb, seenL_all] at this
        rw [← seenL_all] at this
        rw [← seenL_all]
        show Blk _ _ _ _
        simpa using this
      have HL3 : Hid (Blk ((wr.alloc (.cells (Array.replicate k (.bool false)) 4)).alloc (.cells #[I 0, I 0] 26)) lb 26 [I 0, I 0]) := by
        have := Blk.new (wr.alloc (.cells (Array.replicate k (.bool false)) 4)) [I 0, I 0] 26
        rw [hlb]
        show Blk _ _ _ _
        simpa using this
      rw [← hlb, ← hsb]
      generalize (wr.alloc (.cells (Array.replicate k (.bool false)) 4)).alloc (.cells #[I 0, I 0] 26) = w3 at HW3 HS3 HL3 ⊢
      have HSZ : Hid (W.heap.size ≤ sb ∧ W.heap.size ≤ lb) := by
        have := HOO.out.g.size
        show _ ∧ _
        omega
      clear hsb hlb
      go_loopw [7] (fun iv wq => ∃ (j : Nat) (v : Value) (l : List It) (ts : List Nat) (lk lg : Int), iv = I j ∧ j ≤ k ∧ Own W wq h (.func (.func 7) #[] #[]) v upL l k ∧ l.Perm (ts.map (itX X)) ∧ ts.Nodup ∧ (∀ t ∈ ts, t < k) ∧ ts.length + j = k ∧ Blk wq sb 4 (seenL k ts) ∧ Blk wq lb 26 [I lk, I lg] ∧ (0 < j → ∀ t ∈ ts, lk < X t ∨ (lk = X t ∧ lg < (t : Int)))) (fun iv _ => k - (RowKit.intOf iv).toNat)
      case atStart => exact ⟨0, _, _, List.range k, 0, 0, rfl, Nat.zero_le _, HOO.out.G HW3.out, HPM.out, List.nodup_range, fun t ht => List.mem_range.1 ht, by simp, HS3.out, HL3.out, fun q => absurd q (by omega)⟩
      case round =>
        obtain ⟨j, v4, l4, ts, lk, lg, rfl, hj, ho4, hpm4, hnd, htk, hlen, hsb4, hlb4, hord⟩ := hrel
        have hll4 : l4.length = ts.length := by have := hpm4.length_eq; simpa using this
        by_cases hjk : j < k
        · match l4, ho4, hpm4, hll4 with
          | [], _, _, q => simp at q; omega
          | x :: l5, ho4, hpm4, _ =>
            obtain ⟨tt, htt, rfl, hpm5, hord5⟩ := pop_pick hpm4 hnd (ho4.hi wo_up)
            have hjI : (j : Int) < k := by omega
            have HPO := hide (pop_some W (.func (.func 7) #[] #[]) upL (ahS W) h v4 (itX X tt) l5 k wr ho4.g ho4.hp (by have := hpm5.length_eq; have := List.length_erase_of_mem htt; simp at *; omega) ho4.h ho4.o)
            have htl : tt < k := htk tt htt
            have HTT := hide htt
            have HOO4 := hide ho4
            rw [show I (itX X tt).1.1 = I (X tt) from rfl, show I (itX X tt).1.2 = I (tt : Int) from rfl] at HPO
            clear ho4
            go_wp2_with fail
            with_reducible refine HPO.out.mono ?_
            rintro e w5 ⟨rfl, v6, l6, hp6, hperm6, hhi6, hch6, hob6⟩
            have HO6 := hide (HOO4.out.pop hp6 hhi6 hch6 hob6)
            have HS6 := hide (hsb4.chg hch6 (HOO4.out.off hsb4 (by decide) (by decide)))
            have HL6 := hide (hlb4.chg hch6 (HOO4.out.off hlb4 (by decide) (by decide)))
            have HPM6 := hide (hperm6.trans hpm5)
            clear hp6 hperm6 hhi6 hch6 hob6 hsb4 hlb4 HPO HOO4
            obtain ⟨b, off, rfl, hN⟩ : ∃ b off, va = some ⟨b, off, none⟩ ∧ Nums W b off k X := HV.out.resolve_left (by omega)
            go_wp2_with fail
            obtain ⟨xb, hxb⟩ : ∃ xb, xb = w5.heap.size := ⟨_, rfl⟩
            have HX7 : Hid (Blk (w5.alloc (.cells #[I (X tt), I (tt : Int)] 26)) xb 26 [I (X tt), I (tt : Int)]) := by rw [hxb]; exact Blk.new w5 [I (X tt), I (tt : Int)] 26
            have HG7 := hide ((G.refl w5).alloc (.cells #[I (X tt), I (tt : Int)] 26))
            rw [← hxb]
            generalize w5.alloc (.cells #[I (X tt), I (tt : Int)] 26) = w7 at HX7 HG7 ⊢
            have HLX : Hid (lb ≠ xb) := fun e => by rw [hxb] at e; exact Nat.lt_irrefl _ (e ▸ HL6.out.lt)
            have HO7 := hide (HO6.out.G HG7.out)
            have HS7 := hide (HS6.out.G HG7.out)
            have HL7 := hide (HL6.out.G HG7.out)
            clear hxb HO6 HS6 HL6
            have hkc := (hN.G HO7.out.g) tt htl
            have hs1 := HS7.out.cell tt
            rw [seenL_get htl] at hs1
            simp only [htt, decide_true, Bool.not_true] at hs1
            have hlc := HL7.out.cell
            have hxc := HX7.out.cell
            have d1 : decide ((tt : Int) < 0) = false := decide_eq_false (by omega)
            have d2 : decide ((k : Int) ≤ (tt : Int)) = false := decide_eq_false (by omega)
            have e1 : (tt : Int) < k := by omega
            have e2 : ¬ ((k : Int) ≤ (tt : Int)) := by omega
            have e3 : ¬ ((tt : Int) < 0) := by omega
            go_quiet (fail)
            generalize hw8 : World.drewN w7 _ = w8
            have HG8 : Hid (G w7 w8) := by rw [← hw8]; exact g_drewN _ _
            have HO8 := hide (HO7.out.G HG8.out)
            have HS8 := hide (HS7.out.G HG8.out)
            have HL8 := hide (HL7.out.G HG8.out)
            have HX8 := hide (HX7.out.G HG8.out)
            clear hw8 HO7 HS7 HL7 HX7 HG8 hkc hs1 hlc hxc d1 d2
            have HREL : Hid (∃ (j2 : Nat) (v : Value) (l : List It) (ts : List Nat) (lk lg : Int), I ((j : Int) + 1) = I j2 ∧ j2 ≤ k ∧ Own W (((w8.setCell ⟨sb, tt, none⟩ (.bool true)).setCell ⟨lb, 0, none⟩ (I (X tt))).setCell ⟨lb, 1, none⟩ (I (tt : Int))) h (.func (.func 7) #[] #[]) v upL l k ∧ l.Perm (ts.map (itX X)) ∧ ts.Nodup ∧ (∀ t ∈ ts, t < k) ∧ ts.length + j2 = k ∧ Blk (((w8.setCell ⟨sb, tt, none⟩ (.bool true)).setCell ⟨lb, 0, none⟩ (I (X tt))).setCell ⟨lb, 1, none⟩ (I (tt : Int))) sb 4 (seenL k ts) ∧ Blk (((w8.setCell ⟨sb, tt, none⟩ (.bool true)).setCell ⟨lb, 0, none⟩ (I (X tt))).setCell ⟨lb, 1, none⟩ (I (tt : Int))) lb 26 [I lk, I lg] ∧ (0 < j2 → ∀ t ∈ ts, lk < X t ∨ (lk = X t ∧ lg < (t : Int)))) := by
              have hsl : sb ≠ lb := HS8.out.ne HL8.out (by decide)
              have hcg : Chg (fun b => b = sb ∨ b = lb) w8 (((w8.setCell ⟨sb, tt, none⟩ (.bool true)).setCell ⟨lb, 0, none⟩ (I (X tt))).setCell ⟨lb, 1, none⟩ (I (tt : Int))) :=
                ((chg_setCell (F := fun b => b = sb ∨ b = lb) _ _ (.inl (.inl rfl))).trans (chg_setCell (F := fun b => b = sb ∨ b = lb) _ _ (.inl (.inr rfl)))).trans (chg_setCell (F := fun b => b = sb ∨ b = lb) _ _ (.inl (.inr rfl)))
              have hle := List.length_erase_of_mem htt
              have hpos : 0 < ts.length := List.length_pos_of_mem htt
              refine ⟨j + 1, v6, l6, ts.erase tt, X tt, tt, by simp, hjk, HO8.out.chg hcg (fun b q => ?_), HPM6.out, hnd.erase _, fun t ht => htk t (List.mem_of_mem_erase ht), by omega, ?_, ?_, fun _ t ht => hord5 t ht⟩
              · rcases q with rfl | rfl
                · exact ⟨HSZ.out.1, HO8.out.off HS8.out (by decide) (by decide)⟩
                · exact ⟨HSZ.out.2, HO8.out.off HL8.out (by decide) (by decide)⟩
              · rw [← seenL_set hnd]
                exact ((HS8.out.set tt (.bool true)).off hsl).off hsl
              · have := ((HL8.out.off (b := sb) (o := tt) (v := .bool true) (Ne.symm hsl)).set 0 (I (X tt))).set 1 (I (tt : Int))
                exact this
            have hs2 := HS8.out.cell tt
            rw [seenL_get htl] at hs2
            have hz2 := HS8.out.frozen
            have hlc := HL8.out.cell
            have hlz := HL8.out.frozen
            have hxc := HX8.out.cell
            have hsl : sb ≠ lb := HS8.out.ne HL8.out (by decide)
            have hls := Ne.symm hsl
            have hsx : sb ≠ xb := HS8.out.ne HX8.out (by decide)
            have hxs := Ne.symm hsx
            have hlx := HLX.out
            have hxl := Ne.symm HLX.out
            have hw : wrap64 ((j : Int) + 1) = (j : Int) + 1 := by unfold wrap64; omega
            clear HO8 HS8 HL8 HX8 HPM6 hpm4 hpm5 hord5 hnd htk hlen htt e2 e3
            by_cases hj0 : j = 0
            · subst hj0
              clear hord
              go_wp2_with fail
              go_roundw
              case rel => exact HREL.out
              case measure => simp only [RowKit.intOf]; omega
            · have hj1 : (0 : Int) < j := by omega
              rcases hord (by omega) tt HTT.out with ho | ⟨ho, ho2⟩
              · have f1 : ¬ (X tt < lk) := by omega
                have f2 : (lk == X tt) = false := beq_eq_false_iff_ne.2 (by omega)
                clear hord ho
                go_wp2_with fail
                go_roundw
                case rel => exact HREL.out
                case measure => simp only [RowKit.intOf]; omega
              · subst ho
                have f3 : ¬ ((tt : Int) < lg) := by omega
                clear hord ho2
                go_wp2_with fail
                go_roundw
                case rel => exact HREL.out
                case measure => simp only [RowKit.intOf]; omega
        · obtain rfl : j = k := by omega
          obtain rfl : ts = [] := List.eq_nil_of_length_eq_zero (by omega)
          obtain rfl : l4 = [] := List.eq_nil_of_length_eq_zero (by simpa using hll4)
          have hjI : ¬ ((j : Int) < j) := by omega
          have HPO := hide (pop_none h (.func (.func 7) #[] #[]) v4 j wr ho4.hp)
          have HO4 := hide ho4
          clear ho4 hpm4 hsb4 hlb4 hord hnd htk hlen hll4
          go_wp2_with fail
          with_reducible refine HPO.out.mono ?_
          rintro e w5 ⟨rfl, hg5⟩
          have HG5 := hide hg5
          have HLE := hide (fun (w6 : World) (hg6 : G w5 w6) => len_any h (.func (.func 7) #[] #[]) v4 [] j w6 (HO4.out.hp.G (hg5.trans hg6)))
          clear hg5 HPO
          go_wp2_with fail
          refine (HLE.out _ ((G.refl w5).alloc _)).mono ?_
          rintro e w7 ⟨rfl, hg7⟩
          have HEND := hide (((HO4.out.g.trans HG5.out).alloc _).trans hg7)
          clear hg7 HLE HG5 HO4
          go_wp2_with fail
          go_ret
          exact ⟨rfl, HEND.out⟩
theorem sorted_law (v : Value) (L : Nat) (X : Nat → Int) (hL : L ≤ 1048576) (W : World) (hv : ∃ a cap, v = .slice a L cap ∧ (L = 0 ∨ ∃ b off, a = some ⟨b, off, none⟩ ∧ Nums W b off L X)) : Calls Try.prog 3 #[v] W fun e W' => e = .returned (.bool true) ∧ G W W' := by
  obtain ⟨a, cap, rfl, h⟩ := hv
  exact sorted_any a L cap X hL W h
end Go.Proofs.Ytbhbmcgjfcgdgaa
