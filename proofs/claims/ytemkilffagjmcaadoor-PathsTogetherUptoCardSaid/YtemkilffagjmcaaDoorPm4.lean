/- Paths: pathsApart. -/
import Derived.Test.YtemkilffagjmcaaDoorPwx
import Derived.Deep.DeepAppendRoom
namespace Go.Proofs.YtemkilffagjmcaaDoor
open Go.RowKit

/-- One id more: whatever row of ids stands in the same block, and is no longer, stays. -/
theorem app_keep (w : World) (lo : Nat) (v : Value) (n : Nat) (xs : List Value) (h : Rw lo 2 1 w v n xs) (a : Addr) (c : Nat) (u : Value) (hu : w.cell? a = some u) (h1 : u.oneCell' = true) (hb : n + 1 ≤ 17179869184) (hz : lo ≤ w.heap.size) :
    ∃ v' w', (Builtin.append_ #[23, 23] 23 #[v, .slice (some a) 1 c]).run Tryd.prog w = .ok v' w' ∧ Rw lo 2 1 w' v' (n + 1) (xs ++ [u]) ∧ Chg (fun k => v.ownBlock = some k) w w' ∧ (v'.ownBlock = v.ownBlock ∨ v'.ownBlock = some w.heap.size) ∧
      ∀ lo' v0 n0 xs0, Rw lo' 2 1 w v0 n0 xs0 → (v0.ownBlock = v.ownBlock → n0 ≤ n) → Rw lo' 2 1 w' v0 n0 xs0 := by
  obtain ⟨i0, hi0, hz0, hz1, hz2⟩ := info_I
  have hmx : (17179869184 : Nat) ≤ maxLen := of_decide_eq_true (by kernel_rfl)
  have hnews : ∀ j x, ([u] : List Value)[j]? = some x → w.cell? (a.add j) = some x := fun j x hj => by
    match j, hj with
    | 0, hj => simp at hj; subst hj; rw [show a.add 0 = a by simp [Addr.add]]; exact hu
    | j + 1, hj => simp at hj
  have h1s : ∀ x ∈ ([u] : List Value), x.oneCell' = true := fun x hx => by simp at hx; subst hx; exact h1
  obtain ⟨v', w', hr, q2, q3, _, q5⟩ := run_append_own_at (P := Tryd.prog) w lo 23 23 2 i0 _ 1 8 Tryd.underlying23 hi0 hz0 hz1 hz2 rfl (by decide) v n xs h a 1 c [u] rfl hnews h1s (by omega) (by omega) hz
  have hch : Chg (fun k => v.ownBlock = some k) w w' := ⟨q3.os, q3.tape, q3.output, q3.size, fun k hk hn => q3.block k hk (fun e => hn e.symm)⟩
  refine ⟨v', w', hr, q2, hch, q5, fun lo' v0 n0 xs0 r0 hle => ?_⟩
  rcases h.2 with ⟨rfl, rfl⟩ | ⟨g, cap, cur, rfl, hbg, hg, hnc, hcm, hcs, htake⟩
  · exact r0.G (hch.G (fun k hk => by simp [Value.ownBlock] at hk))
  · by_cases hroom : n + 1 ≤ cap
    · obtain ⟨w2, hr2, hrow2, -⟩ := run_append_own_spare (P := Tryd.prog) w lo 23 23 2 i0 1 Tryd.underlying23 hi0 hz1 g n cap xs h a 1 c [u] rfl hnews h1s hroom
      rw [hr] at hr2
      simp only [Result.ok.injEq] at hr2
      obtain ⟨rfl, rfl⟩ := hr2
      by_cases hq : v0.ownBlock = some g
      · have hle' := hle (by rw [hq]; rfl)
        rcases r0.2 with ⟨rfl, -⟩ | ⟨g0, cap0, cur0, rfl, hbg0, hg0, hnc0, hcm0, hcs0, ht0⟩
        · simp [Value.ownBlock] at hq
        · simp [Value.ownBlock] at hq
          subst hq
          rw [hg] at hg0
          obtain rfl : cur = cur0 := by simpa using hg0
          obtain rfl : cap = cap0 := by omega
          rcases hrow2.2 with ⟨e, -⟩ | ⟨g2, cap2, cur2, e, hbg2, hg2, hnc2, hcm2, hcs2, ht2⟩
          · cases e
          · simp only [Value.slice.injEq, Option.some.injEq, Addr.mk.injEq] at e
            obtain ⟨⟨rfl, -, -⟩, -, rfl⟩ := e
            refine ⟨r0.1, .inr ⟨g0, cap, cur2, rfl, hbg0, hg2, hnc0, hcm0, hcs2, ?_⟩⟩
            rw [Nat.mul_one] at *
            have e1 : cur2.toList.take n0 = (xs ++ [u]).take n0 := by rw [← ht2, List.take_take, Nat.min_eq_left (by omega)]
            have e2 : xs.take n0 = xs0 := by rw [← htake, List.take_take, Nat.min_eq_left hle', ht0]
            rw [e1, List.take_append_of_le_length (by have := h.1; omega), e2]
      · exact r0.chg hch (fun b hb e => hq (by rw [hb]; exact e.symm))
    · have holds : ∀ j x, xs[j]? = some x → w.cell? ((⟨g, 0, none⟩ : Addr).add j) = some x := World.ownsRow.cells h (g := g) rfl
      have hr2 := run_append_grow (P := Tryd.prog) w 23 23 2 i0 _ Tryd.underlying23 hi0 hz0 ⟨g, 0, none⟩ n cap xs (by rw [hz1]; exact h.1) holds a 1 c [u] (by rw [hz1]; rfl) hnews (by omega) (by omega) (growslice_fits (by omega) (by rw [hz2]; omega))
      rw [hr] at hr2
      simp only [Result.ok.injEq] at hr2
      refine r0.G ?_
      rw [hr2.2]
      exact ((G.refl w).drew).alloc _
/-- A cell behind a row is stored. -/
theorem Rw.above {lo : Nat} {e : TypeId} {w : World} {v : Value} {n g o : Nat} {xs : List Value} (h : Rw lo e 1 w v n xs) (ho : v.ownBlock = some g → n ≤ o) (u : Value) : Rw lo e 1 (w.setCell ⟨g, o, none⟩ u) v n xs := by
  by_cases hq : v.ownBlock = some g
  · refine ⟨h.1, ?_⟩
    rcases h.2 with ⟨rfl, -⟩ | ⟨g', cap, cur, rfl, hlo, hg, hc, hm, hs, ht⟩
    · simp [Value.ownBlock] at hq
    · have hl := ho hq
      simp [Value.ownBlock] at hq
      subst hq
      have hb : Blk w g' e cur.toList := ⟨hg⟩
      have hb2 := hb.set o u
      refine .inr ⟨g', cap, (cur.toList.set o u).toArray, rfl, hlo, hb2.h, hc, hm, by simpa using hs, ?_⟩
      rw [← ht]
      simp only
      rw [List.take_set, List.set_eq_of_length_le (by rw [List.length_take]; omega)]
  · exact h.keep (fun b hb => Below.heap_setCell _ _ _ _ (fun e => hq (by rw [hb, e])))
/-- Lists of ids, each in a block of its own. -/
structure Ls (lo : Nat) (w : World) (vs : List Value) (L : List (List Int)) : Prop where
  len : vs.length = L.length
  row : ∀ (j : Nat) v l, vs[j]? = some v → L[j]? = some l → Rw lo 2 1 w v l.length (l.map I)
  ne : ∀ (i j : Nat) v v' b, i ≠ j → vs[i]? = some v → vs[j]? = some v' → v.ownBlock = some b → v'.ownBlock ≠ some b
theorem Ls.at_ {lo : Nat} {w : World} {vs : List Value} {L : List (List Int)} (h : Ls lo w vs L) {i : Nat} (hi : i < vs.length) : ∃ v l, vs[i]? = some v ∧ L[i]? = some l ∧ Rw lo 2 1 w v l.length (l.map I) := by
  have h2 : i < L.length := by rw [← h.len]; exact hi
  exact ⟨_, _, List.getElem?_eq_getElem hi, List.getElem?_eq_getElem h2, h.row i _ _ (List.getElem?_eq_getElem hi) (List.getElem?_eq_getElem h2)⟩
theorem Ls.G {lo : Nat} {w w' : World} {vs : List Value} {L : List (List Int)} (h : Ls lo w vs L) (g : Go.Proofs.YtemkilffagjmcaaDoor.G w w') : Ls lo w' vs L := ⟨h.len, fun j v l h1 h2 => (h.row j v l h1 h2).G g, h.ne⟩
theorem Ls.set {lo : Nat} {w : World} {vs : List Value} {L : List (List Int)} (h : Ls lo w vs L) {i g c k : Nat} {l : List Int} (hv : vs[i]? = some (.slice (some ⟨g, 0, none⟩) l.length c)) (hl : L[i]? = some l) (hk : k < l.length) (z : Int) : Ls lo (w.setCell ⟨g, k, none⟩ (I z)) vs (L.set i (l.set k z)) := by
  refine ⟨by rw [List.length_set]; exact h.len, fun j v l' h1 h2 => ?_, h.ne⟩
  by_cases hj : i = j
  · subst hj
    rw [hv] at h1
    cases h1
    rw [List.getElem?_set_self (List.getElem?_eq_some_iff.1 hl).1] at h2
    cases h2
    rw [List.length_set, List.map_set]
    exact Rw.set (h.row i _ _ hv hl) k (by omega) (I z)
  · rw [List.getElem?_set_ne hj] at h2
    exact (h.row j v l' h1 h2).keep (fun b hb => Below.heap_setCell _ _ _ _ (fun e => h.ne i j _ _ g hj hv h1 rfl (by rw [hb, e])))
/-- What is written at place q of list i. -/
def mrk (i q : Nat) : Int := -100000 * ((i : Int) + 1) - q
/-- The state between the loops. -/
structure Ap (Wb w : World) (ob : Nat) (vs : List Value) (N : List Nat) (L : List (List Int)) : Prop where
  ls : Ls Wb.heap.size w vs L
  n : L.map List.length = N
  blk : Blk w ob 23 vs
  g : G Wb w
theorem Ap.lt {Wb w : World} {ob : Nat} {vs : List Value} {N : List Nat} {L : List (List Int)} (h : Ap Wb w ob vs N L) (hN : ∀ n ∈ N, n ≤ 1048576) {i : Nat} {l : List Int} (hl : L[i]? = some l) : l.length ≤ 1048576 := by
  refine hN _ ?_
  rw [← h.n]
  exact List.mem_map.2 ⟨l, List.mem_of_getElem? hl, rfl⟩
theorem Ap.grow {Wb w w' : World} {ob : Nat} {vs : List Value} {N : List Nat} {L : List (List Int)} (h : Ap Wb w ob vs N L) (g : G w w') : Ap Wb w' ob vs N L := ⟨h.ls.G g, h.n, h.blk.G g, h.g.trans g⟩
theorem Ap.set {Wb w : World} {ob : Nat} {vs : List Value} {N : List Nat} {L : List (List Int)} (h : Ap Wb w ob vs N L) {i g c k : Nat} {l : List Int} (hv : vs[i]? = some (.slice (some ⟨g, 0, none⟩) l.length c)) (hl : L[i]? = some l) (hk : k < l.length) (z : Int) : Ap Wb (w.setCell ⟨g, k, none⟩ (I z)) ob vs N (L.set i (l.set k z)) := by
  have hr := h.ls.row i _ _ hv hl
  obtain ⟨h1, h2, ys, hy⟩ := hr.own (b := g) rfl
  refine ⟨h.ls.set hv hl hk z, ?_, h.blk.keep (Below.heap_setCell _ _ _ _ (h.blk.ne hy (by decide))), h.g.setCell h1 _⟩
  rw [List.map_set, List.length_set, ← h.n]
  refine List.ext_getElem? fun j => ?_
  by_cases hj : i = j
  · subst hj
    rw [List.getElem?_set_self (by rw [List.length_map]; exact (List.getElem?_eq_some_iff.1 hl).1), List.getElem?_map, hl]
    rfl
  · rw [List.getElem?_set_ne hj]
theorem ms1 {k n : Nat} (h : k < n) (h2 : n ≤ 1048576) : 1048577 - ((k : Int) + 1).toNat < 1048577 - (k : Int).toNat := by omega
theorem ms2 {k n : Nat} (h : k < n) : n - ((k : Int) + 1).toNat < n - (k : Int).toNat := by omega
theorem wmrk {i k : Nat} (hi : i ≤ 16) (hk : k ≤ 1048576) : wrap64 ((i : Int) + 1) = (i : Int) + 1 ∧ wrap64 (-100000 * ((i : Int) + 1)) = -100000 * ((i : Int) + 1) ∧ wrap64 (-100000 * ((i : Int) + 1) - k) = mrk i k ∧ wrap64 (mrk i k) = mrk i k := by
  unfold wrap64 mrk
  omega
set_option maxRecDepth 100000 in
set_option maxHeartbeats 2000000 in
theorem apart_any (Wb W : World) (ob : Nat) (vs : List Value) (N : List Nat) (L0 : List (List Int)) (h0 : Ap Wb W ob vs N L0) (hn : vs.length ≤ 16) (hN : ∀ n ∈ N, n ≤ 1048576) (m : Nat) (hm : m = vs.length) :
    Calls Tryd.prog 18 #[.slice (some ⟨ob, 0, none⟩) m m] W fun e W' => e = .returned (.bool true) ∧ G Wb W' := by
  have H0 := hide h0
  have HN := hide hN
  have HM := hide hm
  clear h0 hN hm
  go_enter Tryd.func18, Tryd.ntmps18
  go_wp2_with fail
  go_loopw [3] (fun iv wr => ∃ (i : Nat) (L : List (List Int)), iv = I i ∧ i ≤ vs.length ∧ Ap Wb wr ob vs N L ∧ ∀ j l q, j < i → L[j]? = some l → q < l.length → l[q]? = some (mrk j q)) (fun iv _ => vs.length - (RowKit.intOf iv).toNat)
  case atStart => exact ⟨0, L0, rfl, Nat.zero_le _, H0.out, fun j l q hj => by omega⟩
  case round =>
    obtain ⟨i, L, rfl, hi, hap, hmk⟩ := hrel
    by_cases hil : i < vs.length
    · have hiI : (i : Int) < m := by have := HM.out; omega
      have HAP := hide hap
      have HMK := hide hmk
      have HIL := hide hil
      clear hap hmk hil
      go_wp2_with fail
      go_loopw [4] (fun kv wi => ∃ (k : Nat) (L : List (List Int)) (l : List Int), kv = I k ∧ Ap Wb wi ob vs N L ∧ (∀ j l q, j < i → L[j]? = some l → q < l.length → l[q]? = some (mrk j q)) ∧ L[i]? = some l ∧ k ≤ l.length ∧ ∀ q, q < k → l[q]? = some (mrk i q)) (fun kv _ => 1048577 - (RowKit.intOf kv).toNat)
      case atStart =>
        obtain ⟨v, l, hv, hl, hr⟩ := HAP.out.ls.at_ HIL.out
        exact ⟨0, L, l, rfl, HAP.out, HMK.out, hl, Nat.zero_le _, fun q hq => by omega⟩
      case round =>
        obtain ⟨k, L, l, rfl, hap, hmk, hl, hk, hq⟩ := hrel
        obtain ⟨v, l', hv, hl', hr⟩ := hap.ls.at_ HIL.out
        obtain rfl : l = l' := by rw [hl] at hl'; simpa using hl'
        have hlen := hap.lt HN.out hl
        obtain ⟨va, vc, rfl⟩ := Rw.form hr
        have hob := (hap.blk.cell i).trans hv
        have h16 : i ≤ 16 := by omega
        obtain ⟨w1, w2, w3, w4⟩ := wmrk (k := k) h16 (by omega)
        by_cases hkl : k < l.length
        · have hkI : (k : Int) < l.length := by omega
          obtain ⟨g, cap, he, hlo, hc, hgl⟩ := hr.cell (by omega)
          obtain ⟨rfl, rfl⟩ : va = some ⟨g, 0, none⟩ ∧ vc = cap := by simp at he; exact he
          obtain ⟨gg, cc, rest, heq, hlg, hblk, hlb⟩ := hr.blk (by omega)
          obtain ⟨rfl, rfl⟩ : g = gg ∧ vc = cc := by simp at heq; exact heq
          have hz := hblk.frozen
          have hck := hblk.cell
          obtain ⟨x, hx⟩ : ∃ x, l[k]? = some x := ⟨_, List.getElem?_eq_getElem hkl⟩
          have hcx : wr.cell? ⟨g, k, none⟩ = some (I x) := by rw [hc k (by omega), List.getElem?_map, hx]; rfl
          have HAP2 := hide (hap.set hv hl hkl (mrk i k))
          have HQ := hide hq
          have HL := hide hl
          have HKL := hide hkl
          have HLE := hide hlen
          have HMK2 := hide hmk
          have hw : wrap64 ((k : Int) + 1) = (k : Int) + 1 := by unfold wrap64; omega
          clear hap hmk hl hq hv hl' hr he heq hblk hlb hck hc hkl hx hlen
          go_wp2_with fail
          go_roundw
          case rel =>
            try rw [hw]
            refine ⟨k + 1, L.set i (l.set k (mrk i k)), l.set k (mrk i k), by simp, HAP2.out, fun j l' q hj hl' hq => ?_, ?_, ?_, fun q hq => ?_⟩
            · rw [List.getElem?_set_ne (Nat.ne_of_gt hj)] at hl'
              exact HMK2.out j l' q hj hl' hq
            · exact List.getElem?_set_self (List.getElem?_eq_some_iff.1 HL.out).1
            · rw [List.length_set]; exact HKL.out
            · by_cases hqk : k = q
              · subst hqk
                exact List.getElem?_set_self HKL.out
              · rw [List.getElem?_set_ne hqk]
                exact HQ.out q (Nat.lt_of_le_of_ne (Nat.le_of_lt_succ hq) (Ne.symm hqk))
          case measure => (try rw [hw]); simp only [RowKit.intOf]; exact ms1 HKL.out HLE.out
        · have hkI : ¬ ((k : Int) < l.length) := by omega
          have HREL : Hid (∃ (i' : Nat) (L : List (List Int)), I ((i : Int) + 1) = I i' ∧ i' ≤ vs.length ∧ Ap Wb wr ob vs N L ∧ ∀ j l q, j < i' → L[j]? = some l → q < l.length → l[q]? = some (mrk j q)) := by
            refine ⟨i + 1, L, by simp, HIL.out, hap, fun j l' q hj hl2 hq' => ?_⟩
            by_cases hji : j = i
            · subst hji
              have e : l' = l := Option.some.inj (hl2.symm.trans hl)
              rw [e] at hq' ⊢
              exact hq q (Nat.lt_of_lt_of_le hq' (Nat.le_of_not_lt hkl))
            · exact hmk j l' q (Nat.lt_of_le_of_ne (Nat.le_of_lt_succ hj) hji) hl2 hq'
          clear hap hmk hl hq hv hl' hr hkl hlen
          go_wp2_with fail
          go_roundw
          case rel => (try rw [w1]); exact HREL.out
          case measure => (try rw [w1]); simp only [RowKit.intOf]; exact ms2 HIL.out
    · have hiI : ¬ ((i : Int) < m) := by have := HM.out; omega
      have HAP : Hid (∃ L, Ap Wb wr ob vs N L ∧ ∀ j l q, L[j]? = some l → q < l.length → l[q]? = some (mrk j q)) := by
        refine ⟨L, hap, fun j l q hl hq => hmk j l q ?_ hl hq⟩
        have := (List.getElem?_eq_some_iff.1 hl).1
        have := hap.ls.len
        omega
      clear hap hmk hil hi
      obtain ⟨L, hap, hmk⟩ := HAP.out
      have HA1 := hide hap
      have HMK := hide hmk
      clear hap hmk HAP
      go_wp2_with fail
      go_loopw [5] (fun iv wr => ∃ i : Nat, iv = I i ∧ i ≤ vs.length ∧ Ap Wb wr ob vs N L) (fun iv _ => vs.length - (RowKit.intOf iv).toNat)
      case atStart => exact ⟨0, rfl, Nat.zero_le _, HA1.out⟩
      case round =>
        obtain ⟨i, rfl, hi, hap⟩ := hrel
        by_cases hil : i < vs.length
        · have hiI : (i : Int) < m := by have := HM.out; omega
          obtain ⟨v, l, hv, hl, hr⟩ := hap.ls.at_ hil
          have hlen := hap.lt HN.out hl
          obtain ⟨va, vc, rfl⟩ := Rw.form hr
          have hob := (hap.blk.cell i).trans hv
          have w1 : wrap64 ((i : Int) + 1) = (i : Int) + 1 := by unfold wrap64; omega
          have HAP := hide hap
          have HIL := hide hil
          have HV := hide hv
          have HL := hide hl
          have HR := hide hr
          have HLE := hide hlen
          clear hap hil hv hl hr hlen hi
          go_wp2_with fail
          go_loopw [6, 7] (fun mv kv wi => ∃ k : Nat, kv = I k ∧ k ≤ 64 ∧ Rw Wb.heap.size 2 1 wi mv (l.length + k) ((l ++ List.replicate k (-7)).map I) ∧ Ap Wb wi ob vs N L ∧ ∀ (j : Nat) v b, j ≠ i → vs[j]? = some v → v.ownBlock = some b → mv.ownBlock ≠ some b) (fun _ kv _ => 64 - (RowKit.intOf kv).toNat)
          case atStart => exact ⟨0, rfl, by omega, by simpa using HR.out, HAP.out, fun j v b hj hv hb => HAP.out.ls.ne j i v _ b hj hv HV.out hb⟩
          case round =>
            obtain ⟨k, rfl, hk, hrow, hap, hne⟩ := hrel
            obtain ⟨ma, mc, rfl⟩ := Rw.form hrow
            have hlen := HLE.out
            by_cases hkl : k < 64
            · have hkI : (k : Int) < 64 := by omega
              have hw : wrap64 ((k : Int) + 1) = (k : Int) + 1 := by unfold wrap64; omega
              have gA : G wr (wr.alloc (.cells #[I (-7)] 2)) := (G.refl wr).alloc _
              obtain ⟨v', w', q1, q2, q3, q4, q5⟩ := app_keep (wr.alloc (.cells #[I (-7)] 2)) Wb.heap.size (.slice ma (l.length + k) mc) (l.length + k) ((l ++ List.replicate k (-7)).map I) (Rw.G hrow gA) ⟨wr.heap.size, 0, none⟩ 1 (I (-7)) (by rw [(Blk.new wr [I (-7)] 2).cell]; rfl) rfl (by omega) (Nat.le_trans hap.g.size gA.size)
              have HRUN := hide q1
              have hapA := hap.grow gA
              have HREL : Hid (∃ k' : Nat, I ((k : Int) + 1) = I k' ∧ k' ≤ 64 ∧ Rw Wb.heap.size 2 1 w' v' (l.length + k') ((l ++ List.replicate k' (-7)).map I) ∧ Ap Wb w' ob vs N L ∧ ∀ (j : Nat) v b, j ≠ i → vs[j]? = some v → v.ownBlock = some b → v'.ownBlock ≠ some b) := by
                refine ⟨k + 1, by simp, hkl, ?_, ⟨⟨hap.ls.len, fun j v l' hv hl => ?_, hap.ls.ne⟩, hap.n, hapA.blk.chg q3 (Rw.offb (Rw.G hrow gA) hapA.blk (by decide)), ?_⟩, fun j v b hj hv hb e => ?_⟩
                · have e1 : (l ++ List.replicate (k + 1) (-7)).map I = (l ++ List.replicate k (-7)).map I ++ [I (-7)] := by rw [List.replicate_succ', ← List.append_assoc, List.map_append (l₁ := l ++ List.replicate k (-7))]; rfl
                  rw [e1]
                  exact q2
                · refine q5 _ _ _ _ (hapA.ls.row j v l' hv hl) (fun e => ?_)
                  by_cases hj : j = i
                  · subst hj
                    rw [HL.out] at hl
                    cases hl
                    omega
                  · cases hvb : v.ownBlock with
                    | none =>
                      have := hapA.ls.row j v l' hv hl
                      rcases this.2 with ⟨rfl, h0⟩ | ⟨g, cap, cur, rfl, -⟩
                      · omega
                      · simp [Value.ownBlock] at hvb
                    | some b => exact absurd (by rw [← e]; exact hvb) (hne j v b hj hv hvb)
                · exact (hapA.g.chg (F := fun _ => False)).more q3 (fun b hb e => by have := ((Rw.G hrow gA).own e).1; omega) |>.G (fun _ q => q.elim)
                · rcases q4 with q | q
                  · exact hne j v b hj hv hb (by rw [← q]; exact e)
                  · rw [q] at e
                    cases e
                    obtain ⟨l', hl'⟩ : ∃ l', L[j]? = some l' := ⟨_, List.getElem?_eq_getElem (by have := (List.getElem?_eq_some_iff.1 hv).1; have := hap.ls.len; omega)⟩
                    have := ((hapA.ls.row j v l' hv hl').own hb).2.1
                    omega
              obtain ⟨va2, vc2, rfl⟩ := Rw.form q2
              have HKL := hide hkl
              clear q1 q2 q3 q4 q5 hapA gA hrow hap hne hkl hlen
              go_wp2_with (first | (at_builtin; refine wpList_append_run rfl _ _ 23 rfl (.slice ma (l.length + k) mc) (.slice (some ⟨wr.heap.size, 0, none⟩) 1 1) rfl rfl HRUN.out ?_) | fail)
              go_roundw
              case rel => (try rw [hw]); exact HREL.out
              case measure => (try rw [hw]); simp only [RowKit.intOf]; exact ms2 HKL.out
            · have hkI : ¬ ((k : Int) < 64) := by omega
              obtain rfl : k = 64 := by omega
              obtain ⟨g, cc, rest, heq, hlg, hblk, hlb⟩ := hrow.blk (by omega)
              obtain ⟨rfl, rfl⟩ : ma = some ⟨g, 0, none⟩ ∧ mc = cc := by simp at heq; exact heq
              have hz := hblk.frozen
              have hc := hblk.cell (l.length + 63)
              obtain ⟨x, hx⟩ : ∃ x, ((l ++ List.replicate 64 (-7)).map I ++ rest)[l.length + 63]? = some x := ⟨_, List.getElem?_eq_getElem (by rw [List.length_append, hlb]; omega)⟩
              rw [hx] at hc
              have e1 : wrap64 (((l.length + 64 : Nat) : Int) - 1) = ((l.length + 63 : Nat) : Int) := by unfold wrap64; omega
              have e2 : ((l.length + 63 : Nat) : Int) < ((l.length + 64 : Nat) : Int) := by omega
              have HREL : Hid (∃ i' : Nat, I ((i : Int) + 1) = I i' ∧ i' ≤ vs.length ∧ Ap Wb (wr.setCell ⟨g, l.length + 63, none⟩ (I (-8))) ob vs N L) := by
                refine ⟨i + 1, by simp, HIL.out, ⟨hap.ls.len, fun j v l' hv hl => ?_, hap.ls.ne⟩, hap.n, hap.blk.keep (Below.heap_setCell _ _ _ _ (hap.blk.ne hblk (by decide))), hap.g.setCell hlg _⟩
                refine (hap.ls.row j v l' hv hl).above (fun e => ?_) _
                by_cases hj : j = i
                · subst hj
                  rw [HL.out] at hl
                  cases hl
                  omega
                · exact absurd rfl (hne j v g hj hv e)
              generalize hM : l.length + 64 = M at *
              generalize hK : l.length + 63 = K at *
              clear hkl heq hblk hlb hx hrow hap hne hlen hM hK
              go_wp2_with fail
              go_roundw
              case rel => (try rw [w1]); exact HREL.out
              case measure => (try rw [w1]); simp only [RowKit.intOf]; exact ms2 HIL.out
        · have hiI : ¬ ((i : Int) < m) := by have := HM.out; omega
          have HA2 := hide hap
          clear hap hil hi
          go_wp2_with fail
          go_loopw [8] (fun iv w3 => ∃ i : Nat, iv = I i ∧ i ≤ vs.length ∧ G wr w3) (fun iv _ => vs.length - (RowKit.intOf iv).toNat)
          case atStart => exact ⟨0, rfl, Nat.zero_le _, G.refl _⟩
          case round =>
            obtain ⟨i, rfl, hi, hg⟩ := hrel
            by_cases hil : i < vs.length
            · have hiI : (i : Int) < m := by have := HM.out; omega
              obtain ⟨v, l, hv, hl, hr⟩ := HA2.out.ls.at_ hil
              have hlen := HA2.out.lt HN.out hl
              have HBC : Hid (∀ V, G wr V → V.cell? ⟨ob, i, none⟩ = some v) := fun V gv => ((HA2.out.grow (hg.trans gv)).blk.cell i).trans hv
              have HRW := hide (hr.G hg)
              have HMI : Hid (∀ q, q < l.length → l[q]? = some (mrk i q)) := fun q hq => HMK.out i l q hl hq
              obtain ⟨va, vc, rfl⟩ := Rw.form hr
              have hob := HBC.out wr (G.refl _)
              have w1 : wrap64 ((i : Int) + 1) = (i : Int) + 1 := by unfold wrap64; omega
              have h16 : i ≤ 16 := by omega
              have HIL := hide hil
              have HLE := hide hlen
              have HG := hide hg
              clear hil hv hl hr hlen hi hg hob
              go_wp2_with fail
              go_loopw [9] (fun kv w4 => ∃ k : Nat, kv = I k ∧ k ≤ l.length ∧ G wr w4) (fun kv _ => l.length - (RowKit.intOf kv).toNat)
              case atStart => exact ⟨0, rfl, Nat.zero_le _, by first | exact G.refl _ | exact g_drewN _ _⟩
              case round =>
                obtain ⟨k, rfl, hk, hg4⟩ := hrel
                have hob := HBC.out _ hg4
                by_cases hkl : k < l.length
                · have hkI : (k : Int) < l.length := by omega
                  obtain ⟨g, cap, he, hlo, hc, hgl⟩ := (Rw.G HRW.out hg4).cell (by omega)
                  obtain ⟨rfl, rfl⟩ : va = some ⟨g, 0, none⟩ ∧ vc = cap := by simp at he; exact he
                  obtain ⟨w1', w2, w3, w4⟩ := wmrk (k := k) h16 (Nat.le_trans hk HLE.out)
                  have hcx : wr.cell? ⟨g, k, none⟩ = some (I (mrk i k)) := by rw [hc k (by omega), List.getElem?_map, HMI.out k hkl]; rfl
                  have hw : wrap64 ((k : Int) + 1) = (k : Int) + 1 := by have := HLE.out; unfold wrap64; omega
                  have HKL := hide hkl
                  have HG4 := hide hg4
                  clear he hc hkl hg4 hk
                  go_wp2_with fail
                  try (go_quiet (fail); go_wp2_with fail)
                  go_roundw
                  case rel => (try rw [hw]); exact ⟨k + 1, by simp, HKL.out, by first | exact HG4.out | exact HG4.out.trans (g_drewN _ _)⟩
                  case measure => (try rw [hw]); simp only [RowKit.intOf]; exact ms2 HKL.out
                · have hkI : ¬ ((k : Int) < l.length) := by omega
                  have HG4 := hide (HG.out.trans hg4)
                  clear hg4 hk hkl
                  go_wp2_with fail
                  try (go_quiet (fail); go_wp2_with fail)
                  go_roundw
                  case rel => (try rw [w1]); exact ⟨i + 1, by simp, HIL.out, by first | exact HG4.out | exact HG4.out.trans (g_drewN _ _)⟩
                  case measure => (try rw [w1]); simp only [RowKit.intOf]; exact ms2 HIL.out
            · have hiI : ¬ ((i : Int) < m) := by have := HM.out; omega
              have HG := hide (HA2.out.g.trans hg)
              clear hg hil hi
              go_wp2_with fail
              go_ret
              exact ⟨rfl, HG.out⟩
end Go.Proofs.YtemkilffagjmcaaDoor
