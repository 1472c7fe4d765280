/- PathsHeap: entries in a row; the first one. -/
import Derived.Test.YtbhbmcgjfcgdgaaPa10
namespace Go.Proofs.Ytbhbmcgjfcgdgaa
open Go.RowKit

def flE (es : List (Int × Int)) : List Value := es.flatMap fun x => [I x.1, I x.2]
theorem flE_len (es : List (Int × Int)) : (flE es).length = es.length * 2 := by
  induction es with
  | nil => rfl
  | cons a l ih => simp [flE] at ih ⊢; omega
theorem flE_get : ∀ (es : List (Int × Int)) (i : Nat) (x : Int × Int), es[i]? = some x → (flE es)[i * 2]? = some (I x.1) ∧ (flE es)[i * 2 + 1]? = some (I x.2)
  | [], i, x, h => by simp at h
  | a :: l, 0, x, h => by simp at h; subst h; simp [flE]
  | a :: l, i + 1, x, h => by
    have := flE_get l i x (by simpa using h)
    have e : flE (a :: l) = I a.1 :: I a.2 :: flE l := by simp [flE]
    rw [e, show (i + 1) * 2 = i * 2 + 1 + 1 by omega]
    simpa using this
/-- Entries in a row of one's own. -/
def ERow (w : World) (z : Nat) (v : Value) (es : List (Int × Int)) : Prop := w.ownsRow z 26 2 v es.length (flE es)
theorem ERow.at {w : World} {z g n cap : Nat} {es : List (Int × Int)} (h : ERow w z (.slice (some ⟨g, 0, none⟩) n cap) es) {i : Nat} {x : Int × Int} (hi : es[i]? = some x) : w.cell? ⟨g, i * 2, none⟩ = some (I x.1) ∧ w.cell? ⟨g, i * 2 + 1, none⟩ = some (I x.2) := by
  obtain ⟨q1, q2⟩ := flE_get es i x hi
  have h1 := World.ownsRow.cells h (g := g) rfl _ _ q1
  have h2 := World.ownsRow.cells h (g := g) rfl _ _ q2
  rw [Addr.add_mid, Nat.zero_add] at h1 h2
  exact ⟨h1, h2⟩
/-- The place of the one that stands ahead of all others, the first of these. -/
def IsFirst (lt : Int × Int → Int × Int → Bool) (es : List (Int × Int)) (n at_ : Nat) : Prop :=
  ∃ y, es[at_]? = some y ∧ at_ < n ∧ (∀ j x, j < n → es[j]? = some x → lt x y = false) ∧ ∀ j x, j < at_ → es[j]? = some x → lt y x = true
theorem IsFirst.step {lt : Int × Int → Int × Int → Bool} (o : Hp.WO lt) {es : List (Int × Int)} {n a : Nat} (h : IsFirst lt es n a) {y x : Int × Int} (hy : es[a]? = some y) (hx : es[n]? = some x) : (lt x y = true → IsFirst lt es (n + 1) n) ∧ (lt x y = false → IsFirst lt es (n + 1) a) := by
  obtain ⟨y', hy', han, h1, h2⟩ := h
  rw [hy] at hy'
  obtain rfl := Option.some.inj hy'
  refine ⟨fun q => ⟨x, hx, Nat.lt_succ_self _, fun j z hj hz => ?_, fun j z hj hz => ?_⟩, fun q => ⟨y, hy, Nat.lt_succ_of_lt han, fun j z hj hz => ?_, h2⟩⟩
  · rcases Nat.lt_or_eq_of_le (Nat.le_of_lt_succ hj) with hj | rfl
    · cases hb : lt z x
      · rfl
      · have := o.tr _ _ _ hb q
        rw [h1 j z hj hz] at this
        cases this
    · rw [hx] at hz
      obtain rfl := Option.some.inj hz
      cases hb : lt x x
      · rfl
      · have := o.asy _ _ hb; rw [hb] at this; exact this
  · have := h1 j z hj hz
    cases hb : lt x z
    · have := o.nt _ _ _ hb this
      rw [q] at this
      cases this
    · rfl
  · rcases Nat.lt_or_eq_of_le (Nat.le_of_lt_succ hj) with hj | rfl
    · exact h1 j z hj hz
    · rw [hx] at hz
      obtain rfl := Option.some.inj hz
      exact q
theorem IsFirst.one (lt : Int × Int → Int × Int → Bool) (o : Hp.WO lt) {es : List (Int × Int)} {x : Int × Int} (hx : es[0]? = some x) : IsFirst lt es 1 0 :=
  ⟨x, hx, Nat.one_pos, fun j z hj hz => by
    obtain rfl : j = 0 := by omega
    rw [hx] at hz
    obtain rfl := Option.some.inj hz
    cases hb : lt x x
    · rfl
    · have := o.asy _ _ hb; rw [hb] at this; exact this, fun j _ hj => by omega⟩
theorem meas2 {n m : Nat} (h : m < n) : n - ((m : Int) + 1).toNat < n - (m : Int).toNat := by omega
set_option maxRecDepth 100000 in
set_option maxHeartbeats 2000000 in
theorem first_u (va : Option Addr) (cap z : Nat) (es : List (Int × Int)) (hl : es.length ≤ 1048576) (W : World) (h : ERow W z (.slice va es.length cap) es) : Calls Try.prog 14 #[.slice va es.length cap, .bool false] W fun e W' => (∃ r : Int, e = .returned (I r) ∧ ((es = [] ∧ r = -1) ∨ ∃ a : Nat, r = a ∧ IsFirst upL es es.length a)) ∧ G W W' := by
  have HE := hide h
  clear h
  go_enter Try.func14, Try.ntmps14
  go_wp2_with fail
  go_loopw [5, 6] (fun kv iv wr => ∃ m : Nat, m ≤ es.length ∧ iv = I m ∧ G W wr ∧ ((m = 0 ∧ kv = I (-1)) ∨ ∃ a : Nat, kv = I a ∧ IsFirst upL es m a)) (fun _ iv _ => es.length - (RowKit.intOf iv).toNat)
  case atStart => exact ⟨0, Nat.zero_le _, rfl, G.refl _, .inl ⟨rfl, rfl⟩⟩
  case round =>
    obtain ⟨m, hm, rfl, hgm, hk⟩ := hrel
    by_cases hml : m < es.length
    · obtain ⟨g, rfl⟩ : ∃ g, va = some ⟨g, 0, none⟩ := by
        obtain ⟨g, cap', e⟩ := own_block HE.out (by omega)
        simp only [Value.slice.injEq] at e
        exact ⟨g, e.1⟩
      obtain ⟨⟨xk, xt⟩, hx⟩ : ∃ x, es[m]? = some x := ⟨_, List.getElem?_eq_getElem hml⟩
      have HEm := hide (show ERow _ z _ es from own_G HE.out hgm)
      obtain ⟨c1, c2⟩ := HEm.out.at hx
      have hmI : (m : Int) < es.length := by omega
      have hw : wrap64 ((m : Int) + 1) = (m : Int) + 1 := by unfold wrap64; omega
      have HGM := hide hgm
      clear hgm hm hl
      rcases hk with ⟨rfl, rfl⟩ | ⟨a, rfl, hf⟩
      · go_wp2_with fail
        go_quiet (fail)
        go_wp2_with fail
        go_roundw
        case rel => exact ⟨1, hml, by first | rfl | (rw [hw]; rfl) | simp, HGM.out.trans (g_drewN _ _), .inr ⟨0, by first | rfl | simp, IsFirst.one _ wo_up hx⟩⟩
        case measure => simp only [RowKit.intOf]; omega
      · obtain ⟨⟨yk, yt⟩, hy, han, -, -⟩ := id hf
        obtain ⟨d1, d2⟩ := HEm.out.at hy
        have haI : (a : Int) < es.length := by omega
        have ha0 : ¬ ((a : Int) < 0) := by omega
        have ha1 : decide ((a : Int) < 0) = false := decide_eq_false ha0
        have HST := hide (hf.step wo_up hy hx)
        clear hf hy hx HEm HE
        by_cases hc : xk < yk
        · have HR := hide (HST.out.1 (by simpa [upL] using hc))
          clear HST
          go_wp2_with fail
          go_quiet (fail)
          go_wp2_with fail
          go_roundw
          case rel => exact ⟨m + 1, hml, by first | (rw [hw]; simp; done) | simp, HGM.out.trans (g_drewN _ _), .inr ⟨m, by first | rfl | simp, HR.out⟩⟩
          case measure => first | (rw [hw]; exact meas2 hml) | exact meas2 hml
        · have hc2 : decide (xk < yk) = false := decide_eq_false hc
          have HR := hide (HST.out.2 (by simpa [upL] using hc))
          clear HST
          go_wp2_with fail
          go_quiet (fail)
          go_wp2_with fail
          go_roundw
          case rel => exact ⟨m + 1, hml, by first | (rw [hw]; simp; done) | simp, HGM.out.trans (g_drewN _ _), .inr ⟨a, by first | rfl | simp, HR.out⟩⟩
          case measure => first | (rw [hw]; exact meas2 hml) | exact meas2 hml
    · obtain rfl : m = es.length := by omega
      have hmI : ¬ ((es.length : Int) < es.length) := by omega
      have HGM := hide hgm
      have HK := hide hk
      clear hgm hk
      go_wp2_with fail
      go_ret
      refine ⟨?_, HGM.out⟩
      rcases HK.out with ⟨q, rfl⟩ | ⟨a, rfl, hf⟩
      · exact ⟨-1, rfl, .inl ⟨List.eq_nil_of_length_eq_zero q, rfl⟩⟩
      · exact ⟨a, rfl, .inr ⟨a, rfl, hf⟩⟩
set_option maxRecDepth 100000 in
set_option maxHeartbeats 2000000 in
theorem first_d (va : Option Addr) (cap z : Nat) (es : List (Int × Int)) (hl : es.length ≤ 1048576) (W : World) (h : ERow W z (.slice va es.length cap) es) : Calls Try.prog 14 #[.slice va es.length cap, .bool true] W fun e W' => (∃ r : Int, e = .returned (I r) ∧ ((es = [] ∧ r = -1) ∨ ∃ a : Nat, r = a ∧ IsFirst downL es es.length a)) ∧ G W W' := by
  have HE := hide h
  clear h
  go_enter Try.func14, Try.ntmps14
  go_wp2_with fail
  go_loopw [5, 6] (fun kv iv wr => ∃ m : Nat, m ≤ es.length ∧ iv = I m ∧ G W wr ∧ ((m = 0 ∧ kv = I (-1)) ∨ ∃ a : Nat, kv = I a ∧ IsFirst downL es m a)) (fun _ iv _ => es.length - (RowKit.intOf iv).toNat)
  case atStart => exact ⟨0, Nat.zero_le _, rfl, G.refl _, .inl ⟨rfl, rfl⟩⟩
  case round =>
    obtain ⟨m, hm, rfl, hgm, hk⟩ := hrel
    by_cases hml : m < es.length
    · obtain ⟨g, rfl⟩ : ∃ g, va = some ⟨g, 0, none⟩ := by
        obtain ⟨g, cap', e⟩ := own_block HE.out (by omega)
        simp only [Value.slice.injEq] at e
        exact ⟨g, e.1⟩
      obtain ⟨⟨xk, xt⟩, hx⟩ : ∃ x, es[m]? = some x := ⟨_, List.getElem?_eq_getElem hml⟩
      have HEm := hide (show ERow _ z _ es from own_G HE.out hgm)
      obtain ⟨c1, c2⟩ := HEm.out.at hx
      have hmI : (m : Int) < es.length := by omega
      have hw : wrap64 ((m : Int) + 1) = (m : Int) + 1 := by unfold wrap64; omega
      have HGM := hide hgm
      clear hgm hm hl
      rcases hk with ⟨rfl, rfl⟩ | ⟨a, rfl, hf⟩
      · go_wp2_with fail
        go_quiet (fail)
        go_wp2_with fail
        go_roundw
        case rel => exact ⟨1, hml, by first | rfl | (rw [hw]; rfl) | simp, HGM.out.trans (g_drewN _ _), .inr ⟨0, by first | rfl | simp, IsFirst.one _ wo_down hx⟩⟩
        case measure => simp only [RowKit.intOf]; omega
      · obtain ⟨⟨yk, yt⟩, hy, han, -, -⟩ := id hf
        obtain ⟨d1, d2⟩ := HEm.out.at hy
        have haI : (a : Int) < es.length := by omega
        have ha0 : ¬ ((a : Int) < 0) := by omega
        have ha1 : decide ((a : Int) < 0) = false := decide_eq_false ha0
        have HST := hide (hf.step wo_down hy hx)
        clear hf hy hx HEm HE
        by_cases hc : yk < xk
        · have HR := hide (HST.out.1 (by simpa [downL] using hc))
          clear HST
          go_wp2_with fail
          go_quiet (fail)
          go_wp2_with fail
          go_roundw
          case rel => exact ⟨m + 1, hml, by first | (rw [hw]; simp; done) | simp, HGM.out.trans (g_drewN _ _), .inr ⟨m, by first | rfl | simp, HR.out⟩⟩
          case measure => first | (rw [hw]; exact meas2 hml) | exact meas2 hml
        · have hc2 : decide (yk < xk) = false := decide_eq_false hc
          have HR := hide (HST.out.2 (by simpa [downL] using hc))
          clear HST
          go_wp2_with fail
          go_quiet (fail)
          go_wp2_with fail
          go_roundw
          case rel => exact ⟨m + 1, hml, by first | (rw [hw]; simp; done) | simp, HGM.out.trans (g_drewN _ _), .inr ⟨a, by first | rfl | simp, HR.out⟩⟩
          case measure => first | (rw [hw]; exact meas2 hml) | exact meas2 hml
    · obtain rfl : m = es.length := by omega
      have hmI : ¬ ((es.length : Int) < es.length) := by omega
      have HGM := hide hgm
      have HK := hide hk
      clear hgm hk
      go_wp2_with fail
      go_ret
      refine ⟨?_, HGM.out⟩
      rcases HK.out with ⟨q, rfl⟩ | ⟨a, rfl, hf⟩
      · exact ⟨-1, rfl, .inl ⟨List.eq_nil_of_length_eq_zero q, rfl⟩⟩
      · exact ⟨a, rfl, .inr ⟨a, rfl, hf⟩⟩
end Go.Proofs.Ytbhbmcgjfcgdgaa
