/- Paths: pathsArc. -/
import Derived.Test.YtcbjcienjolceaaDoorPm4
import Derived.Test.YtcbjcienjolceaaDoorPj6
namespace Go.Proofs.YtcbjcienjolceaaDoor
open Go.RowKit

/-- What is known of the arcs that were looked at. -/
def Mt (b edge : Int) (l : List Ar) (w : Int) (ok : Bool) : Prop := (ok = false → ∀ x ∈ l, ¬ (x.2.1 = b ∧ x.1 = edge)) ∧ (ok = true → (∃ x ∈ l, x.2.1 = b ∧ x.1 = edge ∧ x.2.2 = w) ∧ ∀ x ∈ l, x.2.1 = b → x.1 = edge → w ≤ x.2.2)
theorem Mt.no {b edge w : Int} {l : List Ar} {ok : Bool} {y : Ar} (h : Mt b edge l w ok) (hy : ¬ (y.2.1 = b ∧ y.1 = edge)) : Mt b edge (l ++ [y]) w ok := by
  refine ⟨fun q x hx => ?_, fun q => ⟨?_, fun x hx h1 h2 => ?_⟩⟩
  · rcases List.mem_append.1 hx with p | p
    · exact h.1 q x p
    · rw [List.mem_singleton.1 p]; exact hy
  · obtain ⟨x, hx, p⟩ := (h.2 q).1
    exact ⟨x, by simp [hx], p⟩
  · rcases List.mem_append.1 hx with p | p
    · exact (h.2 q).2 x p h1 h2
    · rw [List.mem_singleton.1 p] at h1 h2
      exact absurd ⟨h1, h2⟩ hy
theorem Mt.yes {b edge w : Int} {l : List Ar} {ok : Bool} {y : Ar} (h : Mt b edge l w ok) (hy : y.2.1 = b ∧ y.1 = edge) (hw : ok = true → y.2.2 < w) : Mt b edge (l ++ [y]) y.2.2 true := by
  refine ⟨fun q => (by cases q), fun _ => ⟨⟨y, by simp, hy.1, hy.2, rfl⟩, fun x hx h1 h2 => ?_⟩⟩
  rcases List.mem_append.1 hx with p | p
  · cases ok with
    | true =>
      have := (h.2 rfl).2 x p h1 h2
      have := hw rfl
      omega
    | false => exact absurd ⟨h1, h2⟩ (h.1 rfl x p)
  · rw [List.mem_singleton.1 p]; exact Int.le_refl _
theorem Mt.same {b edge w : Int} {l : List Ar} {y : Ar} (h : Mt b edge l w true) (hw : w ≤ y.2.2) : Mt b edge (l ++ [y]) w true := by
  refine ⟨fun q => (by cases q), fun _ => ⟨?_, fun x hx h1 h2 => ?_⟩⟩
  · obtain ⟨x, hx, p⟩ := (h.2 rfl).1
    exact ⟨x, by simp [hx], p⟩
  · rcases List.mem_append.1 hx with p | p
    · exact (h.2 rfl).2 x p h1 h2
    · rw [List.mem_singleton.1 p]; exact hw
set_option maxRecDepth 100000 in
set_option maxHeartbeats 2000000 in
theorem arc_any (Wb W : World) (rv : Value) (rs : List Nr) (a b edge m : Int) (h : Nrs Wb rv rs) (hG : G Wb W) (ha : R64 a) (hrl : rs.length ≤ 1048576) (hal : ∀ id, (netOf rs false id).1.length ≤ 1048576) (hm1 : ∃ x ∈ (netOf rs false a).1, x.2.1 = b ∧ x.1 = edge ∧ x.2.2 = m) (hm2 : ∀ x ∈ (netOf rs false a).1, x.2.1 = b → m ≤ x.2.2) :
    Calls Tryd.prog 33 #[.agg #[rv, .bool false], I a, I b, I edge] W fun e W' => e = .returned (.tuple #[I m, .bool true]) ∧ G W W' := by
  obtain ⟨rva, rvc, hrv⟩ : ∃ a c, rv = .slice a rs.length c := by obtain ⟨a, c, e, _⟩ := h; exact ⟨a, c, e⟩
  subst hrv
  have gA : G W (W.alloc (.cells #[.slice rva rs.length rvc, .bool false] 25)) := (G.refl W).alloc _
  have HOF := hide (of_any Wb _ _ rs false a h (hG.trans gA) ha hrl)
  have HGA := hide gA
  obtain ⟨l, hl⟩ : ∃ l, l = (netOf rs false a).1 := ⟨_, rfl⟩
  have HLL : Hid (l.length ≤ 1048576) := by rw [hl]; exact hal a
  rw [← hl] at hm1 hm2 HOF
  have HM1 := hide hm1
  have HM2 := hide hm2
  have HGB := hide hG
  clear h hG hal hm1 hm2 hl gA
  go_enter Tryd.func33, Tryd.ntmps33
  go_wp2_with fail
  refine HOF.out.mono ?_
  rintro e w2 ⟨lv, rfl, hax, hg2⟩
  have har := hax.arcs ((HGB.out.trans HGA.out).trans hg2)
  obtain ⟨la, lc, rfl⟩ : ∃ la lc, lv = .slice la l.length lc := by obtain ⟨q1, q2, q3, -⟩ := har.at_; exact ⟨q1, q2, q3⟩
  have HA := hide har
  have HG2 := hide (HGA.out.trans hg2)
  clear hax hg2 har HOF
  go_wp2_with fail
  go_loopw [12, 13, 14] (fun wv okv iv wr => ∃ (k : Nat) (w : Int) (ok : Bool), iv = I k ∧ wv = I w ∧ okv = .bool ok ∧ k ≤ l.length ∧ G w2 wr ∧ Mt b edge (l.take k) w ok) (fun _ _ iv _ => l.length - (RowKit.intOf iv).toNat)
  case atStart => exact ⟨0, 0, false, rfl, rfl, rfl, Nat.zero_le _, G.refl _, fun _ x hx => by simp at hx, fun q => by cases q⟩
  case round =>
    obtain ⟨k, w, ok, rfl, rfl, rfl, hk, hg, hmt⟩ := hrel
    by_cases hkl : k < l.length
    · have hkI : (k : Int) < l.length := by omega
      obtain ⟨⟨xe, xt, xw⟩, hx⟩ : ∃ x, l[k]? = some x := ⟨_, List.getElem?_eq_getElem hkl⟩
      obtain ⟨-, ab, aoff, rfl, y1, y2, y3, -⟩ := (HA.out.G hg).get hx
      simp only at y1 y2 y3
      have htk : l.take (k + 1) = l.take k ++ [(xe, xt, xw)] := by rw [List.take_add_one, hx]; rfl
      have hw : wrap64 ((k : Int) + 1) = (k : Int) + 1 := by have := HLL.out; unfold wrap64; omega
      have HTK := hide htk
      have HMT := hide hmt
      have HKL := hide hkl
      have HG4 := hide hg
      clear hx htk hmt hkl hg hk
      by_cases h1 : xt = b
      · have h1b : (xt == b) = true := by simpa using h1
        by_cases h2 : xe = edge
        · have h2b : (xe == edge) = true := by simpa using h2
          have H12 : Hid (xt = b ∧ xe = edge) := ⟨h1, h2⟩
          clear h1 h2
          cases ok with
          | false =>
            have HNEW : Hid (Mt b edge (l.take (k + 1)) xw true) := by show Mt _ _ _ _ _; rw [HTK.out]; exact HMT.out.yes (y := (xe, xt, xw)) H12.out (fun q => by cases q)
            go_wp2_with fail
            go_roundw
            case rel => (try rw [hw]); exact ⟨k + 1, xw, true, by simp, rfl, rfl, HKL.out, HG4.out, HNEW.out⟩
            case measure => (try rw [hw]); simp only [RowKit.intOf]; exact ms2 HKL.out
          | true =>
            by_cases h3 : xw < w
            · have h3b : decide (xw < w) = true := decide_eq_true h3
              have HNEW : Hid (Mt b edge (l.take (k + 1)) xw true) := by show Mt _ _ _ _ _; rw [HTK.out]; exact HMT.out.yes (y := (xe, xt, xw)) H12.out (fun _ => h3)
              go_wp2_with fail
              go_roundw
              case rel => (try rw [hw]); exact ⟨k + 1, xw, true, by simp, rfl, rfl, HKL.out, HG4.out, HNEW.out⟩
              case measure => (try rw [hw]); simp only [RowKit.intOf]; exact ms2 HKL.out
            · have h3b : decide (xw < w) = false := decide_eq_false h3
              have HNEW : Hid (Mt b edge (l.take (k + 1)) w true) := by show Mt _ _ _ _ _; rw [HTK.out]; exact HMT.out.same (y := (xe, xt, xw)) (by simp only; omega)
              go_wp2_with fail
              go_roundw
              case rel => (try rw [hw]); exact ⟨k + 1, w, true, by simp, rfl, rfl, HKL.out, HG4.out, HNEW.out⟩
              case measure => (try rw [hw]); simp only [RowKit.intOf]; exact ms2 HKL.out
        · have h2b : (xe == edge) = false := beq_eq_false_iff_ne.2 h2
          have HNEW : Hid (Mt b edge (l.take (k + 1)) w ok) := by show Mt _ _ _ _ _; rw [HTK.out]; exact HMT.out.no (y := (xe, xt, xw)) (fun q => h2 q.2)
          clear h1 h2
          go_wp2_with fail
          go_roundw
          case rel => (try rw [hw]); exact ⟨k + 1, w, ok, by simp, rfl, rfl, HKL.out, HG4.out, HNEW.out⟩
          case measure => (try rw [hw]); simp only [RowKit.intOf]; exact ms2 HKL.out
      · have h1b : (xt == b) = false := beq_eq_false_iff_ne.2 h1
        have HNEW : Hid (Mt b edge (l.take (k + 1)) w ok) := by show Mt _ _ _ _ _; rw [HTK.out]; exact HMT.out.no (y := (xe, xt, xw)) (fun q => h1 q.1)
        clear h1
        go_wp2_with fail
        go_roundw
        case rel => (try rw [hw]); exact ⟨k + 1, w, ok, by simp, rfl, rfl, HKL.out, HG4.out, HNEW.out⟩
        case measure => (try rw [hw]); simp only [RowKit.intOf]; exact ms2 HKL.out
    · have hkI : ¬ ((k : Int) < l.length) := by omega
      obtain rfl : k = l.length := by omega
      rw [List.take_length] at hmt
      obtain ⟨x, hx, p1, p2, p3⟩ := HM1.out
      obtain rfl : ok = true := by
        cases ok with
        | true => rfl
        | false => exact absurd ⟨p1, p2⟩ (hmt.1 rfl x hx)
      obtain rfl : w = m := by
        obtain ⟨x', hx', r1, r2, r3⟩ := (hmt.2 rfl).1
        have := (hmt.2 rfl).2 x hx p1 p2
        have := HM2.out x' hx' r1
        omega
      have HG := hide (HG2.out.trans hg)
      clear hmt hx p1 p2 p3 hg hkl hk
      go_wp2_with fail
      go_ret2
      exact ⟨rfl, HG.out⟩
end Go.Proofs.YtcbjcienjolceaaDoor
