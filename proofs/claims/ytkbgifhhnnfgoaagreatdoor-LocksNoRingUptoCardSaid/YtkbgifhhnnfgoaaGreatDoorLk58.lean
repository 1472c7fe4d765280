/- Locks: Begin, Ask, End: in memory and in thought. -/
import Derived.Test.YtkbgifhhnnfgoaaGreatDoorLk53
namespace Go.Proofs.YtkbgifhhnnfgoaaGreatDoor
section
section
section
section
open Go.RowKit

/-- A table while an End goes on: the places of rest are as they were, cur is being served. -/
structure AbsE (s : Gs) (m m0 : Ms) (x : Int) (rest : List Rs) (cur : Option Rs) : Prop where
  lv : ∀ y, (s.lv y).map Pt.m = m.lv y
  yes : ∀ r q, r ∉ rest → s.pl r = some q → q.hf = m.hl r ∧ q.qs = m.qs r ∧ (cur ≠ some r → ∃ y, m.hl r y ≠ 0)
  no : ∀ r, r ∉ rest → s.pl r = none → (∀ y, m.hl r y = 0) ∧ m.qs r = []
  old : ∀ r, r ∈ rest → (∃ q, s.pl r = some q ∧ q.hf = m0.hl r ∧ q.qs = m0.qs r) ∧ m.hl r = upd (m0.hl r) x 0 ∧ m.qs r = noX x (m0.qs r)
theorem Iw.len {m : Ms} {L : List Int} {LR : List Rs} (h : Iw m L LR) (r : Rs) : (m.qs r).length ≤ L.length := by
  have h1 := nodup_len _ L (h.qn r) (fun y hy => by
    obtain ⟨⟨y', g⟩, hm, rfl⟩ := List.mem_map.1 hy
    obtain ⟨p, hp, -⟩ := (h.qm r y' g).1 hm
    exact (h.lv y' p hp).xl)
  rw [List.length_map] at h1
  exact h1
/-- One that has got what it asked for. -/
def Pm.got (b : Pm) : Pm := { b with hf := upd b.hf b.at_ b.goal, at_ := r0, goal := 0 }
/-- What a serve keeps. -/
structure SvI (s5 : Gs) (m1 m0 : Ms) (x : Int) (r : Rs) (rest : List Rs) (L : List Int) (LR : List Rs) (out0 : List Int) (B : Nat) (s : Gs) (a : Nat) (out : List Int) (m : Ms) : Prop where
  own : s.own = s5.own
  ab : AbsE s m m0 x rest (some r)
  pl : ∃ q, s.pl r = some q ∧ q.blk = B
  iw : Iw m L LR
  bl : BlA m r a
  al : a ≤ (m.qs r).length
  eq : srvM r ((m.qs r).length - a) m a out = srvM r (m1.qs r).length m1 0 []
  nd : (out0 ++ out).Nodup
  oo : ∀ y ∈ out0 ++ out, ∃ p, m.lv y = some p ∧ p.goal = 0
  ot : ∀ r', r' ≠ r → ∀ b, BlA m1 r' b → BlA m r' b
  oq : ∀ r', r' ≠ r → m.qs r' = m1.qs r'
  lve : ∀ z, m.lv z = if z ∈ out0 ++ out then ((mDel m0 x).lv z).map Pm.got else (mDel m0 x).lv z
  gn : ∀ y ∈ out0 ++ out, ∃ b, (mDel m0 x).lv y = some b ∧ b.goal ≠ 0
theorem srv_ok {s5 : Gs} {m1 m0 : Ms} {x : Int} {r : Rs} {rest : List Rs} {L : List Int} {LR : List Rs} {out0 : List Int} {B : Nat} (hL : L.length < 4099999999999) (hr : r ∉ rest) : SrvG (fun s a out => ∃ m, SvI s5 m1 m0 x r rest L LR out0 B s a out m) s5 r B L LR := by
  rintro s a out ⟨m, h⟩
  obtain ⟨q, hq, hqb⟩ := h.pl
  obtain ⟨h1, h2, -⟩ := h.ab.yes r q hr hq
  have hlen := h.iw.len r
  have hout : out.length < 4099999999999 := by
    have h3 := nodup_len _ L h.nd (fun y hy => by
      obtain ⟨p, hp, -⟩ := h.oo y hy
      exact (h.iw.lv y p hp).xl)
    rw [List.length_append] at h3
    omega
  refine ⟨h.own, hout, q, hq, hqb, fun z hz => ?_, by rw [h2]; omega, by rw [h2]; exact h.al, fun y g hy => ?_⟩
  · rw [h1] at hz
    obtain ⟨p, hp, -⟩ := hl_live hz
    exact ⟨(h.iw.lv z p hp).xl, (h.iw.lv z p hp).xr⟩
  · rw [h2] at hy
    have hal := (List.getElem?_eq_some_iff.1 hy).1
    obtain ⟨pm, hpm, hgo, hg0, hat⟩ := (h.iw.qm r y g).1 (List.mem_of_getElem? hy)
    obtain ⟨p, hp, hpe⟩ : ∃ p, s.lv y = some p ∧ p.m = pm := by
      have := h.ab.lv y
      rw [hpm] at this
      cases e : s.lv y with
      | none => rw [e] at this; cases this
      | some p => rw [e] at this; exact ⟨p, rfl, by simpa using this⟩
    have hpi := h.iw.lv y pm hpm
    refine ⟨hpi.xr, hg0, p, hp, fun z hz => ?_, fun hb => ?_, fun hb v' => ?_⟩
    · exact (hpi.hf z (by rw [← hpe]; exact hz)).2.1
    · have hex : ∃ z, inW (m.hl r) (m.qs r) y g a z := by
        rw [← h1, ← h2]
        cases Classical.em (∃ z, inW q.hf q.qs y g a z) with
        | inl hh => exact hh
        | inr hh => rw [blkB_no hh] at hb; cases hb
      refine ⟨m, h.own, h.ab, ⟨q, hq, hqb⟩, h.iw, fun i z g' hi hz => ?_, by omega, ?_, h.nd, h.oo, h.ot, h.oq, h.lve, h.gn⟩
      · by_cases e : i < a
        · exact h.bl i z g' e hz
        · have e2 : i = a := by omega
          subst e2
          rw [hy] at hz
          cases hz
          exact hex
      · have h3 := h.eq
        rw [show (m.qs r).length - a = ((m.qs r).length - (a + 1)) + 1 by omega, srvM_blk hy hex] at h3
        exact h3
    · have hex : ¬ ∃ z, inW (m.hl r) (m.qs r) y g a z := fun hh => by
        rw [← h1, ← h2] at hh
        rw [blkB_yes hh] at hb; cases hb
      have hne : ∀ {r' : Rs}, r' ∈ rest → r' ≠ r := fun hh e => hr (by rw [← e]; exact hh)
      rw [Gs.setPl_setPl]
      refine ⟨mServe m y pm r g a, h.own, ⟨fun z => ?_, fun r' q' hr' hq' => ?_, fun r' hr' hq' => ?_, fun r' hr' => ?_⟩, ⟨_, by simp [Gs.setPl, Gs.setPt]; rfl, by simp [Pl.hold, hqb]⟩, iw_serve h.iw hy hpm hex, bla_serve h.iw hy hpm h.bl, ?_, ?_, ?_, fun z hz => ?_, fun r' e b hb' => bla_other hpm e (h.ot r' e b hb'), fun r' e => by rw [mServe_qo e]; exact h.oq r' e, fun z => ?_, fun z hz => ?_⟩
      · by_cases e : z = y
        · subst e
          rw [mServe_y, ← hpe]
          simp [Gs.setPl, Gs.setPt, Pt.m, Pt.hold, Pt.rest]
        · rw [mServe_z e]
          simp [Gs.setPl, Gs.setPt, upd_other e]
          exact h.ab.lv z
      · by_cases e : r' = r
        · subst e
          simp [Gs.setPl, Gs.setPt] at hq'
          subst hq'
          refine ⟨?_, ?_, fun hh => absurd rfl hh⟩
          · rw [mServe_hl hpm, ← h1]; rfl
          · rw [mServe_q, ← h2]; rfl
        · simp [Gs.setPl, Gs.setPt, upd_other e] at hq'
          rw [mServe_ho hpm e, mServe_qo e]
          exact h.ab.yes r' q' hr' hq'
      · by_cases e : r' = r
        · subst e
          simp [Gs.setPl, Gs.setPt] at hq'
        · simp [Gs.setPl, Gs.setPt, upd_other e] at hq'
          rw [mServe_ho hpm e, mServe_qo e]
          exact h.ab.no r' hr' hq'
      · have e := hne hr'
        rw [mServe_ho hpm e, mServe_qo e]
        simp [Gs.setPl, Gs.setPt, upd_other e]
        exact h.ab.old r' hr'
      · rw [mServe_q, cut_len hal]; omega
      · rw [mServe_q, cut_len hal]
        have h3 := h.eq
        rw [show (m.qs r).length - a = ((m.qs r).length - 1 - a) + 1 by omega, srvM_get hy hex hpm] at h3
        exact h3
      · rw [← List.append_assoc, List.nodup_append]
        refine ⟨h.nd, by simp, fun u hu c hc e => ?_⟩
        simp at hc
        subst hc e
        obtain ⟨p', hp', hg'⟩ := h.oo u hu
        rw [hpm] at hp'
        cases hp'
        exact hg0 (hgo.symm.trans hg')
      · by_cases e : z = y
        · subst e; exact ⟨_, mServe_y, rfl⟩
        · rw [mServe_z e]
          rw [← List.append_assoc, List.mem_append, List.mem_singleton] at hz
          rcases hz with hz | hz
          · exact h.oo z hz
          · exact absurd hz e
      · have hny : y ∉ out0 ++ out := fun hh => by
          obtain ⟨p', hp', hg'⟩ := h.oo y hh
          rw [hpm] at hp'
          cases hp'
          exact hg0 (hgo.symm.trans hg')
        rw [← List.append_assoc]
        by_cases e : z = y
        · subst e
          have h3 := h.lve z
          rw [if_neg hny, hpm] at h3
          rw [mServe_y, if_pos (List.mem_append_right _ (List.mem_singleton.2 rfl)), ← h3]
          simp [Pm.got, hgo, hat]
        · rw [mServe_z e, h.lve z]
          have : z ∈ out0 ++ out ++ [y] ↔ z ∈ out0 ++ out := by
            rw [List.mem_append, List.mem_singleton]
            exact ⟨fun hh => hh.resolve_right e, .inl⟩
          by_cases hz : z ∈ out0 ++ out
          · rw [if_pos hz, if_pos (this.2 hz)]
          · rw [if_neg hz, if_neg (fun hh => hz (this.1 hh))]
      · rw [← List.append_assoc, List.mem_append, List.mem_singleton] at hz
        rcases hz with hz | hz
        · exact h.gn z hz
        · subst hz
          have hny : z ∉ out0 ++ out := fun hh => by
            obtain ⟨p', hp', hg'⟩ := h.oo z hh
            rw [hpm] at hp'
            cases hp'
            exact hg0 (hgo.symm.trans hg')
          have h3 := h.lve z
          rw [if_neg hny, hpm] at h3
          exact ⟨pm, h3.symm, by rw [hgo]; exact hg0⟩
end
open Go.RowKit

theorem AbsE.leave {s : Gs} {m m0 : Ms} {x : Int} {r : Rs} {rest : List Rs} (h : AbsE s m m0 x (r :: rest) none) (hr : r ∉ rest) {q q5 : Pl} (hq : s.pl r = some q) (e1 : q5.hf = upd q.hf x 0) (e2 : q5.qs = noX x q.qs) : AbsE (s.setPl r q5) m m0 x rest (some r) := by
  obtain ⟨⟨q', hq', h1, h2⟩, h3, h4⟩ := h.old r (List.mem_cons_self ..)
  rw [hq] at hq'
  cases hq'
  refine ⟨h.lv, fun r' q' hr' hq' => ?_, fun r' hr' hq' => ?_, fun r' hr' => ?_⟩
  · by_cases e : r' = r
    · subst e
      simp [Gs.setPl] at hq'
      subst hq'
      exact ⟨by rw [e1, h3, h1], by rw [e2, h4, h2], fun hh => absurd rfl hh⟩
    · simp [Gs.setPl, upd_other e] at hq'
      obtain ⟨g1, g2, g3⟩ := h.yes r' q' (by simp [e, hr']) hq'
      exact ⟨g1, g2, fun _ => g3 (by simp)⟩
  · by_cases e : r' = r
    · subst e
      simp [Gs.setPl] at hq'
    · simp [Gs.setPl, upd_other e] at hq'
      exact h.no r' (by simp [e, hr']) hq'
  · have e : r' ≠ r := fun e => hr (by rw [← e]; exact hr')
    simp [Gs.setPl, upd_other e]
    exact h.old r' (List.mem_cons_of_mem _ hr')
theorem AbsE.served {s : Gs} {m m0 : Ms} {x : Int} {r : Rs} {rest : List Rs} (h : AbsE s m m0 x rest (some r)) (hr : r ∉ rest) {q : Pl} (hq : s.pl r = some q) (hb : BlA m r (m.qs r).length) : AbsE (endPl s r q) m m0 x rest none := by
  obtain ⟨h1, h2, -⟩ := h.yes r q hr hq
  by_cases hz : ∃ z, q.hf z ≠ 0
  · rw [endPl_yes hz]
    refine ⟨h.lv, fun r' q' hr' hq' => ?_, h.no, h.old⟩
    obtain ⟨g1, g2, g3⟩ := h.yes r' q' hr' hq'
    refine ⟨g1, g2, fun _ => ?_⟩
    by_cases e : r' = r
    · subst e; rw [← h1]; exact hz
    · exact g3 (fun e2 => e (Option.some.inj e2).symm)
  · rw [endPl_no hz]
    have hall : ∀ y, m.hl r y = 0 := fun y => Decidable.byContradiction fun hh => hz ⟨y, by rw [h1]; exact hh⟩
    refine ⟨h.lv, fun r' q' hr' hq' => ?_, fun r' hr' hq' => ?_, fun r' hr' => ?_⟩
    · by_cases e : r' = r
      · subst e; simp [Gs.delPl] at hq'
      · simp [Gs.delPl, upd_other e] at hq'
        obtain ⟨g1, g2, g3⟩ := h.yes r' q' hr' hq'
        exact ⟨g1, g2, fun _ => g3 (fun e2 => e (Option.some.inj e2).symm)⟩
    · by_cases e : r' = r
      · subst e
        refine ⟨hall, ?_⟩
        cases e2 : m.qs r' with
        | nil => rfl
        | cons o os =>
          obtain ⟨u, hu⟩ := hb 0 o.1 o.2 (by rw [e2]; simp) (by rw [e2]; rfl)
          rcases hu with ⟨g1, -⟩ | ⟨k, -, hk, -⟩
          · exact absurd (hall u) g1
          · omega
      · simp [Gs.delPl, upd_other e] at hq'
        exact h.no r' hr' hq'
    · have e : r' ≠ r := fun e => hr (by rw [← e]; exact hr')
      simp [Gs.delPl, upd_other e]
      exact h.old r' hr'
/-- What an End leaves. -/
def EndR (s : Gs) (m : Ms) (x : Int) (rs : List Rs) (L : List Int) (LR : List Rs) (s' : Gs) (out : List Int) : Prop := s'.own = s.own ∧ ∃ m', endM m x rs = (m', out) ∧ Abs s' m' ∧ Iv m' L LR ∧ out.Nodup ∧ (∀ y ∈ out, ∃ p, m'.lv y = some p ∧ p.goal = 0) ∧ (∀ z, m'.lv z = if z ∈ out then ((mDel m x).lv z).map Pm.got else (mDel m x).lv z) ∧ ∀ y ∈ out, ∃ b, (mDel m x).lv y = some b ∧ b.goal ≠ 0
theorem end_ok {t : Nat} {s : Gs} {x : Int} {p : Pt} {m : Ms} {L : List Int} {LR : List Rs} (hA : Abs s m) (hI : Iv m L LR) (hp : s.lv x = some p) (hL : L.length < 4099999999999) (hLR : LR.length < 4099999999999) (hgl : s.own 1 = none ∧ s.own 0 = none) (rs : List Rs) (hnd : rs.Nodup) (hmem : ∀ r, r ∈ rs ↔ p.hf r ≠ 0 ∨ (p.goal ≠ 0 ∧ r = p.at_)) : EndOk t x (s.delPt x) rs (EndR s m x rs L LR) := by
  have hpm := hA.at hp
  have hpi := hI.lv x p.m hpm
  have hmx : (4099999999999 : Nat) ≤ maxLen := of_decide_eq_true (by kernel_rfl)
  have hreq : ∀ r g, (x, g) ∈ m.qs r → r ∈ rs := fun r g hq => by
    obtain ⟨p', h1, h2, h3, h4⟩ := (hI.qm r x g).1 hq
    rw [hpm] at h1; cases h1
    exact (hmem r).2 (.inr ⟨by rw [show p.goal = g from h2]; exact h3, h4.symm⟩)
  have hgood : ∀ r ∈ rs, GoodR r LR := fun r hr => by
    rcases (hmem r).1 hr with hh | ⟨h1, h2⟩
    · exact (hpi.hf r hh).2
    · rw [h2]; exact (hpi.g1 h1).2
  refine ⟨fun n s' out => s'.own = s.own ∧ ∃ m', endM m x (rs.take n) = (m', out) ∧ AbsE s' m' m x (rs.drop n) none ∧ Iw m' L LR ∧ (∀ r, r ∉ rs.drop n → BlA m' r (m'.qs r).length) ∧ out.Nodup ∧ (∀ y ∈ out, ∃ p, m'.lv y = some p ∧ p.goal = 0) ∧ (∀ z, m'.lv z = if z ∈ out then ((mDel m x).lv z).map Pm.got else (mDel m x).lv z) ∧ ∀ y ∈ out, ∃ b, (mDel m x).lv y = some b ∧ b.goal ≠ 0, ⟨rfl, mDel m x, rfl, ⟨fun y => ?_, fun r q hr hq => ?_, fun r hr hq => ?_, fun r hr => ?_⟩, iw_del hI, fun r hr => ?_, List.nodup_nil, (fun y hy => by cases hy), fun z => by simp, fun y hy => by cases hy⟩, ?_, ?_⟩
  · by_cases e : y = x
    · subst e; simp [Gs.delPt, mDel]
    · simp [Gs.delPt, mDel, upd_other e]; exact hA.lv y
  · obtain ⟨h1, h2, h3⟩ := hA.yes r q hq
    rw [List.drop_zero] at hr
    have h0 : m.hl r x = 0 := Decidable.byContradiction fun hh => hr ((hmem r).2 (.inl (by rw [hl_some hpm] at hh; exact hh)))
    have e2 : (mDel m x).hl r = m.hl r := by
      rw [mDel_hl]
      refine funext fun z => ?_
      by_cases e : z = x
      · rw [e, upd_same, h0]
      · rw [upd_other e]
    rw [e2]
    exact ⟨h1, h2.trans (noX_none (fun g hg => hr (hreq r g hg))).symm, fun _ => h3⟩
  · obtain ⟨h1, h2⟩ := hA.no r hq
    refine ⟨fun y => ?_, ?_⟩
    · rw [mDel_hl]
      by_cases e : y = x
      · rw [e, upd_same]
      · rw [upd_other e]; exact h1 y
    · show noX x (m.qs r) = []
      rw [h2]; rfl
  · rw [List.drop_zero] at hr
    refine ⟨?_, mDel_hl r, rfl⟩
    cases e : s.pl r with
    | some q => exact ⟨q, e, (hA.yes r q e).1, (hA.yes r q e).2.1⟩
    | none =>
      obtain ⟨h1, h2⟩ := hA.no r e
      exfalso
      rcases (hmem r).1 hr with hh | ⟨hh, hh2⟩
      · have := h1 x
        rw [hl_some hpm] at this
        exact hh this
      · have := (hI.qm r x p.goal).2 ⟨p.m, hpm, rfl, hh, hh2.symm⟩
        rw [h2] at this; cases this
  · rw [List.drop_zero] at hr
    exact bla_del hI (Decidable.byContradiction fun hh => hr ((hmem r).2 (.inl (by rw [hl_some hpm] at hh; exact hh)))) (fun g hg => hr (hreq r g hg)) _
  · rintro s' out ⟨ho, m', he, hE, hW, hB, hn, hoo, hle, hgn⟩
    rw [List.take_length] at he
    rw [List.drop_length] at hE hB
    refine ⟨ho, m', he, ⟨hE.lv, fun r q hq => ?_, fun r hq => hE.no r (by simp) hq⟩, hW.v (fun r => hB r (by simp)), hn, hoo, hle, hgn⟩
    obtain ⟨h1, h2, h3⟩ := hE.yes r q (by simp) hq
    exact ⟨h1, h2, h3 (by simp)⟩
  · rintro n r s' out hr ⟨ho, m', he, hE, hW, hB, hn, hoo, hle, hgn⟩
    obtain ⟨hlt, hre⟩ := List.getElem?_eq_some_iff.1 hr
    have hdr : rs.drop n = r :: rs.drop (n + 1) := by rw [← hre]; exact List.drop_eq_getElem_cons hlt
    have hrr : r ∈ rs := List.mem_of_getElem? hr
    have hrn : r ∉ rs.drop (n + 1) := by
      have h1 : (rs.drop n).Nodup := hnd.sublist (List.drop_sublist _ _)
      rw [hdr] at h1
      exact (List.nodup_cons.1 h1).1
    rw [hdr] at hE hB
    obtain ⟨⟨q, hq, hq1, hq2⟩, hq3, hq4⟩ := hE.old r (List.mem_cons_self ..)
    have hqn : (q.qs.map Prod.fst).Nodup := by rw [hq2]; exact hI.qn r
    have hql : q.qs.length < 4099999999999 := by rw [hq2]; exact Nat.lt_of_le_of_lt (hI.w.len r) hL
    refine ⟨(hgood r hrr).2.1, q, fun s5 => s5.own = s.own ∧ AbsE s5 m' m x (rs.drop (n + 1)) (some r) ∧ ∃ q5, s5.pl r = some q5, hq, fun W hT => ?_, ?_⟩
    · by_cases hx : ∃ g, (x, g) ∈ q.qs
      · obtain ⟨g, hx⟩ := hx
        obtain ⟨k, hk⟩ := List.mem_iff_getElem?.1 hx
        have hkl := (List.getElem?_eq_some_iff.1 hk).1
        refine (leave_req t s' x r q W hT hpi.xr hq k hkl (fun o ho2 => by rw [hk] at ho2; cases ho2; rfl) (fun j o hj ho2 e => hj (nodup_at hqn (show q.qs[j]? = some (x, o.2) by rw [ho2, ← e]) hk)) (by omega)).mono ?_
        rintro e w' ⟨rfl, v', T1, E1⟩
        exact ⟨rfl, s'.setPl r { q.hold x 0 with q := v', qs := cutQ q.qs k }, ⟨ho, hE.leave (q5 := { q.hold x 0 with q := v', qs := cutQ q.qs k }) hrn hq rfl (noX_cut hqn hk).symm, _, upd_same _ _ _⟩, rfl, rfl, ⟨_, upd_same _ _ _, rfl⟩, T1, E1⟩
      · refine (leave_none t s' x r q W hT hpi.xr hq (fun o ho2 e => hx ⟨o.2, by rw [← e]; exact ho2⟩) (by omega)).mono ?_
        rintro e w' ⟨rfl, T1, E1⟩
        exact ⟨rfl, s'.setPl r (q.hold x 0), ⟨ho, hE.leave (q5 := q.hold x 0) hrn hq rfl (noX_none (fun g hg => hx ⟨g, hg⟩)).symm, _, upd_same _ _ _⟩, rfl, rfl, ⟨_, upd_same _ _ _, rfl⟩, T1, E1⟩
    · rintro s5 ⟨ho5, hE5, q5, hq5⟩ w3 hT3 hTb3
      refine (serve_gen t s5 r q5 w3 (fun s a o => ∃ m'', SvI s5 m' m x r (rs.drop (n + 1)) L LR out q5.blk s a o m'') L LR hT3 hTb3 (by rw [ho5]; exact hgl) (hgood r hrr).2.1 hq5 ⟨m', rfl, hE5, ⟨q5, hq5, rfl⟩, hW, fun i _ _ hi => absurd hi (Nat.not_lt_zero i), Nat.zero_le _, rfl, by rw [List.append_nil]; exact hn, by rw [List.append_nil]; exact hoo, fun _ _ _ hb => hb, fun _ _ => rfl, by rw [List.append_nil]; exact hle, by rw [List.append_nil]; exact hgn⟩ (srv_ok hL hrn) (by omega) (by omega)).mono ?_
      rintro e w' ⟨u, s6, a, zs, q6, rfl, ⟨m6, h6⟩, hq6, ha, hrow, T6, E6⟩
      obtain ⟨g1, g2, -⟩ := h6.ab.yes r q6 hrn hq6
      have ha6 : a = (m6.qs r).length := by rw [ha, g2]
      have heq := h6.eq
      rw [ha6, Nat.sub_self] at heq
      have heq : (m6, zs) = srvM r (m'.qs r).length m' 0 [] := heq
      have hlen := nodup_len _ L h6.nd (fun y hy => by
        obtain ⟨p', hp', -⟩ := h6.oo y hy
        exact (h6.iw.lv y p' hp').xl)
      rw [List.length_append] at hlen
      have hbl := h6.bl
      rw [ha6] at hbl
      have hown : (endPl s6 r q6).own = s6.own := by
        by_cases hz : ∃ z, q6.hf z ≠ 0
        · rw [endPl_yes hz]
        · rw [endPl_no hz]; rfl
      refine ⟨u, zs, endPl s6 r q6, rfl, by omega, hrow, T6, E6, by rw [hown, h6.own, ho5], m6, ?_, h6.ab.served hrn hq6 hbl, h6.iw, fun r' hr' => ?_, h6.nd, h6.oo, h6.lve, h6.gn⟩
      · rw [endM_step hr, he]
        unfold endF
        rw [← heq]
      · by_cases e : r' = r
        · rw [e]; exact hbl
        · rw [h6.oq r' e]
          exact h6.ot r' e _ (hB r' (by simp [e, hr']))
end
open Go.RowKit

/-- Who is wounded now, and was not. -/
def Newly (m m' : Ms) (y : Int) : Prop := ∃ b b', m.lv y = some b ∧ m'.lv y = some b' ∧ b.hurt = false ∧ b'.hurt = true
/-- What an ask does. -/
def AskT (m : Ms) (x : Int) (p : Pm) (r : Rs) (g : Int) (k : Int) (l : List Int) (m' : Ms) : Prop :=
  (((¬ ∃ y, inW (m.hl r) (m.qs r) x g (turnM m r x) y) ∧ k = 1 ∧ m' = mGrant m x p r g (turnM m r x)) ∨ ((∃ y, inW (m.hl r) (m.qs r) x g (turnM m r x) y) ∧ k = 2 ∧ m' = mWait m x p r g (turnM m r x))) ∧
  l.Pairwise (· < ·) ∧ ∀ y, y ∈ l ↔ Newly m m' y
theorem srt_lt {zs : List Int} (h : zs.Nodup) : (srt zs).Pairwise (· < ·) := by
  have h1 := srt_up zs
  have h2 : (srt zs).Nodup := (srt_perm zs).nodup_iff.2 h
  exact (h1.and h2).imp (fun ⟨a, b⟩ => by omega)
section
variable {s s1 : Gs} {m : Ms} {p : Pt}
theorem can_same (hl : s1.lv = s.lv) (hA : Abs s m) (st g : Int) (o : Int × Int) : canB s1 st g o = canM m st g o := by
  unfold canB canM
  rw [hl, ← hA.lv]
  cases s.lv o.1 with
  | none => rfl
  | some b => simp only [Option.map_some, Pt.m_hurt]; rfl
theorem hits_ag (s1 : Gs) (g : Int) : ∀ (l : List (Int × Int)) (p : Pt), (hitsL s1 g p l).at_ = p.at_ ∧ (hitsL s1 g p l).goal = p.goal
  | [], _ => ⟨rfl, rfl⟩
  | o :: l, p => by
    have e : hitsL s1 g p (o :: l) = hitsL s1 g (if canB s1 p.stamp g o then p.hit o.1 else p) l := rfl
    obtain ⟨h1, h2⟩ := hits_ag s1 g l (if canB s1 p.stamp g o then p.hit o.1 else p)
    rw [e, h1, h2]
    split <;> exact ⟨rfl, rfl⟩
theorem hits_m (hl : s1.lv = s.lv) (hA : Abs s m) (g : Int) (l : List (Int × Int)) : (hitsL s1 g p l).m = paM m p.m g l := by
  obtain ⟨h1, -, -, -, -, h5⟩ := hitsL_same s1 g p l
  obtain ⟨h6, h7⟩ := hits_ag s1 g l p
  have hw : (hitsL s1 g p l).wd = fun y => p.wd y || l.any fun o => decide (o.1 = y) && canM m p.stamp g o := funext fun y => by
    rw [hits_wd]
    simp only [can_same hl hA]
  unfold Pt.m paM
  rw [h1, h5, h6, h7, hw]
theorem out_m (hl : s1.lv = s.lv) (hA : Abs s m) (g x : Int) (l : List (Int × Int)) (y : Int) : y ∈ outL s1 g x p l ↔ y = x ∧ p.hurt = false ∧ (paM m p.m g l).hurt = true := by
  have h1 := hitsL_hurt s1 g p l
  rw [← Pt.m_hurt, hits_m hl hA] at h1
  unfold outL
  rw [h1]
  cases p.hurt <;> cases l.any (canB s1 p.stamp g) <;> simp
end
theorem mGrant_y {m : Ms} {x y : Int} {p : Pm} {r : Rs} {g : Int} {a : Nat} (e : y ≠ x) : (mGrant m x p r g a).lv y = m.lv y := upd_other e
theorem mGrant_x {m : Ms} {x : Int} {p : Pm} {r : Rs} {g : Int} {a : Nat} : (mGrant m x p r g a).lv x = some { paM m p g ((m.qs r).drop a) with hf := upd p.hf r g, at_ := r0, goal := 0 } := upd_same _ _ _
theorem hurt_wd {p q : Pm} (h : p.wd = q.wd) : p.hurt = q.hurt := by
  unfold Pm.hurt
  rw [h]
theorem hit_hurt (x : Int) (b : Pm) : (b.hit x).hurt = true := Pm.hurt_iff.2 ⟨x, by simp [Pm.hit]⟩
set_option maxHeartbeats 1000000 in
theorem ask_in {t : Nat} {s : Gs} {x : Int} {p : Pt} {m : Ms} {L : List Int} {LR : List Rs} {r : Rs} {g : Int} {w : World} (h : TT w t s) (ht : Tb w) (hgl : s.own 1 = none ∧ s.own 0 = none) (hA : Abs s m) (hI : Iv m L LR) (hp : s.lv x = some p) (hg0 : p.goal = 0) (hr : GoodR r LR) (hg : g ≠ 0) (hL : L.length < 2000000000000) (hLR : LR.length < 2000000000000) :
    Calls Tryz.prog 34 #[ptr t, r.v, .agg #[I x, I g]] w fun e w' => ∃ (k : Int) (u : Value) (l : List Int) (s' : Gs) (m' : Ms), e = .returned (.tuple #[I k, u]) ∧ w'.ownsRow w.heap.size 3 1 u l.length (l.map fun z => I z) ∧ TT w' t s' ∧ Ext w w' s s' ∧ Abs s' m' ∧ AskT m x p.m r g k l m' := by
  have hpm := hA.at hp
  have hpi := hI.lv x p.m hpm
  have hnq := no_req hI hpm hg0
  have hmx : (4100000000000 : Nat) ≤ maxLen := of_decide_eq_true (by kernel_rfl)
  have hql := hI.w.len r
  have hqo : ∀ o ∈ m.qs r, o.1 ≠ x ∧ R64 o.1 ∧ (∃ b, s.lv o.1 = some b ∧ ∀ y, b.wd y = true → R64 y) ∧ o.1 ∈ L := fun o ho => by
    obtain ⟨b, hb, -⟩ := (hI.qm r o.1 o.2).1 ho
    have hbi := hI.lv o.1 b hb
    obtain ⟨b', hb', rfl⟩ := hA.of hb
    exact ⟨fun e => hnq r o.2 (by rw [← e]; exact ho), hbi.xr, ⟨b', hb', fun y hy => (hbi.wd y hy).1⟩, hbi.xl⟩
  refine (ask_gen t s x g r p w (fun s1 q => q.hf = m.hl r ∧ q.qs = m.qs r ∧ s1.pl r = some q ∧ s1.lv = s.lv ∧ ∀ r', r' ≠ r → s1.pl r' = s.pl r') h ht hgl hpi.xr hp (fun y hy => (hpi.wd y hy).1) ?_ L (fun y hy => (hpi.wd y hy).2) (by omega) L ?_ (by omega) ?_ L ?_ hpi.xl (by omega) ?_ LR (fun z hz => (hpi.hf z hz).2.1) (by omega) hr.2.1 hg ?_ ?_).mono ?_
  · intro wA hT
    cases hq : s.pl r with
    | some q =>
      obtain ⟨h1, h2, -⟩ := hA.yes r q hq
      refine (placeOf_there t s r q wA hT hr.2.1 hq).mono ?_
      rintro e w' ⟨rfl, gw⟩
      exact ⟨s, q, rfl, hT.G gw, hq, rfl, G.ext s gw, h1, h2, hq, rfl, fun _ _ => rfl⟩
    | none =>
      obtain ⟨h1, h2⟩ := hA.no r hq
      refine (placeOf_new t s r wA hT hr.2.1 hq LR (fun r' hr' => ?_) (by omega)).mono ?_
      · cases hq' : s.pl r' with
        | none => exact absurd hq' hr'
        | some q' =>
          obtain ⟨-, -, y, hy⟩ := hA.yes r' q' hq'
          obtain ⟨b, hb, hbf⟩ := hl_live hy
          exact ((hI.lv y b hb).hf r' hbf).2.1
      · rintro e w' ⟨s', q, rfl, hT', ⟨-, n1, n2⟩, hpl, hlv, hE⟩
        have hplr : s'.pl r = some q := by rw [hpl, upd_same]
        exact ⟨s', q, rfl, hT', hplr, hlv, hE, funext fun z => by rw [n1, h1], by rw [n2, h2], hplr, hlv, fun r' e => by rw [hpl, upd_other e]⟩
  · rintro s1 q ⟨h1, -⟩ z hz
    rw [h1] at hz
    obtain ⟨b, hb, -⟩ := hl_live hz
    exact ⟨(hI.lv z b hb).xl, (hI.lv z b hb).xr⟩
  · rintro s1 q ⟨-, h2, -⟩; rw [h2]; omega
  · rintro s1 q ⟨h1, h2, -⟩ y hy
    rw [h1, h2] at hy
    obtain ⟨e, b, hb⟩ := hI.way (fun j g' _ hj => hnq r g' (List.mem_of_getElem? hj)) hy
    have hbi := hI.lv y b hb
    obtain ⟨b', hb', rfl⟩ := hA.of hb
    exact ⟨e, hbi.xr, b', hb', hbi.wd⟩
  · rintro s1 q ⟨-, h2, -⟩; rw [h2]; omega
  · rintro s1 q ⟨-, h2, -⟩
    rw [h2]
    exact ⟨fun o ho => (hqo o ho).2.1, by omega⟩
  · rintro s1 q ⟨-, h2, -⟩ o ho
    rw [h2] at ho
    exact hqo o ho
  · rintro e w' ⟨s1, q, u, ⟨h1, h2, h3, h4, h5⟩, a, PA, ol, ha, hPA, hol, hcase⟩
    have hta : a = turnM m r x := by rw [ha]; unfold turnN turnM; rw [h1, h2]
    rw [h2] at hPA hol
    have hPm : PA.m = paM m p.m g ((m.qs r).drop a) := by rw [hPA]; exact hits_m h4 hA g _
    have hom : ∀ y, y ∈ ol ↔ y = x ∧ p.hurt = false ∧ (paM m p.m g ((m.qs r).drop a)).hurt = true := fun y => by rw [hol]; exact out_m h4 hA g x _ y
    have hol1 : ol = [] ∨ ol = [x] := by
      rw [hol]; unfold outL
      split
      · exact .inr rfl
      · exact .inl rfl
    have hph : PA.hf = p.hf := congrArg Pm.hf hPm
    have hPh : PA.hurt = (paM m p.m g ((m.qs r).drop a)).hurt := by rw [← Pt.m_hurt, hPm]
    rcases hcase with ⟨hb, rfl, hrow, hT, hE⟩ | ⟨hb, s2, q2, s4, zs, rfl, hrow, e1, e2, e3, e4, hW, hT, hE⟩
    · have hnb : ¬ ∃ y, inW (m.hl r) (m.qs r) x g a y := fun hh => by
        rw [← h1, ← h2] at hh
        rw [blkB_yes hh] at hb; cases hb
      refine ⟨1, u, ol, _, mGrant m x p.m r g a, rfl, hrow, hT, hE, ⟨fun y => ?_, fun r' q' hq' => ?_, fun r' hq' => ?_⟩, .inl ⟨by rw [← hta]; exact hnb, rfl, by rw [← hta]⟩, ?_, fun y => ?_⟩
      · by_cases e : y = x
        · subst e
          rw [mGrant_x, ← hPm]
          simp [Gs.setPt, Gs.setPl, Pt.m, Pt.hold, Pt.rest, hph]
        · rw [mGrant_y e, ← hA.lv y, ← h4]
          simp [Gs.setPt, Gs.setPl, upd_other e]
      · by_cases e : r' = r
        · subst e
          simp [Gs.setPt, Gs.setPl] at hq'
          subst hq'
          refine ⟨?_, h2, x, ?_⟩
          · refine funext fun y => ?_
            rw [mGrant_hl hpm]
            show upd q.hf x g y = _
            by_cases ey : y = x
            · rw [if_pos ey, ey, upd_same, upd_same]
            · rw [if_neg ey, upd_other ey, h1]
          · rw [mGrant_hl hpm, if_pos rfl, upd_same]; exact hg
        · simp [Gs.setPt, Gs.setPl, upd_other e] at hq'
          rw [h5 r' e] at hq'
          have e1 : (mGrant m x p.m r g a).hl r' = m.hl r' := funext fun y => by
            rw [mGrant_hl hpm]
            by_cases ey : y = x
            · rw [if_pos ey, upd_other e, ey, hl_some hpm]
            · rw [if_neg ey]
          rw [e1]
          exact hA.yes r' q' hq'
      · by_cases e : r' = r
        · subst e
          simp [Gs.setPt, Gs.setPl] at hq'
        · simp [Gs.setPt, Gs.setPl, upd_other e] at hq'
          rw [h5 r' e] at hq'
          have e1 : (mGrant m x p.m r g a).hl r' = m.hl r' := funext fun y => by
            rw [mGrant_hl hpm]
            by_cases ey : y = x
            · rw [if_pos ey, upd_other e, ey, hl_some hpm]
            · rw [if_neg ey]
          rw [e1]
          exact hA.no r' hq'
      · rcases hol1 with e | e <;> rw [e] <;> simp
      · rw [hom]
        constructor
        · rintro ⟨rfl, h6, h7⟩
          exact ⟨p.m, _, hpm, mGrant_x, by rw [Pt.m_hurt]; exact h6, h7⟩
        · rintro ⟨b, b', hb1, hb2, hb3, hb4⟩
          by_cases e : y = x
          · subst e
            rw [mGrant_x] at hb2
            rw [hpm] at hb1
            cases hb1; cases hb2
            exact ⟨rfl, by rw [← Pt.m_hurt]; exact hb3, hb4⟩
          · rw [mGrant_y e, hb1] at hb2
            cases hb2
            rw [hb3] at hb4; cases hb4
    · have hbk : ∃ y, inW (m.hl r) (m.qs r) x g a y := by
        rw [← h1, ← h2]
        cases Classical.em (∃ z, inW q.hf q.qs x g a z) with
        | inl hh => exact hh
        | inr hh => rw [blkB_no hh] at hb; cases hb
      rw [h1, h2] at hW
      have hxn : ∀ y, inW (m.hl r) (m.qs r) x g a y → y ≠ x := fun y hy => (hI.way (fun j g' _ hj => hnq r g' (List.mem_of_getElem? hj)) hy).1
      have hPst : PA.stamp = p.stamp := congrArg Pm.stamp hPm
      have hBm : ({ PA with at_ := r, goal := g } : Pt).m = { paM m p.m g ((m.qs r).drop a) with at_ := r, goal := g } := by rw [← hPm]; rfl
      have hBh : ({ PA with at_ := r, goal := g } : Pt).hurt = (paM m p.m g ((m.qs r).drop a)).hurt := by rw [← Pt.m_hurt, hBm]; rfl
      have hBs : ({ PA with at_ := r, goal := g } : Pt).stamp = p.stamp := hPst
      generalize ({ PA with at_ := r, goal := g } : Pt) = PB at hW hBm hBh hBs
      have h3x : (s2.setPt x PB).lv x = some PB := upd_same _ _ _
      have h3y : ∀ y, y ≠ x → (s2.setPt x PB).lv y = s.lv y := fun y e => by
        have : (s2.setPt x PB).lv y = s2.lv y := upd_other e
        rw [this, e1]
        have : (s1.setPt x PA).lv y = s1.lv y := upd_other e
        rw [this, h4]
      have K : s4.pl = s2.pl ∧ (∀ y, (s4.lv y).map Pt.m = (mWait m x p.m r g a).lv y) ∧ zs.Pairwise (· < ·) ∧ (∀ y, y ∈ zs ↔ (paM m p.m g ((m.qs r).drop a)).hurt = false ∧ inW (m.hl r) (m.qs r) x g a y ∧ ∃ b, m.lv y = some b ∧ p.stamp < b.stamp ∧ b.hurt = false) := by
        rcases hW with ⟨g1, rfl, rfl⟩ | ⟨g1, xs, hxs, rfl, rfl⟩
        · rw [hBh] at g1
          refine ⟨rfl, fun y => ?_, .nil, fun y => ⟨fun hh => (by cases hh), fun hh => by rw [g1] at hh; cases hh.1⟩⟩
          by_cases e : y = x
          · subst e; rw [h3x, mWait_x, ← hBm]; rfl
          · rw [h3y y e, mWait_y e, hA.lv y]
            cases m.lv y with
            | none => rfl
            | some b =>
              simp only [Option.map_some]
              rw [hitIf_neg (fun hh => by have := hh.1; rw [g1] at this; cases this)]
        · rw [hBh] at g1
          obtain ⟨k1, k2, k3⟩ := wbL_set x PB.stamp (s2.setPt x PB) xs
          refine ⟨(wbL_keeps x PB.stamp (s2.setPt x PB) xs).2.1, fun y => ?_, srt_lt k2, fun y => ?_⟩
          · rw [k1 y]
            by_cases e : y = x
            · subst e
              rw [h3x, mWait_x, ← hBm]
              simp only [Option.map_some]
              rw [if_neg (fun hh => hxn y ((hxs y).1 hh.1) rfl)]
            · rw [h3y y e, mWait_y e, ← hA.lv y]
              cases s.lv y with
              | none => rfl
              | some b =>
                simp only [Option.map_some]
                rw [hBs]
                by_cases hc : y ∈ xs ∧ p.stamp < b.stamp
                · rw [if_pos hc, hitIf_pos ⟨g1, (hxs y).1 hc.1, hc.2⟩]
                · rw [if_neg hc, hitIf_neg (fun hh => hc ⟨(hxs y).2 hh.2.1, hh.2.2⟩)]
          · rw [(srt_perm _).mem_iff, k3 y, hxs y, hBs]
            constructor
            · rintro ⟨j1, b, j2, j3, j4⟩
              rw [h3y y (hxn y j1)] at j2
              exact ⟨g1, j1, b.m, hA.at j2, j3, by rw [Pt.m_hurt]; exact j4⟩
            · rintro ⟨-, j1, b, j2, j3, j4⟩
              obtain ⟨b', j5, rfl⟩ := hA.of j2
              exact ⟨j1, b', by rw [h3y y (hxn y j1)]; exact j5, j3, by rw [← Pt.m_hurt]; exact j4⟩
      obtain ⟨K1, K2, K3, K4⟩ := K
      have hhl := mWait_hl (r := r) (g := g) (a := a) hpm
      have hqr : (mWait m x p.m r g a).qs r = putQ (m.qs r) a x g := upd_same _ _ _
      have hqo2 : ∀ r', r' ≠ r → (mWait m x p.m r g a).qs r' = m.qs r' := fun r' e => upd_other e
      have hhold : ∃ y, m.hl r y ≠ 0 := by
        cases hq0 : s.pl r with
        | some q0 => exact (hA.yes r q0 hq0).2.2
        | none =>
          obtain ⟨n1, n2⟩ := hA.no r hq0
          obtain ⟨y, hy⟩ := hbk
          rcases hy with ⟨hy, -⟩ | ⟨j, g', -, hj, -⟩
          · exact ⟨y, hy⟩
          · rw [n2] at hj; cases hj
      refine ⟨2, u, ol ++ zs, s4, mWait m x p.m r g a, rfl, hrow, hT, hE, ⟨K2, fun r' q' hq' => ?_, fun r' hq' => ?_⟩, .inr ⟨by rw [← hta]; exact hbk, rfl, by rw [← hta]⟩, ?_, fun y => ?_⟩
      · rw [K1, e2] at hq'
        rw [hhl]
        by_cases e : r' = r
        · subst e
          rw [upd_same] at hq'
          cases hq'
          exact ⟨e3.trans h1, by rw [e4, h2, hqr], hhold⟩
        · rw [upd_other e, h5 r' e] at hq'
          rw [hqo2 r' e]
          exact hA.yes r' q' hq'
      · rw [K1, e2] at hq'
        rw [hhl]
        by_cases e : r' = r
        · subst e
          rw [upd_same] at hq'
          cases hq'
        · rw [upd_other e, h5 r' e] at hq'
          rw [hqo2 r' e]
          exact hA.no r' hq'
      · rcases hol1 with e | e
        · rw [e]; exact K3
        · have hh := ((hom x).1 (by rw [e]; exact List.mem_singleton.2 rfl)).2.2
          have hz : zs = [] := List.eq_nil_iff_forall_not_mem.2 (fun y hy => by
            have := ((K4 y).1 hy).1
            rw [hh] at this; cases this)
          rw [e, hz]; simp
      · rw [List.mem_append, hom, K4]
        constructor
        · rintro (⟨rfl, h6, h7⟩ | ⟨h6, h7, b, h8, h9, h10⟩)
          · exact ⟨p.m, _, hpm, mWait_x, by rw [Pt.m_hurt]; exact h6, h7⟩
          · refine ⟨b, _, h8, by rw [mWait_y (hxn y h7), h8]; rfl, h10, ?_⟩
            show (hitIf ((paM m p.m g ((m.qs r).drop a)).hurt = false ∧ inW (m.hl r) (m.qs r) x g a y ∧ p.m.stamp < b.stamp) x b).hurt = true
            rw [hitIf_pos ⟨h6, h7, h9⟩]
            exact hit_hurt x b
        · rintro ⟨b, b', hb1, hb2, hb3, hb4⟩
          by_cases e : y = x
          · subst e
            rw [mWait_x] at hb2
            rw [hpm] at hb1
            cases hb1; cases hb2
            exact .inl ⟨rfl, by rw [← Pt.m_hurt]; exact hb3, hb4⟩
          · obtain ⟨c, hc1, rfl⟩ := mWait_of e hb2
            rw [hb1] at hc1
            cases hc1
            by_cases hc : (paM m p.m g ((m.qs r).drop a)).hurt = false ∧ inW (m.hl r) (m.qs r) x g a y ∧ p.m.stamp < b.stamp
            · exact .inr ⟨hc.1, hc.2.1, b, hb1, hc.2.2, hb3⟩
            · rw [hitIf_neg hc, hb3] at hb4; cases hb4
end
open Go.RowKit

set_option maxRecDepth 100000 in
set_option maxHeartbeats 1000000 in
theorem Ask_go (t : Nat) (s : Gs) (x m : Int) (r : Rs) (p : Pt) (w : World) (h : TT w t s) (ht : Tb w) (hx : R64 x) (hr : r.ok) (hres : ResP r) (hm : modeB m = true) (hp : s.lv x = some p) (hv g : Int) (hj : joinI hv m = g) (hne : ¬ g = hv) (hgo : p.goal = 0) (hh : p.hf r = hv) (R : Int → Value → World → Prop)
    (KA : ∀ w1, G w w1 → Calls Tryz.prog 34 #[ptr t, r.v, .agg #[I x, I g]] w1 fun e w' => ∃ k u, e = .returned (.tuple #[I k, u]) ∧ R k u w') :
    Calls Tryz.prog 17 #[ptr t, I x, r.v, I m] w fun e w' => ∃ k u, e = .returned (.tuple #[I k, u, I 0]) ∧ R k u w' := by
  have g1 : G w (w.alloc (.cells #[I r.lv, .string r.lb, I r.id] 24)) := (G.refl w).alloc _
  have g2 : G w ((w.alloc (.cells #[I r.lv, .string r.lb, I r.id] 24)).alloc (.cells #[I r.lv, .string r.lb, I r.id] 24)) := g1.alloc _
  have KP := hide (partyOf_any t s x _ (h.G g1) hx)
  rw [hp] at KP
  simp only [ptv, Option.isSome_some, if_true] at KP
  have KR := hide (isRes_any r (w.alloc (.cells #[I r.lv, .string r.lb, I r.id] 24)))
  rw [(resB_iff r).2 hres] at KR
  have KM := hide (isMode_any m ((w.alloc (.cells #[I r.lv, .string r.lb, I r.id] 24)).alloc (.cells #[I r.lv, .string r.lb, I r.id] 24)))
  rw [hm] at KM
  have KJ : Hid (∀ W, G w W → Calls Tryz.prog 33 #[I hv, I m] W fun e w' => e = .returned (I g) ∧ w' = W) := fun W gw => by
    have := joins_any hv m W (ht.G gw)
    rw [hj] at this
    exact this
  have hpo := h.pt x p hp
  have hcell := (hpo.blk.G g2).cell
  have hl := (hpo.hm.G g2).lookN kyR Tryz.underlying64 Tryz.zeroValue3 (kyR_ok.2 hr)
  simp only [nz_get, hh] at hl
  simp only [Pt.cells, hgo] at hcell
  have hrc := ((Blk.new w [I r.lv, .string r.lb, I r.id] 24).G ((G.refl _).alloc (.cells #[I r.lv, .string r.lb, I r.id] 24)))
  have hrc' := hrc.cell
  have HG := hide g2
  have HKA := hide KA
  clear hpo g1 g2 hp h hrc KA ht hx hr hres hm hj hgo hh
  simp only [Rs.v] at hl HKA ⊢
  go_enter Tryz.func17, Tryz.ntmps17
  go_wp2_with (first | (go_at_call 29; refine KP.out.mono ?_; rintro e w' ⟨rfl, rfl⟩) | (go_at_call 31; refine KR.out.mono ?_; rintro e w' ⟨rfl, rfl⟩) | (go_at_call 32; refine KM.out.mono ?_; rintro e w' ⟨rfl, rfl⟩) | fail)
  go_quiet (fail)
  go_wp2_with (first | (go_at_call 33; refine (KJ.out _ (HG.out.drewN _)).mono ?_; rintro e w' ⟨rfl, rfl⟩) | (go_at_call 34; refine (HKA.out _ (HG.out.drewN _)).mono ?_; rintro e w' ⟨k, u, rfl, hR⟩) | fail)
  go_ret3
  exact ⟨k, u, rfl, hR⟩
set_option maxRecDepth 100000 in
set_option maxHeartbeats 1000000 in
theorem Ask_held (t : Nat) (s : Gs) (x m : Int) (r : Rs) (p : Pt) (w : World) (h : TT w t s) (ht : Tb w) (hx : R64 x) (hr : r.ok) (hres : ResP r) (hm : modeB m = true) (hp : s.lv x = some p) (hv g : Int) (hj : joinI hv m = g) (hne : g = hv) (hgo : p.goal = 0) (hh : p.hf r = hv) :
    Calls Tryz.prog 17 #[ptr t, I x, r.v, I m] w fun e w' => e = .returned (.tuple #[I 1, .slice none 0 0, I 0]) ∧ G w w' := by
  have g1 : G w (w.alloc (.cells #[I r.lv, .string r.lb, I r.id] 24)) := (G.refl w).alloc _
  have g2 : G w ((w.alloc (.cells #[I r.lv, .string r.lb, I r.id] 24)).alloc (.cells #[I r.lv, .string r.lb, I r.id] 24)) := g1.alloc _
  have KP := hide (partyOf_any t s x _ (h.G g1) hx)
  rw [hp] at KP
  simp only [ptv, Option.isSome_some, if_true] at KP
  have KR := hide (isRes_any r (w.alloc (.cells #[I r.lv, .string r.lb, I r.id] 24)))
  rw [(resB_iff r).2 hres] at KR
  have KM := hide (isMode_any m ((w.alloc (.cells #[I r.lv, .string r.lb, I r.id] 24)).alloc (.cells #[I r.lv, .string r.lb, I r.id] 24)))
  rw [hm] at KM
  have KJ : Hid (∀ W, G w W → Calls Tryz.prog 33 #[I hv, I m] W fun e w' => e = .returned (I g) ∧ w' = W) := fun W gw => by
    have := joins_any hv m W (ht.G gw)
    rw [hj] at this
    exact this
  have hpo := h.pt x p hp
  have hcell := (hpo.blk.G g2).cell
  have hl := (hpo.hm.G g2).lookN kyR Tryz.underlying64 Tryz.zeroValue3 (kyR_ok.2 hr)
  simp only [nz_get, hh] at hl
  simp only [Pt.cells, hgo] at hcell
  have hrc := ((Blk.new w [I r.lv, .string r.lb, I r.id] 24).G ((G.refl _).alloc (.cells #[I r.lv, .string r.lb, I r.id] 24)))
  have hrc' := hrc.cell
  have HG := hide g2
  clear hpo g1 g2 hp h hrc ht hx hr hres hm hj hgo hh
  subst hne
  simp only [Rs.v] at hl ⊢
  go_enter Tryz.func17, Tryz.ntmps17
  go_wp2_with (first | (go_at_call 29; refine KP.out.mono ?_; rintro e w' ⟨rfl, rfl⟩) | (go_at_call 31; refine KR.out.mono ?_; rintro e w' ⟨rfl, rfl⟩) | (go_at_call 32; refine KM.out.mono ?_; rintro e w' ⟨rfl, rfl⟩) | fail)
  go_quiet (fail)
  go_wp2_with (first | (go_at_call 33; refine (KJ.out _ (HG.out.drewN _)).mono ?_; rintro e w' ⟨rfl, rfl⟩) | fail)
  go_ret3
  exact ⟨rfl, HG.out.drewN _⟩
set_option maxRecDepth 100000 in
set_option maxHeartbeats 1000000 in
theorem Ask_queued (t : Nat) (s : Gs) (x m : Int) (r : Rs) (p : Pt) (w : World) (h : TT w t s) (hx : R64 x) (hres : ResP r) (hm : modeB m = true) (hp : s.lv x = some p) (go : Int) (hgo : p.goal = go) (hg0 : ¬ go = 0) :
    Calls Tryz.prog 17 #[ptr t, I x, r.v, I m] w fun e w' => e = .returned (.tuple #[I 0, .slice none 0 0, I 83]) ∧ G w w' := by
  have g1 : G w (w.alloc (.cells #[I r.lv, .string r.lb, I r.id] 24)) := (G.refl w).alloc _
  have g2 : G w ((w.alloc (.cells #[I r.lv, .string r.lb, I r.id] 24)).alloc (.cells #[I r.lv, .string r.lb, I r.id] 24)) := g1.alloc _
  have KP := hide (partyOf_any t s x _ (h.G g1) hx)
  rw [hp] at KP
  simp only [ptv, Option.isSome_some, if_true] at KP
  have KR := hide (isRes_any r (w.alloc (.cells #[I r.lv, .string r.lb, I r.id] 24)))
  rw [(resB_iff r).2 hres] at KR
  have KM := hide (isMode_any m ((w.alloc (.cells #[I r.lv, .string r.lb, I r.id] 24)).alloc (.cells #[I r.lv, .string r.lb, I r.id] 24)))
  rw [hm] at KM
  have hpo := h.pt x p hp
  have hcell := (hpo.blk.G g2).cell
  simp only [Pt.cells, hgo] at hcell
  have HG := hide g2
  clear hpo g1 g2 hp h hx hres hm hgo
  simp only [Rs.v]
  go_enter Tryz.func17, Tryz.ntmps17
  go_wp2_with (first | (go_at_call 29; refine KP.out.mono ?_; rintro e w' ⟨rfl, rfl⟩) | (go_at_call 31; refine KR.out.mono ?_; rintro e w' ⟨rfl, rfl⟩) | (go_at_call 32; refine KM.out.mono ?_; rintro e w' ⟨rfl, rfl⟩) | fail)
  go_ret3
  exact ⟨rfl, HG.out⟩
end
open Go.RowKit

/-- A table in memory that is m. -/
structure GT (w : World) (t : Nat) (s : Gs) (m : Ms) (L : List Int) (LR : List Rs) : Prop where
  tt : TT w t s
  tb : Tb w
  gl : s.own 1 = none ∧ s.own 0 = none
  ab : Abs s m
  iv : Iv m L LR
theorem turnM_le (m : Ms) (r : Rs) (x : Int) : turnM m r x ≤ (m.qs r).length := by
  unfold turnM
  split
  · exact Nat.le_refl _
  · exact upN_le _ _
theorem r0_ok : r0.ok := by simp [Rs.ok, R64]
section
variable {w w' : World} {t : Nat} {s s' : Gs} {m : Ms} {L : List Int} {LR : List Rs} {x : Int}
theorem GT.G (h : GT w t s m L LR) (g : G w w') : GT w' t s m L LR := ⟨h.tt.G g, h.tb.G g, h.gl, h.ab, h.iv⟩
theorem GT.chg (h : GT w t s m L LR) {D : Nat → Prop} (c : Chg D w w') (hd : ∀ b, D b → s.own b = none ∧ b ≠ 1 ∧ b ≠ 0) : GT w' t s m L LR :=
  ⟨h.tt.chg c (fun b hb => (hd b hb).1), h.tb.keep (c.block _ h.tb.lf (fun e => (hd _ e).2.1 rfl)) (c.block _ h.tb.lj (fun e => (hd _ e).2.2 rfl)) c.size, h.gl, h.ab, h.iv⟩
theorem GT.ext (h : GT w t s m L LR) (E : Ext w w' s s') {m' : Ms} (hT : TT w' t s') (hA : Abs s' m') (hI : Iv m' L LR) : GT w' t s' m' L LR :=
  ⟨hT, h.tb.ext E h.gl, ⟨E.free h.tb.lf h.gl.1, E.free h.tb.lj h.gl.2⟩, hA, hI⟩
def takenM (m : Ms) (x st : Int) : Prop := ∃ y p, m.lv y = some p ∧ (y = x ∨ p.stamp = st)
theorem begin_t (h : GT w t s m L LR) (hx : R64 x) (hx1 : 1 ≤ x) (hxl : x ∈ L) {st : Int} (hs1 : 1 ≤ st) (hL : L.length < 2000000000000) :
    Calls Tryz.prog 14 #[ptr t, I x, I st] w fun e w' => (takenM m x st ∧ e = .returned (I 80) ∧ G w w') ∨ (¬ takenM m x st ∧ e = .returned (I 0) ∧ ∃ s', GT w' t s' (mNew m x st) L LR ∧ Ext w w' s s') := by
  have hmx : (4100000000000 : Nat) ≤ maxLen := of_decide_eq_true (by kernel_rfl)
  have htk : taken s x st ↔ takenM m x st := by
    constructor
    · rintro ⟨y, p, h1, h2⟩; exact ⟨y, p.m, h.ab.at h1, h2⟩
    · rintro ⟨y, p, h1, h2⟩
      obtain ⟨q, h3, rfl⟩ := h.ab.of h1
      exact ⟨y, q, h3, h2⟩
  refine (begin_any t s x st w h.tt hx hx1 hs1 (fun y p hy => (h.iv.lv y p.m (h.ab.at hy)).xr) L (fun y p hy => (h.iv.lv y p.m (h.ab.at hy)).xl) (by omega)).mono ?_
  rintro e w' (⟨h1, h2, -, h4⟩ | ⟨h1, h2, s', p, hT, ⟨n1, n2, n3, n4, n5⟩, h5, h6, hE⟩)
  · exact .inl ⟨htk.1 h1, h2, h4⟩
  · have h1m : ¬ takenM m x st := fun hh => h1 (htk.2 hh)
    have hn : m.lv x = none := by
      cases e : m.lv x with
      | none => rfl
      | some b => exact absurd ⟨x, b, e, .inl rfl⟩ h1m
    refine .inr ⟨h1m, h2, s', h.ext hE hT ⟨fun y => ?_, ?_, ?_⟩ (iv_new h.iv hx1 hx hxl hs1 hn (fun y b hb e => h1m ⟨y, b, hb, .inr e⟩)), hE⟩
    · rw [h5]
      by_cases e : y = x
      · subst e
        rw [upd_same]
        show some p.m = (upd m.lv y _) y
        rw [upd_same]
        have e1 : p.hf = fun _ => 0 := funext n2
        have e2 : p.wd = fun _ => false := funext n5
        unfold Pt.m
        rw [n1, e1, n3, n4, e2]
      · rw [upd_other e]
        show _ = (upd m.lv x _) y
        rw [upd_other e]
        exact h.ab.lv y
    · rw [h6, mNew_hl hn]; exact h.ab.yes
    · rw [h6, mNew_hl hn]; exact h.ab.no
/-- What an Ask answers and does, where resource and mode are in order. -/
def AskK (m : Ms) (x : Int) (p : Pm) (r : Rs) (mode k : Int) (l : List Int) (c : Int) (m' : Ms) : Prop :=
  (p.goal ≠ 0 ∧ k = 0 ∧ c = 83 ∧ l = [] ∧ m' = m) ∨ (p.goal = 0 ∧ c = 0 ∧ ((joinI (p.hf r) mode = p.hf r ∧ k = 1 ∧ l = [] ∧ m' = m) ∨ (joinI (p.hf r) mode ≠ p.hf r ∧ AskT m x p r (joinI (p.hf r) mode) k l m')))
theorem Ask_t (h : GT w t s m L LR) {pm : Pm} (hpm : m.lv x = some pm) {r : Rs} (hr : GoodR r LR) {mode : Int} (hm : modeB mode = true) (hL : L.length < 2000000000000) (hLR : LR.length < 2000000000000) :
    Calls Tryz.prog 17 #[ptr t, I x, r.v, I mode] w fun e w' => ∃ (k : Int) (u : Value) (l : List Int) (c : Int) (s' : Gs) (m' : Ms), e = .returned (.tuple #[I k, u, I c]) ∧ w'.ownsRow w.heap.size 3 1 u l.length (l.map fun z => I z) ∧ GT w' t s' m' L LR ∧ Ext w w' s s' ∧ AskK m x pm r mode k l c m' := by
  obtain ⟨p, hp, rfl⟩ := h.ab.of hpm
  have hpi := h.iv.lv x p.m hpm
  by_cases hgo : p.goal = 0
  · by_cases hj : joinI (p.hf r) mode = p.hf r
    · refine (Ask_held t s x mode r p w h.tt h.tb hpi.xr hr.2.1 hr.2.2 hm hp (p.hf r) _ rfl hj hgo rfl).mono ?_
      rintro e w' ⟨rfl, g⟩
      exact ⟨1, _, [], 0, s, m, rfl, ⟨rfl, .inl ⟨rfl, rfl⟩⟩, h.G g, G.ext s g, .inr ⟨hgo, rfl, .inl ⟨hj, rfl, rfl, rfl⟩⟩⟩
    · have hm0 : p.hf r = 0 ∨ modeB (p.hf r) = true := by
        have := h.iv.mode r x
        rw [hl_some hpm r] at this
        exact this
      have hgm : modeB (joinI (p.hf r) mode) = true := joinI_mode hm0 hm
      refine (Ask_go t s x mode r p w h.tt h.tb hpi.xr hr.2.1 hr.2.2 hm hp (p.hf r) _ rfl hj hgo rfl (fun k u w' => ∃ (l : List Int) (s' : Gs) (m' : Ms), w'.ownsRow w.heap.size 3 1 u l.length (l.map fun z => I z) ∧ GT w' t s' m' L LR ∧ Ext w w' s s' ∧ AskT m x p.m r (joinI (p.hf r) mode) k l m') (fun w1 g1 => ?_)).mono ?_
      · have h1 := h.G g1
        refine (ask_in h1.tt h1.tb h1.gl h1.ab h1.iv hp hgo hr (mode_ne hgm) hL hLR).mono ?_
        rintro e w' ⟨k, u, l, s', m', rfl, hrow, hT, hE, hA, hK⟩
        refine ⟨k, u, rfl, l, s', m', own_lo hrow g1.size, h1.ext hE hT hA ?_, (G.ext s g1).trans hE, hK⟩
        rcases hK.1 with ⟨hnb, -, rfl⟩ | ⟨hb, -, rfl⟩
        · exact iv_grant h.iv hpm hgo hr hm rfl hnb
        · exact iv_wait h.iv hpm hgo hr hm rfl (turnM_le m r x) hb
      · rintro e w' ⟨k, u, rfl, l, s', m', hrow, hG, hE, hK⟩
        exact ⟨k, u, l, 0, s', m', rfl, hrow, hG, hE, .inr ⟨hgo, rfl, .inr ⟨hj, hK⟩⟩⟩
  · refine (Ask_queued t s x mode r p w h.tt hpi.xr hr.2.2 hm hp p.goal rfl hgo).mono ?_
    rintro e w' ⟨rfl, g⟩
    exact ⟨0, _, [], 83, s, m, rfl, ⟨rfl, .inl ⟨rfl, rfl⟩⟩, h.G g, G.ext s g, .inl ⟨hgo, rfl, rfl, rfl, rfl⟩⟩
/-- What an End answers and does. -/
def EndK (m : Ms) (x : Int) (p : Pm) (out : List Int) (m' : Ms) : Prop := ∃ rs : List Rs, rs.Nodup ∧ (∀ r, r ∈ rs ↔ p.hf r ≠ 0 ∨ (p.goal ≠ 0 ∧ r = p.at_)) ∧ rs.Pairwise rLt ∧ endM m x rs = (m', out) ∧ out.Nodup ∧ (∀ y ∈ out, ∃ p, m'.lv y = some p ∧ p.goal = 0) ∧ (∀ z, m'.lv z = if z ∈ out then ((mDel m x).lv z).map Pm.got else (mDel m x).lv z) ∧ ∀ y ∈ out, ∃ b, (mDel m x).lv y = some b ∧ b.goal ≠ 0
theorem End_t (h : GT w t s m L LR) {pm : Pm} (hpm : m.lv x = some pm) (hL : L.length < 2000000000000) (hLR : LR.length < 2000000000000) :
    Calls Tryz.prog 19 #[ptr t, I x] w fun e w' => ∃ (u : Value) (out : List Int) (s' : Gs) (m' : Ms), e = .returned (.tuple #[u, .slice none 0 0, I 0]) ∧ w'.ownsRow w.heap.size 3 1 u out.length (out.map fun z => I z) ∧ GT w' t s' m' L LR ∧ Ext w w' s s' ∧ EndK m x pm out m' := by
  obtain ⟨p, hp, rfl⟩ := h.ab.of hpm
  have hpi := h.iv.lv x p.m hpm
  have hat : p.at_.ok := by
    by_cases hgo : p.goal = 0
    · rw [show p.at_ = r0 from hpi.g0 hgo]; exact r0_ok
    · exact (hpi.g1 hgo).2.2.1
  refine (End_gen t s x p w (fun s' out => ∃ rs : List Rs, (rs.Nodup ∧ (∀ r, r ∈ rs ↔ p.hf r ≠ 0 ∨ (p.goal ≠ 0 ∧ r = p.at_)) ∧ rs.Pairwise rLt) ∧ EndR s m x rs L LR s' out) h.tt h.tb h.gl hpi.xr hp LR (fun r hr => ⟨(hpi.hf r hr).2.1, (hpi.hf r hr).2.2.1⟩) (by omega) hat (fun rs h1 h2 h3 => ?_)).mono ?_
  · obtain ⟨Inv, k1, k2, k3⟩ := end_ok (t := t) h.ab h.iv hp (by omega) (by omega) h.gl rs h1 h2
    exact ⟨Inv, k1, fun s' out hh => ⟨rs, ⟨h1, h2, h3⟩, k2 s' out hh⟩, k3⟩
  · rintro e w' ⟨u, out, s', rfl, hrow, hT, hE, rs, ⟨h1, h2, h3⟩, -, m', h4, hA, hI, h5, h6, h7⟩
    exact ⟨u, out, s', m', rfl, hrow, h.ext hE hT hA hI, hE, rs, h1, h2, h3, h4, h5, h6, h7⟩
end
end Go.Proofs.YtkbgifhhnnfgoaaGreatDoor
