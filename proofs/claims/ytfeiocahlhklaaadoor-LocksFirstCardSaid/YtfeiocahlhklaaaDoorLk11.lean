/- Locks: isWounded, wound. -/
import Derived.Test.YtfeiocahlhklaaaDoorLk8
namespace Go.Proofs.YtfeiocahlhklaaaDoor
open Go.RowKit

/-- It is wounded. -/
noncomputable def Pt.hurt (p : Pt) : Bool := @decide (∃ y, p.wd y = true) (Classical.propDecidable _)
theorem Pt.hurt_iff {p : Pt} : p.hurt = true ↔ ∃ y, p.wd y = true := ⟨fun h => @of_decide_eq_true _ (Classical.propDecidable _) h, @decide_eq_true _ (Classical.propDecidable _)⟩
theorem Pt.hurt_no {p : Pt} (h : ¬ ∃ y, p.wd y = true) : p.hurt = false := @decide_eq_false _ (Classical.propDecidable _) h
set_option maxRecDepth 100000 in
set_option maxHeartbeats 1000000 in
theorem isWounded_any (p : Pt) (w : World) (hb : Blk w p.blk 47 p.cells) (hm : Mp (fun n : Int => I n) 3 w p.wb (fun y => wdv (p.wd y))) (hR : ∀ y, p.wd y = true → R64 y) : Calls Tryd.prog 35 #[ptr p.blk] w fun e w' => e = .returned (.bool p.hurt) ∧ w' = w := by
  obtain ⟨n, hl, hn⟩ := hm.len kyI Tryd.underlying45 3
  have hc := hb.cell
  simp only [Pt.cells] at hc
  clear hb hm
  by_cases h0 : n = 0
  · have hno : ¬ ∃ y, p.wd y = true := fun ⟨y, hy⟩ => by
      have := hn.1 h0 y (kyI_ok.2 (hR y hy))
      simp [wdv, hy] at this
    rw [Pt.hurt_no hno]
    subst h0
    clear hn hR hno
    go_enter Tryd.func35, Tryd.ntmps35
    go_wp2
    go_ret
    exact ⟨rfl, rfl⟩
  · have hyes : p.hurt = true := Pt.hurt_iff.2 (Classical.byContradiction fun hno => h0 (hn.2 (fun y _ => by
      cases hy : p.wd y with
      | false => simp [wdv]
      | true => exact absurd ⟨y, hy⟩ hno)))
    rw [hyes]
    have hpos : 0 < n := Nat.pos_of_ne_zero h0
    clear hn hR hyes h0
    go_enter Tryd.func35, Tryd.ntmps35
    go_wp2
    go_ret
    exact ⟨rfl, rfl⟩
/-- One wounder more. -/
def Pt.hit (p : Pt) (y : Int) : Pt := { p with wd := upd p.wd y true }
/-- A party's wounders have turned. -/
theorem TT.hit {w w' : World} {t : Nat} {s : Gs} {x y : Int} {p : Pt} (h : TT w t s) (hp : s.lv x = some p) (hm : Mp (fun n : Int => I n) 3 w' p.wb (upd (fun y => wdv (p.wd y)) y (some (.agg #[])))) (hc : Chg (fun k => k = p.wb) w w') (hs : w'.heap.size = w.heap.size) :
    TT w' t { s with lv := upd s.lv x (some (p.hit y)) } ∧ Ext w w' s { s with lv := upd s.lv x (some (p.hit y)) } := by
  have hpo := h.pt x p hp
  have hk : ∀ b tg, s.own b = some tg → tg ≠ .pw x → w'.heap[b]? = w.heap[b]? := fun b tg o hne => hc.block b (h.lt b tg o) (h.ne o hpo.t3 hne)
  refine ⟨⟨h.tb.keep (hk _ _ h.o1 (by simp)), (h.lm.keep (hk _ _ h.o2 (by simp))).congr (fun z => ?_), h.pm.keep (hk _ _ h.o3 (by simp)), fun z q hz => ?_, fun r q hr => ?_, h.o1, h.o2, h.o3, fun b tg o => by rw [hs]; exact h.lt b tg o⟩, ⟨hc.mono (fun b e => by rw [e, hpo.t3]; simp), fun _ _ o => o, fun _ _ o => .inl o⟩⟩
  · by_cases e : z = x
    · subst e; simp [upd_same, hp, Pt.hit]
    · simp [upd_other e]
  · by_cases e : z = x
    · subst e
      simp only [upd_same, Option.some.injEq] at hz
      subst hz
      exact ⟨hpo.blk.keep (hk _ _ hpo.t1 (by simp)), hpo.hm.keep (hk _ _ hpo.t2 (by simp)), hm.congr (fun a => by
        simp only [Pt.hit, upd]
        split <;> simp [wdv]), hpo.t1, hpo.t2, hpo.t3⟩
    · replace hz : upd s.lv x _ z = some q := hz
      rw [upd_other e] at hz
      exact (h.pt z q hz).keep (fun b o => by rcases o with o | o | o <;> exact hk _ _ o (by simp [e]))
  · exact (h.pl r q hr).keep (fun b o => by rcases o with o | o | o <;> exact hk _ _ o (by simp))
set_option maxRecDepth 100000 in
set_option maxHeartbeats 1000000 in
theorem wound_any (t : Nat) (s : Gs) (x y : Int) (p : Pt) (w : World) (h : TT w t s) (hp : s.lv x = some p) (hR : ∀ y, p.wd y = true → R64 y) (hy : R64 y) (L : List Int) (hL : ∀ y, p.wd y = true → y ∈ L) (hl : L.length < maxLen) : Calls Tryd.prog 36 #[ptr p.blk, I y] w fun e w' => e = .returned (.bool (!p.hurt)) ∧ TT w' t { s with lv := upd s.lv x (some (p.hit y)) } ∧ Ext w w' s { s with lv := upd s.lv x (some (p.hit y)) } ∧ Chg (fun k => k = p.wb) w w' ∧ w'.heap.size = w.heap.size := by
  have hpo := h.pt x p hp
  have KW := hide (isWounded_any p w hpo.blk hpo.wm hR)
  have hc := hpo.blk.cell
  simp only [Pt.cells] at hc
  have HM := hide hpo.wm
  have HT := hide h
  have HP := hide hp
  have HL := hide hL
  have HLL := hide hl
  have HY := hide hy
  clear hpo h hp hR hL hl hy
  generalize p.hurt = hh at KW
  go_enter Tryd.func36, Tryd.ntmps36
  go_wp2_with (first | (go_at_call 35; refine KW.out.mono ?_; rintro e w' ⟨rfl, rfl⟩) | (at_mapUpdate; refine wpList_put _ rfl _ _ _ 45 rfl HM.out rfl kyI L (fun z _ hz => HL.out z (by cases e : p.wd z with | true => rfl | false => simp [wdv, e] at hz)) HLL.out Tryd.underlying45 y rfl (kyI_ok.2 HY.out) _ rfl ?_; intro w2 hm2 hch2 hsz2) | go_in)
  go_ret
  have hh := HT.out.hit HP.out hm2 hch2 hsz2
  exact ⟨rfl, hh.1, hh.2, hch2, hsz2⟩
end Go.Proofs.YtfeiocahlhklaaaDoor
