/- Locks: New, partyOf, Begin. -/
import Derived.Test.YtkbgifhhnnfgoaaGreatDoorLk4
import Derived.LoopTactic
namespace Go.Proofs.YtkbgifhhnnfgoaaGreatDoor
open Go.RowKit Go.Maps

theorem G.andc {a b c : World} {F : Nat → Prop} (h : G a b) (k : Chg F b c) (hF : ∀ i, F i → a.heap.size ≤ i) : G a c :=
  ((h.chg (F := fun _ => False)).more k (fun i hi f => by have := hF i f; omega)).G (fun _ f => f.elim)
/-- Some tags more. -/
def own3 (own : Nat → Option Tg) (a b c : Nat) (ta te tc : Tg) : Nat → Option Tg := fun n => if n = a then some ta else if n = b then some te else if n = c then some tc else own n
theorem own3_old {own : Nat → Option Tg} {a b c n : Nat} {ta te tc : Tg} (h1 : n ≠ a) (h2 : n ≠ b) (h3 : n ≠ c) : own3 own a b c ta te tc n = own n := by simp [own3, h1, h2, h3]
theorem own3_inv {own : Nat → Option Tg} {a b c n : Nat} {ta te tc tg : Tg} (h : own3 own a b c ta te tc n = some tg) : n = a ∨ n = b ∨ n = c ∨ own n = some tg := by
  unfold own3 at h
  split at h
  · exact .inl (by assumption)
  · split at h
    · exact .inr (.inl (by assumption))
    · split at h
      · exact .inr (.inr (.inl (by assumption)))
      · exact .inr (.inr (.inr h))
theorem TT.ne {w : World} {t : Nat} {s : Gs} (_h : TT w t s) {a b : Nat} {ta te : Tg} (ha : s.own a = some ta) (hb : s.own b = some te) (hn : ta ≠ te) : a ≠ b := fun e => by
  subst e; rw [ha] at hb; cases hb; exact hn rfl
set_option maxRecDepth 100000 in
set_option maxHeartbeats 1000000 in
theorem new_any (w : World) : Calls Tryz.prog 9 #[] w fun e w' => ∃ t s, e = .returned (ptr t) ∧ TT w' t s ∧ (∀ x, s.lv x = none) ∧ (∀ r, s.pl r = none) ∧ G w w' ∧ w.heap.size ≤ t ∧ (∀ b tg, s.own b = some tg → w.heap.size ≤ b) := by
  have hmm := @run_makeMap Tryz.prog
  go_enter Tryz.func9, Tryz.ntmps9
  go_wp2
  go_ret
  refine ⟨w.heap.size + 2, ⟨w.heap.size, w.heap.size + 1, fun _ => none, fun _ => none, fun b => if b = w.heap.size + 2 then some .tb else if b = w.heap.size then some .lv else if b = w.heap.size + 1 then some .ps else none⟩, ?_, ?_, fun _ => rfl, fun _ => rfl, ?_, by omega, ?_⟩
  · simp [ptr]
  · have g2 := ((G.refl (w.alloc (.map #[] 0))).alloc (.map #[] 0)).alloc (.cells #[.map (some w.heap.size), .map (some (w.heap.size + 1))] 61)
    have m1 := (Mp.made w (fun n : Int => I n) 3).G g2
    have m2 := (Mp.made (w.alloc (.map #[] 0)) Rs.v 24).G ((G.refl _).alloc (.cells #[.map (some w.heap.size), .map (some (w.heap.size + 1))] 61))
    have b3 := Blk.new ((w.alloc (.map #[] 0)).alloc (.map #[] 0)) [.map (some w.heap.size), .map (some (w.heap.size + 1))] 61
    simp only [World.size_alloc] at m2 b3
    refine ⟨b3, m1, m2, fun x p e => (by cases e), fun x p e => (by cases e), by simp, by simp, by simp, fun b tg e => ?_⟩
    simp only [World.size_alloc]
    simp only at e
    split at e
    · omega
    · split at e
      · omega
      · split at e
        · omega
        · cases e
  · exact (((G.refl w).alloc _).alloc _).alloc _
  · intro b tg e
    simp only at e
    split at e
    · omega
    · split at e
      · omega
      · split at e
        · omega
        · cases e
set_option maxRecDepth 100000 in
set_option maxHeartbeats 1000000 in
theorem partyOf_nil (x : Int) (w : World) : Calls Tryz.prog 29 #[.pointer none, I x] w fun e w' => e = .returned (.tuple #[.pointer none, I 1]) ∧ w' = w := by
  go_enter Tryz.func29, Tryz.ntmps29
  go_wp2
  go_ret2
  exact ⟨rfl, rfl⟩
def ptv (p : Option Pt) : Value := match p with | some p => ptr p.blk | none => .pointer none
set_option maxRecDepth 100000 in
set_option maxHeartbeats 1000000 in
theorem partyOf_any (t : Nat) (s : Gs) (x : Int) (w : World) (h : TT w t s) (hx : R64 x) : Calls Tryz.prog 29 #[ptr t, I x] w fun e w' => e = .returned (.tuple #[ptv (s.lv x), I (if (s.lv x).isSome then 0 else 80)]) ∧ w' = w := by
  have hl := h.lm.look kyI Tryz.underlying58 (Tryz.zeroValue63 w) (kyI_ok.2 hx)
  have hc := h.tb.cell
  clear h
  cases hp : s.lv x with
  | none =>
    rw [hp] at hl
    simp only [Option.map_none, Option.getD_none] at hl
    clear hp
    go_enter Tryz.func29, Tryz.ntmps29
    go_wp2
    go_ret2
    exact ⟨rfl, rfl⟩
  | some p =>
    rw [hp] at hl
    simp only [Option.map_some, Option.getD_some, ptr] at hl
    clear hp
    go_enter Tryz.func29, Tryz.ntmps29
    go_wp2
    go_ret2
    exact ⟨rfl, rfl⟩
theorem wpList_put {α : Type} [DecidableEq α] {enc : α → Value} {k : TypeId} {b : Nat} {g : α → Option Value} (w : World) {ops : Array Oper} {rest : List Oper} {o : Oper} {a : Act} {Q : Exit → Act → World → Prop}
    (hg : o.guard = none) (m x v : Operand) (t : TypeId) (hop : o.op = Op.mapUpdate t m x v) (h : Mp enc k w b g) (hm : a.eval m = .map (some b)) (Y : Ky enc k) (L : List α) (hL : ∀ a, KyOk enc k a → g a ≠ none → a ∈ L) (hl : L.length < maxLen)
    {e : TypeId} (ht : Tryz.prog.underlying t = some (.map k e)) (key : α) (hx : a.eval x = enc key) (ha : KyOk enc k key) (val : Value) (hv : a.eval v = val)
    (hK : ∀ w', Mp enc k w' b (upd g key (some val)) → Chg (fun k => k = b) w w' → w'.heap.size = w.heap.size → wpList Tryz.prog ops Q rest (a.put o.dst undef) w') : wpList Tryz.prog ops Q (o :: rest) a w := by
  refine wpList_plain hg fun K' hK' => ?_
  obtain ⟨w', hrun, r1, r2, r3⟩ := h.put Y L hL hl ht ha val
  unfold Oper.wp
  simp [execOp, hop, hm, hx, hv, hrun, Result.andThen]
  exact hK' _ _ (hK w' r1 r2 r3)
/-- Is the number or the stamp taken? -/
def taken (s : Gs) (x st : Int) : Prop := ∃ y p, s.lv y = some p ∧ (y = x ∨ p.stamp = st)
set_option maxRecDepth 100000 in
set_option maxHeartbeats 1000000 in
theorem begin_arg (tv : Value) (x st : Int) (w : World) (h : tv = .pointer none ∨ (∃ t, tv = ptr t) ∧ (x < 1 ∨ st < 1)) : Calls Tryz.prog 14 #[tv, I x, I st] w fun e w' => e = .returned (I 1) ∧ w' = w := by
  rcases h with rfl | ⟨⟨t, rfl⟩, h⟩
  · go_enter Tryz.func14, Tryz.ntmps14
    go_wp2
    go_ret
    exact ⟨rfl, rfl⟩
  · by_cases h1 : x < 1
    · clear h
      go_enter Tryz.func14, Tryz.ntmps14
      go_wp2
      go_ret
      exact ⟨rfl, rfl⟩
    · have h2 : st < 1 := by omega
      clear h
      go_enter Tryz.func14, Tryz.ntmps14
      go_wp2
      go_ret
      exact ⟨rfl, rfl⟩
/-- A new transaction. -/
def Pt.isNew (p : Pt) (st : Int) : Prop := p.stamp = st ∧ (∀ r, p.hf r = 0) ∧ p.at_ = ⟨0, ByteArray.empty, 0⟩ ∧ p.goal = 0 ∧ ∀ y, p.wd y = false
set_option maxRecDepth 100000 in
set_option maxHeartbeats 1000000 in
theorem begin_any (t : Nat) (s : Gs) (x st : Int) (w : World) (h : TT w t s) (hx : R64 x) (x1 : 1 ≤ x) (s1 : 1 ≤ st) (hv : ∀ y p, s.lv y = some p → R64 y) (L : List Int) (hL : ∀ y p, s.lv y = some p → y ∈ L) (hl : L.length < maxLen) : Calls Tryz.prog 14 #[ptr t, I x, I st] w fun e w' =>
    (taken s x st ∧ e = .returned (I 80) ∧ TT w' t s ∧ G w w') ∨ (¬ taken s x st ∧ e = .returned (I 0) ∧ ∃ s' p, TT w' t s' ∧ p.isNew st ∧ s'.lv = upd s.lv x (some p) ∧ s'.pl = s.pl ∧ Ext w w' s s') := by
  obtain ⟨w0, cnt0, hrun0, hrg0, hg0, hs0⟩ := h.lm.range kyI Tryz.underlying58
  have hc := h.tb.cell
  have HT := hide h
  have HV := hide hv
  have HL := hide hL
  have HLL := hide hl
  have HX := hide hx
  clear h hv hL hl hx
  have hx1 : ¬ (x < 1) := by omega
  have hs1 : ¬ (st < 1) := by omega
  have HRG := hide hrg0
  have HG0 := hide hg0
  clear hrg0 hg0 hs0
  have hmm := @run_makeMap Tryz.prog
  go_enter Tryz.func14, Tryz.ntmps14
  go_wp2
  go_loopw [7] (fun _ wr => ∃ (left : Int → Prop) (cnt : Nat), Rg (fun n : Int => I n) 3 wr s.lb w.heap.size (fun x => (s.lv x).map fun p => ptr p.blk) left cnt ∧ G w wr ∧ ∀ y p, s.lv y = some p → left y ∨ (y ≠ x ∧ p.stamp ≠ st)) (fun _ wr => wr.rangeLeft s.lb w.heap.size)
  case atStart => exact ⟨_, _, HRG.out, HG0.out, fun y p hy => .inl (by simp [hy])⟩
  case round =>
    obtain ⟨left, cnt, hrg, hgw, hdone⟩ := hrel
    have HR := hide hrg
    have HGW := hide hgw
    have HD := hide hdone
    rcases hrg.next kyI 0 with ⟨hno, hnx⟩ | ⟨y, v, w1, cnt1, hky, hly, hgy, hnx, hrg1, hlt, hch, hsz, hen⟩
    · have hfree : ¬ taken s x st := by
        rintro ⟨y, p, hy, ho⟩
        rcases HD.out y p hy with h | h
        · exact hno y (kyI_ok.2 (HV.out y p hy)) h
        · exact ho.elim h.1 h.2
      have HF := hide hfree
      have hc1 := (HT.out.tb.G hgw).cell
      clear hrg hgw hdone hno hfree hc
      go_wp2_with (first | (at_mapUpdate; refine wpList_put _ rfl _ _ _ 58 rfl (HR.out.mp.G ((((G.refl wr).alloc _).alloc _).alloc _)) rfl kyI L (fun y _ hy => by cases hp : s.lv y with | none => simp [hp] at hy | some p => exact HL.out y p hp) HLL.out Tryz.underlying58 x rfl (kyI_ok.2 HX.out) _ rfl ?_; intro w2 hm2 hch2 hsz2) | go_in)
      go_ret
      refine .inr ⟨HF.out, rfl, ?_⟩
      have hsw := HGW.out.size
      have h := HT.out
      obtain ⟨n, hn⟩ : ∃ n, n = wr.heap.size := ⟨_, rfl⟩
      have g3 : G wr (((wr.alloc (.map #[] 0)).alloc (.map #[] 0)).alloc (.cells #[I st, .map (some wr.heap.size), I 0, .string ByteArray.empty, I 0, I 0, .map (some (wr.heap.size + 1))] 67)) := (((G.refl wr).alloc _).alloc _).alloc _
      have m1 := (Mp.made wr Rs.v 24).G (((G.refl _).alloc (.map #[] 0)).alloc (.cells #[I st, .map (some wr.heap.size), I 0, .string ByteArray.empty, I 0, I 0, .map (some (wr.heap.size + 1))] 67))
      have m2 := (Mp.made (wr.alloc (.map #[] 0)) (fun n : Int => I n) 3).G ((G.refl _).alloc (.cells #[I st, .map (some wr.heap.size), I 0, .string ByteArray.empty, I 0, I 0, .map (some (wr.heap.size + 1))] 67))
      have b3 := Blk.new ((wr.alloc (.map #[] 0)).alloc (.map #[] 0)) [I st, .map (some wr.heap.size), I 0, .string ByteArray.empty, I 0, I 0, .map (some (wr.heap.size + 1))] 67
      simp only [World.size_alloc] at m2 b3
      have hlb := h.lt _ _ h.o2
      have m1' := m1.chg hch2 (by omega)
      have m2' := m2.chg hch2 (by omega)
      have b3' := b3.chg hch2 (by omega)
      have hall : Chg (fun b => b = s.lb) w w2 := ((HGW.out.trans g3).chg).trans hch2
      have hk : ∀ b tg, s.own b = some tg → b ≠ s.lb → w2.heap[b]? = w.heap[b]? := fun b tg o hne => hall.block b (h.lt b tg o) hne
      have hs2 : w2.heap.size = wr.heap.size + 3 := by rw [hsz2]; simp
      have old : ∀ b tg, s.own b = some tg → own3 s.own (wr.heap.size + 2) wr.heap.size (wr.heap.size + 1) (.pt x) (.ph x) (.pw x) b = some tg := fun b tg o => by
        have := h.lt b tg o
        rw [own3_old (by omega) (by omega) (by omega)]
        exact o
      refine ⟨⟨s.lb, s.pb, upd s.lv x (some ⟨wr.heap.size + 2, wr.heap.size, wr.heap.size + 1, st, fun _ => 0, ⟨0, ByteArray.empty, 0⟩, 0, fun _ => false⟩), s.pl, own3 s.own (wr.heap.size + 2) wr.heap.size (wr.heap.size + 1) (.pt x) (.ph x) (.pw x)⟩, _, ?_, ⟨rfl, fun _ => rfl, rfl, rfl, fun _ => rfl⟩, rfl, rfl, ?_⟩
      · refine ⟨h.tb.keep (hk _ _ h.o1 (h.ne h.o1 h.o2 (by simp))), hm2.congr (fun y => ?_), h.pm.keep (hk _ _ h.o3 (h.ne h.o3 h.o2 (by simp))), fun y q hy => ?_, fun r q hr => ?_, old _ _ h.o1, old _ _ h.o2, old _ _ h.o3, fun b tg o => ?_⟩
        · simp only [upd]
          split <;> rfl
        · by_cases ey : y = x
          · subst ey
            simp only [upd_same, Option.some.injEq] at hy
            subst hy
            exact ⟨b3', m1'.congr (fun _ => rfl), m2'.congr (fun _ => rfl), by simp [own3], by simp [own3], by simp [own3]⟩
          · replace hy : upd s.lv x _ y = some q := hy
            rw [upd_other ey] at hy
            exact ((h.pt y q hy).keep (fun b o => by rcases o with o | o | o <;> exact hk _ _ o (h.ne o h.o2 (by simp)))).more old
        · exact ((h.pl r q hr).keep (fun b o => by rcases o with o | o | o <;> exact hk _ _ o (h.ne o h.o2 (by simp)))).more old
        · rcases own3_inv o with rfl | rfl | rfl | o <;> try omega
          have := h.lt b tg o
          omega
      · refine ⟨hall.mono (fun b e => by rw [e, h.o2]; simp), old, fun b tg o => ?_⟩
        rcases own3_inv o with rfl | rfl | rfl | o
        · right; omega
        · right; omega
        · right; omega
        · exact .inl o
    · obtain ⟨p, hp, rfl⟩ : ∃ p, s.lv y = some p ∧ v = ptr p.blk := by
        cases hp : s.lv y with
        | none => simp [hp] at hgy
        | some p => simp [hp] at hgy; exact ⟨p, rfl, hgy.symm⟩
      have hpc := (((HT.out.pt y p hp).blk.G hgw).chg hch (by
        have := (HT.out.pt y p hp).blk.lt
        intro e
        omega)).cell
      have HP := hide hp
      clear hrg hgw hdone hc hgy hp
      have HK := hide hky
      have HLY := hide hly
      clear hky hly
      simp only [Pt.cells] at hpc
      have HCH := hide hch
      have HR1 := hide hrg1
      clear hch hrg1
      by_cases e1 : y = x
      · have HE := hide e1
        have e1' : (y == x) = true := by simp [e1]
        clear e1
        go_wp2
        go_ret
        have g := HGW.out.andc HCH.out (fun i e => by omega)
        exact .inl ⟨⟨y, p, HP.out, .inl HE.out⟩, rfl, HT.out.G g, g⟩
      · by_cases e2 : p.stamp = st
        · have HE := hide e2
          have e2' : (p.stamp == st) = true := by simp [e2]
          clear e2
          go_wp2
          go_ret
          have g := HGW.out.andc HCH.out (fun i e => by omega)
          exact .inl ⟨⟨y, p, HP.out, .inr HE.out⟩, rfl, HT.out.G g, g⟩
        · have e1f : (y == x) = false := by simp [e1]
          have e2f : (p.stamp == st) = false := by simp [e2]
          go_wp2
          go_roundw
          case rel =>
            refine ⟨_, cnt1, HR1.out, HGW.out.andc HCH.out (fun i e => by omega), fun z q hq => ?_⟩
            · by_cases ez : z = y
              · subst ez
                rw [HP.out] at hq
                cases hq
                exact .inr ⟨e1, e2⟩
              · rcases HD.out z q hq with h | h
                · exact .inl ⟨h, ez⟩
                · exact .inr h
          case measure => rw [HR1.out.left_eq, HR.out.left_eq]; exact hlt
end Go.Proofs.YtkbgifhhnnfgoaaGreatDoor
