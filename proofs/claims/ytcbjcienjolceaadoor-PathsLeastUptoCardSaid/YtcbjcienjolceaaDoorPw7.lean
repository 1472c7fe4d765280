/- Paths: Least in a mild net, between the calls. -/
import Derived.Test.YtcbjcienjolceaaDoorPn4
import Derived.Test.YtcbjcienjolceaaDoorPw4
namespace Go.Proofs.YtcbjcienjolceaaDoor
open Go.RowKit

theorem Nrs.ok {w : World} {v : Value} {l : List Nr} (h : Nrs w v l) {r : Nr} (hr : r ∈ l) {a : Ar} (ha : a ∈ r.arcs) : R64 a.2.1 := by
  obtain ⟨x, cap, rfl, rfl | ⟨b, off, rfl, h2⟩⟩ := h
  · simp at hr
  · obtain ⟨i, hi, rfl⟩ := List.getElem_of_mem hr
    obtain ⟨-, ⟨va, -, har⟩, -⟩ := h2 i _ (List.getElem?_eq_getElem hi)
    exact (har.ok a ha).2.1
/-- A way with all that is known of it. -/
structure WyP (rs : List Nr) (from_ to_ : Int) (Ew : List Fd) (x : Fd) : Prop where
  way : Way rs from_ Ew x
  aim : x.n = to_
  len : Ew.length ≤ 17179869184
  r64 : ∀ y ∈ Ew, R64 y.n
  sum : ∀ y ∈ Ew, 0 ≤ y.s ∧ y.s ≤ 36028797018963968
  isd : IsD false rs false from_ to_ x.s
  one : to_ = from_ → Ew.length = 1 ∧ x.s = 0
theorem Way.get {rs : List Nr} {from_ : Int} {Ew : List Fd} {x : Fd} (k : Way rs from_ Ew x) {E : List Int} (m : Mild false rs false E) (hf : R64 from_) (hr : ∀ id, ∀ a ∈ (netOf rs false id).1, R64 a.2.1) : ∀ (q : Nat) y, Ew[q]? = some y → R64 y.n ∧ 0 ≤ y.s ∧ y.s ≤ (q : Int) * 1048576
  | 0, y, hy => by
    rw [k.first] at hy
    cases hy
    exact ⟨hf, by simp, by simp⟩
  | q + 1, y, hy => by
    have hq : q < Ew.length := by have := (List.getElem?_eq_some_iff.1 hy).1; omega
    obtain ⟨p, hp⟩ : ∃ p, Ew[q]? = some p := ⟨_, List.getElem?_eq_getElem hq⟩
    obtain ⟨-, h1, h2⟩ := Way.get k m hf hr q p hp
    obtain ⟨⟨a, ha, e1, e2, -⟩, -⟩ := k.link q p y hp hy
    have := m.wt _ a ha
    have e : wei false a = a.2.2 := rfl
    rw [e] at this
    refine ⟨by rw [e1]; exact hr _ a ha, by omega, ?_⟩
    rw [e2]
    push_cast
    omega
theorem way_all {rs : List Nr} {from_ to_ : Int} {Ew : List Fd} {x : Fd} (k : Way rs from_ Ew x) (hx : x.n = to_) (hl : Ew.length ≤ 17179869184) {E : List Int} (m : Mild false rs false E) (hf : R64 from_) (hr : ∀ id, ∀ a ∈ (netOf rs false id).1, R64 a.2.1) (hd : IsD false rs false from_ to_ x.s) (ho : to_ = from_ → Ew.length = 1 ∧ x.s = 0) : WyP rs from_ to_ Ew x := by
  refine ⟨k, hx, hl, fun y hy => ?_, fun y hy => ?_, hd, ho⟩
  · obtain ⟨q, hq, rfl⟩ := List.getElem_of_mem hy
    exact (k.get m hf hr q _ (List.getElem?_eq_getElem hq)).1
  · obtain ⟨q, hq, rfl⟩ := List.getElem_of_mem hy
    have := (k.get m hf hr q _ (List.getElem?_eq_getElem hq)).2
    omega
theorem srch_self (rs : List Nr) (from_ : Int) : srch false rs false (some from_) (-1) 4097 [] [(from_, 0)] [] = ⟨[(from_, 0)], [], 0, true⟩ := by
  have e : nextI [((from_, 0) : Sn)] = 0 := rfl
  rw [srch]
  simp [e]
/-- What Least tells, between the calls. -/
def LeastN (Wb W : World) (sh : Nat) (mv : Value) (rs : List Nr) (ev lv : Value) (E l : List Int) (n : Nat) (from_ to_ : Int) (e : Ending) (W' : World) : Prop := Nb Wb W' sh mv rs ev lv E l (n + 1) ∧
  ((e = .returned (.tuple #[.agg #[I 0, .slice none 0 0, .slice none 0 0], .bool false, I 0]) ∧ (∀ s, ¬ Dst false rs false from_ to_ s)) ∨
   ∃ (Ew : List Fd) (x : Fd) (nv qv : Value), e = .returned (.tuple #[.agg #[I x.s, nv, qv], .bool true, I 0]) ∧ WyP rs from_ to_ Ew x ∧ Rw W.heap.size 2 1 W' nv (Ew.map (·.n)).length ((Ew.map (·.n)).map I) ∧ Rw W.heap.size 2 1 W' qv ((Ew.drop 1).map (·.e)).length (((Ew.drop 1).map (·.e)).map I))
theorem drop_rev (l : List Fd) : (l.dropLast.map (·.e)).reverse = (l.reverse.drop 1).map (·.e) := by
  rw [List.drop_one, List.tail_reverse, List.map_reverse]
theorem least_nb (Wb W : World) (sh : Nat) (mv : Value) (rs : List Nr) (ev lv : Value) (E l : List Int) (n : Nat) (from_ to_ : Int) (k : Nb Wb W sh mv rs ev lv E l n) (hn : n ≤ 100000) (hf : R64 from_) (hrl : rs.length ≤ 1048576) (hal : ∀ id, (netOf rs false id).1.length ≤ 1048576) (m : Mild false rs false (endsL rs from_)) :
    Calls Tryd.prog 14 #[.func (.func 12) #[ptr sh] #[], I from_, I to_] W (LeastN Wb W sh mv rs ev lv E l n from_ to_) := by
  obtain ⟨av, gv, bas, gl, h1, h2, h3, h4⟩ := k.ex
  obtain ⟨R, hR⟩ : ∃ R, R = srch false rs false (some to_) (-1) 4097 [] [(from_, 0)] [] := ⟨_, rfl⟩
  have hlen := srch_len false rs false (some to_) (-1) 4097 [] [(from_, 0)] []
  rw [← hR] at hlen
  have hend := aim_end m (List.mem_cons_self ..) to_ R hR
  have hr : ∀ id, ∀ a ∈ (netOf rs false id).1, R64 a.2.1 := fun id a ha => by
    obtain ⟨r, hr, ha⟩ := netOf_mem ha
    exact h1.rows.ok hr ha
  refine (least_any Wb W sh mv rs false av gv from_ to_ bas gl (by omega) h1 hf hrl hal R hR).mono ?_
  rintro e W' ⟨av', gv', gl', hsn, hao, -, hres⟩
  refine ⟨⟨⟨av', gv', _, gl', hsn, ?_, fun b hb e => ?_, fun b hb e => ?_⟩, ?_, ?_⟩, ?_⟩
  · rw [List.length_append]
    simp at hlen
    omega
  · rcases hao.2 b e with q | q
    · exact h3 b hb q
    · have := (Rw.own k.e hb).2.1
      omega
  · rcases hao.2 b e with q | q
    · exact h4 b hb q
    · have := (Rw.own k.l hb).2.1
      omega
  · exact k.e.keep fun b hb => by
      obtain ⟨_, _, ys, hy⟩ := Rw.own k.e hb
      exact hao.1 b ys hy (h3 b hb)
  · exact k.l.keep fun b hb => by
      obtain ⟨_, _, ys, hy⟩ := Rw.own k.l hb
      exact hao.1 b ys hy (h4 b hb)
  · obtain ⟨hc, ⟨hh, st2, s, hs, hD, hst⟩ | ⟨hh, hno⟩⟩ := hend
    · rcases hres with ⟨hh2, -⟩ | ⟨-, -, fs, i, x, st, nv, qv, hx, hxn, hRst, hO, rfl, hrn, hre, -, -, hwl, hbig⟩
      · rw [hh] at hh2; cases hh2
      · obtain ⟨e1, e2⟩ := List.append_inj' (hs.symm.trans hRst) rfl
        simp only [List.cons.injEq, Prod.mk.injEq, true_and, and_true] at e2
        subst e1 e2
        have hil : i < fs.length := (List.getElem?_eq_some_iff.1 hx).1
        have ex : fs[i]! = x := by simp [hx]
        have hD' : IsD false rs false from_ (fs[i]!).n (fs[i]!).s := by rw [ex, hxn]; exact hD
        have hch := chain hO hst (i + 1) i hil (by omega) hD'
        rw [ex] at hch
        have hwy := hch.way
        right
        refine ⟨(wayL fs (i + 1) i).reverse, x, nv, qv, rfl, way_all hwy hxn (by rw [List.length_reverse]; omega) m hf hr hD (fun q => ?_), ?_, ?_⟩
        · subst q
          rw [srch_self] at hR
          rw [hR] at hs
          have hs' : ([((to_, 0) : Sn)] : List Sn) = st2 ++ [(to_, x.s)] := hs
          have hl0 : st2 = [] := by
            have := congrArg List.length hs'
            simp at this
            exact this
          subst hl0
          simp at hs'
          have hfs := hO.one rfl
          subst hfs
          have hi0 : i = 0 := by simp at hil; exact hil
          subst hi0
          refine ⟨by simp [wayL], hs'.symm⟩
        · rw [← List.map_reverse] at hrn
          exact hrn
        · rw [drop_rev] at hre
          exact hre
    · rcases hres with ⟨-, rfl⟩ | ⟨hh2, -⟩
      · left
        exact ⟨by rw [hc], hno⟩
      · rw [hh] at hh2; cases hh2
/-- A sum is put behind the others. -/
theorem app_nb (Wb w : World) (sh : Nat) (mv : Value) (rs : List Nr) (ev lv : Value) (E l : List Int) (n : Nat) (k : Nb Wb w sh mv rs ev lv E l n) (hd : ∀ b, ev.ownBlock = some b → lv.ownBlock ≠ some b) (s : Int) (hl : l.length ≤ 1000) (nz : Nat) (hz : nz = w.heap.size) :
    ∃ v' w', (Builtin.append_ #[26, 26] 26 #[lv, .slice (some ⟨nz, 0, none⟩) 1 1]).run Tryd.prog (w.alloc (.cells #[I s] 2)) = .ok v' w' ∧ Nb Wb w' sh mv rs ev v' E (l ++ [s]) n ∧ ∀ b, ev.ownBlock = some b → v'.ownBlock ≠ some b := by
  subst hz
  have gA : G w (w.alloc (.cells #[I s] 2)) := (G.refl w).alloc _
  have kA := k.G gA
  obtain ⟨av, gv, bas, gl, h1, h2, h3, h4⟩ := kA.ex
  obtain ⟨v', w', q1, q2, q3, q4⟩ := app_I (w.alloc (.cells #[I s] 2)) Wb.heap.size lv l.length (l.map I) kA.l ⟨w.heap.size, 0, none⟩ 1 1 [I s] rfl (fun j u hj => by rw [Addr.add_mid, Nat.zero_add, (Blk.new w [I s] 2).cell]; exact hj) (fun u hu => by simp at hu; subst hu; rfl) (by omega) h1.g.size
  have hnew : ∀ b lo t nc z (xs : List Value) (u : Value), Rw lo t nc (w.alloc (.cells #[I s] 2)) u z xs → (∀ b, u.ownBlock = some b → lv.ownBlock ≠ some b) → u.ownBlock = some b → v'.ownBlock ≠ some b := fun b lo t nc z xs u hu hq hb e => by
    rcases q4 with p | p
    · exact hq b hb (p ▸ e)
    · rw [p] at e
      have := (Rw.own hu hb).2.1
      have e2 := Option.some.inj e
      omega
  refine ⟨v', w', q1, ⟨⟨av, gv, bas, gl, h1.ids kA.l (Nat.le_refl _) q3 h4, h2, h3, fun b hb e => hnew b _ _ _ _ _ av h1.ask (fun b hb q => h4 b q hb) e hb⟩, kA.e.chg q3 (fun b hb => hd b hb), ?_⟩, fun b hb => hnew b _ _ _ _ _ ev kA.e hd hb⟩
  rw [List.length_append, List.map_append]
  exact q2
end Go.Proofs.YtcbjcienjolceaaDoor
