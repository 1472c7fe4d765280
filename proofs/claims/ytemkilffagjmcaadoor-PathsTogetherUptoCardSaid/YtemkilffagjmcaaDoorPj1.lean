/- Paths: what orders the heap of a search. -/
import Derived.Test.YtemkilffagjmcaaDoorPj0
import Derived.Test.YtemkilffagjmcaaDoorPi2
namespace Go.Proofs.YtemkilffagjmcaaDoor
open Go.RowKit

/-- What the order reads: the variable B holds the search sb, whose finds are fs. -/
structure KF (B sb : Nat) (fv : Value) (lo : Nat) (fs : List Fd) (W : World) : Prop where
  box : Blk W B 67 [ptr sb]
  fld : ∃ a1 a2 a4 a5 a6, Blk W sb 76 [a1, a2, fv, a4, a5, a6]
  fin : Fin lo W fv fs
theorem KF.G {B sb : Nat} {fv : Value} {lo : Nat} {fs : List Fd} {W W' : World} (h : KF B sb fv lo fs W) (g : Go.Proofs.YtemkilffagjmcaaDoor.G W W') : KF B sb fv lo fs W' := by
  obtain ⟨a1, a2, a4, a5, a6, hf⟩ := h.fld
  exact ⟨h.box.G g, ⟨a1, a2, a4, a5, a6, hf.G g⟩, h.fin.G g⟩
/-- The heap's own doings do not touch it. -/
theorem KF.heap {B sb : Nat} {fv : Value} {lo : Nat} {fs : List Fd} {W W' : World} {h : Nat} {f v : Value} {l : List It} {t : Int} (k : KF B sb fv lo fs W) (hp : HP W h f v l t) (g : Chg (hpB h v) W W') : KF B sb fv lo fs W' := by
  obtain ⟨a1, a2, a4, a5, a6, hf⟩ := k.fld
  refine ⟨k.box.chg g (hp.off k.box (by decide) (by decide)), ⟨a1, a2, a4, a5, a6, hf.chg g (hp.off hf (by decide) (by decide))⟩, k.fin.chg g (fun b hb => ?_)⟩
  obtain ⟨_, _, ys, hy⟩ := k.fin.own hb
  exact hp.off hy (by decide) (by decide)
set_option maxRecDepth 100000 in
set_option maxHeartbeats 1000000 in
theorem lt_any (B sb : Nat) (fv : Value) (lo : Nat) (fs : List Fd) (a b : Int) (W : World) (hk : KF B sb fv lo fs W) (ha : 0 ≤ a ∧ a < fs.length) (hb : 0 ≤ b ∧ b < fs.length) : Calls Tryd.prog 37 #[I a, I b, ptr B] W fun e W' => e = .returned (.bool (ltF fs a b)) ∧ G W W' := by
  obtain ⟨i, rfl⟩ : ∃ i : Nat, a = i := ⟨a.toNat, by omega⟩
  obtain ⟨j, rfl⟩ : ∃ j : Nat, b = j := ⟨b.toNat, by omega⟩
  have hi : i < fs.length := by omega
  have hj : j < fs.length := by omega
  obtain ⟨x, hx⟩ : ∃ x, fs[i]? = some x := ⟨_, List.getElem?_eq_getElem hi⟩
  obtain ⟨y, hy⟩ : ∃ y, fs[j]? = some y := ⟨_, List.getElem?_eq_getElem hj⟩
  have hlt : ltF fs i j = (decide (x.s < y.s) || (decide (x.s = y.s) && decide (x.n < y.n))) := by
    have e1 : fs[i]! = x := by simp [hx]
    have e2 : fs[j]! = y := by simp [hy]
    simp only [ltF, Int.toNat_natCast, e1, e2]
  rw [hlt]
  obtain ⟨g, cap, rfl, hg, x1, x2, x3, x4⟩ := fin_at hk.fin hx
  obtain ⟨g', cap', e', _, y1, y2, y3, y4⟩ := fin_at hk.fin hy
  obtain ⟨rfl, rfl⟩ : g = g' ∧ cap = cap' := by simp at e'; exact e'
  obtain ⟨a1, a2, a4, a5, a6, hf⟩ := hk.fld
  have hB := hk.box.cell
  have hBl := hk.box.lt
  have hS := hf.cell
  have hSl := hf.lt
  have n1 : B < W.heap.size + 1 := by omega
  have n2 : g < W.heap.size + 1 := by omega
  have n3 : sb < W.heap.size + 1 := by omega
  have i1 : (i : Int) < fs.length := ha.2
  have i2 : (j : Int) < fs.length := hb.2
  obtain ⟨xn, xs, xe, xb⟩ := x
  obtain ⟨yn, ys, ye, yb⟩ := y
  simp only at x1 x2 x3 x4 y1 y2 y3 y4 ⊢
  clear hlt hx hy hk hf ha hb e'
  by_cases c1 : xs < ys
  · go_enter Tryd.func37, Tryd.ntmps37
    go_wp2_with fail
    go_region
    all_goals (go_wp2; go_ret; exact ⟨by simp [c1], (((G.refl W).alloc _).alloc _).drew⟩)
  · have d1 : decide (xs < ys) = false := decide_eq_false c1
    by_cases c2 : xs = ys
    · subst c2
      go_enter Tryd.func37, Tryd.ntmps37
      go_wp2_with fail
      go_region
      all_goals (go_wp2; go_ret; exact ⟨by simp, (((G.refl W).alloc _).alloc _).drew⟩)
    · have d2 : (xs == ys) = false := beq_eq_false_iff_ne.2 c2
      go_enter Tryd.func37, Tryd.ntmps37
      go_wp2_with fail
      go_region
      all_goals (go_wp2; go_ret; exact ⟨by simp [c1, c2], (((G.refl W).alloc _).alloc _).drew⟩)
theorem ahF (B sb : Nat) (fv : Value) (lo : Nat) (fs : List Fd) : AhOk (KF B sb fv lo fs) (fun a => 0 ≤ a ∧ a < fs.length) (.func (.func 37) #[] #[ptr B]) (ltF fs) :=
  ah_s B (KF B sb fv lo fs) (fun a => 0 ≤ a ∧ a < fs.length) (ltF fs) (fun _ _ h g => h.G g) (fun a b W h ha hb => lt_any B sb fv lo fs a b W h ha hb)
end Go.Proofs.YtemkilffagjmcaaDoor
