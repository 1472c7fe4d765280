/- Paths: newSearch. -/
import Derived.Test.YtemkilffagjmcaaDoorPj2
namespace Go.Proofs.YtemkilffagjmcaaDoor
open Go.RowKit

theorem Rw.base {lo lo' : Nat} {e : TypeId} {nc : Nat} {w : World} {v : Value} {n : Nat} {xs : List Value} (h : Rw lo e nc w v n xs) (hl : lo' ≤ lo) : Rw lo' e nc w v n xs := by
  refine ⟨h.1, ?_⟩
  rcases h.2 with h0 | ⟨g, cap, cur, rfl, hlo, h2⟩
  · exact .inl h0
  · exact .inr ⟨g, cap, cur, rfl, Nat.le_trans hl hlo, h2⟩
theorem SM.base {Wb Wo W : World} {sb B mb h : Nat} {fa fw fv v : Value} {fs : List Fd} {bs : Int → Option Nat} {l : List It} {t : Int} {c : Nat} (k : SM Wo W sb B mb h fa fw fv v fs bs l t c) (g : Go.Proofs.YtemkilffagjmcaaDoor.G Wb Wo) : SM Wb W sb B mb h fa fw fv v fs bs l t c :=
  ⟨g.trans k.g, k.blk, k.box, k.fin.base g.size, k.map, k.hp, ⟨Nat.le_trans g.size k.lo.1, Nat.le_trans g.size k.lo.2.1, Nat.le_trans g.size k.lo.2.2.1, Nat.le_trans g.size k.lo.2.2.2⟩, fun b hb => Nat.le_trans g.size (k.lv b hb)⟩
set_option maxRecDepth 100000 in
set_option maxHeartbeats 2000000 in
theorem nh_any (B : Nat) (W : World) : Calls Tryd.prog 31 #[.func (.func 37) #[] #[ptr B]] W fun e W' => ∃ h, e = .returned (ptr h) ∧ HP W' h (.func (.func 37) #[] #[ptr B]) (.slice none 0 0) [] 0 ∧ G W W' ∧ W.heap.size ≤ h := by
  have hb := Blk.new W [.func (.func 37) #[] #[ptr B], .slice none 0 0, I 0] 95
  have q0 : ∀ w : World, (binOp .eql 83 (.func (.func 37) #[] #[ptr B]) .nilFunc).run Tryd.prog w = .ok (.bool false) w := fun w => by rfl
  go_enter Tryd.func31, Tryd.ntmps31
  go_wp2
  go_ret
  exact ⟨W.heap.size, rfl, ⟨hb, .inl ⟨rfl, rfl⟩⟩, (G.refl _).alloc _, Nat.le_refl _⟩
set_option maxRecDepth 100000 in
set_option maxHeartbeats 2000000 in
theorem new_any (W : World) (a1 u1 : Fn) (a2 a3 u2 u3 : Array Value) (from_ : Int) (hr : R64 from_) :
    Calls Tryd.prog 25 #[(.func a1 a2 a3), (.func u1 u2 u3), I from_] W fun e W' => ∃ sb B mb h fv v, e = .returned (ptr sb) ∧ SM W W' sb B mb h (.func a1 a2 a3) (.func u1 u2 u3) fv v [⟨from_, 0, 0, -1⟩] (upd (fun _ => none) from_ (some 0)) [(0, 0)] 1 0 := by
  have hmm := @run_makeMap Tryd.prog
  have HG3 : Hid (G W (((W.alloc (.map #[] 0)).alloc (.cells #[(.func a1 a2 a3), (.func u1 u2 u3), .slice none 0 0, .map (some W.heap.size), .pointer none, I 0] 76)).alloc (.cells #[ptr (W.heap.size + 1)] 67))) := (((G.refl W).alloc _).alloc _).alloc _
  have HMP : Hid (Mp (fun n : Int => I n) 2 (((W.alloc (.map #[] 0)).alloc (.cells #[(.func a1 a2 a3), (.func u1 u2 u3), .slice none 0 0, .map (some W.heap.size), .pointer none, I 0] 76)).alloc (.cells #[ptr (W.heap.size + 1)] 67)) W.heap.size (fun _ => none)) := (Mp.made W (fun n : Int => I n) 2).G (((G.refl _).alloc _).alloc _)
  have HS3 : Hid (Blk (((W.alloc (.map #[] 0)).alloc (.cells #[(.func a1 a2 a3), (.func u1 u2 u3), .slice none 0 0, .map (some W.heap.size), .pointer none, I 0] 76)).alloc (.cells #[ptr (W.heap.size + 1)] 67)) (W.heap.size + 1) 76 [(.func a1 a2 a3), (.func u1 u2 u3), .slice none 0 0, .map (some W.heap.size), .pointer none, I 0]) := by
    have := (Blk.new (W.alloc (.map #[] 0)) [(.func a1 a2 a3), (.func u1 u2 u3), .slice none 0 0, .map (some W.heap.size), .pointer none, I 0] 76).G ((G.refl _).alloc (.cells #[ptr (W.heap.size + 1)] 67))
    rw [World.size_alloc] at this
    exact this
  have HB3 : Hid (Blk (((W.alloc (.map #[] 0)).alloc (.cells #[(.func a1 a2 a3), (.func u1 u2 u3), .slice none 0 0, .map (some W.heap.size), .pointer none, I 0] 76)).alloc (.cells #[ptr (W.heap.size + 1)] 67)) (W.heap.size + 2) 67 [ptr (W.heap.size + 1)]) := by
    have := Blk.new ((W.alloc (.map #[] 0)).alloc (.cells #[(.func a1 a2 a3), (.func u1 u2 u3), .slice none 0 0, .map (some W.heap.size), .pointer none, I 0] 76)) [ptr (W.heap.size + 1)] 67
    rw [World.size_alloc, World.size_alloc] at this
    exact this
  go_enter Tryd.func25, Tryd.ntmps25
  go_wp2_with fail
  generalize (((W.alloc (.map #[] 0)).alloc (.cells #[(.func a1 a2 a3), (.func u1 u2 u3), .slice none 0 0, .map (some W.heap.size), .pointer none, I 0] 76)).alloc (.cells #[ptr (W.heap.size + 1)] 67)) = w3 at HG3 HMP HS3 HB3 ⊢
  clear hmm
  refine wp_region_noPanic ?_
  refine wp_region_L (S := (fun V => Blk V (W.heap.size + 2) 67 [ptr (W.heap.size + 1)] ∧ Blk V (W.heap.size + 1) 76 [(.func a1 a2 a3), (.func u1 u2 u3), .slice none 0 0, .map (some W.heap.size), .pointer none, I 0])) 5 (by kernel_rfl) (⟨HB3.out.drew, HS3.out.drew⟩) (fun hHeld => ?_)
  refine wpAnyL_take (i := 0) (v := ?_) rfl (by kernel_rfl) (by kernel_rfl) (by kernel_rfl) (by kernel_rfl) (fun _ _ _ h => h) (Or.inl ⟨by rfl, ?_⟩) hHeld ?_
  rotate_left 1
  · (intro w hSw; obtain ⟨h1, h2⟩ := hSw; have hc := h1.cell; have hb := h2.cell; go_simp; try with_reducible rfl)
  try simp only [Act.put, List.getElem_toArray, List.getElem_cons_zero, List.setIfInBounds_toArray, List.set_cons_zero, List.set_cons_succ]
  refine wpAnyL_take (i := 1) (v := ?_) rfl (by kernel_rfl) (by kernel_rfl) (by kernel_rfl) (by kernel_rfl) (fun _ _ _ h => h) (Or.inl ⟨by rfl, ?_⟩) hHeld ?_
  rotate_left 1
  · (intro w hSw; (try dsimp only at hSw); go_simp; try with_reducible rfl)
  try simp only [Act.put, List.getElem_toArray, List.getElem_cons_zero, List.getElem_cons_succ, List.setIfInBounds_toArray, List.set_cons_zero, List.set_cons_succ]
  refine wpAnyL_one (i := 2) (by kernel_rfl) rfl (by kernel_rfl) (fun K hK => ?_)
  clear hHeld
  go_simp
  refine (nh_any (W.heap.size + 2) _).mono ?_
  rintro e w5 ⟨h, rfl, hp5, hg5, hl5⟩
  have HG5 := hide (G.trans (G.drew (G.refl w3)) hg5)
  have HP5 := hide hp5
  have HL5 := hide hl5
  clear hg5 hp5 hl5
  go_wp2_with fail
  refine hK.out _ _ (⟨HB3.out.G HG5.out, HS3.out.G HG5.out⟩) (fun hHeld => ?_)
  clear hK K
  try simp only [Act.put, List.getElem_toArray, List.getElem_cons_zero, List.getElem_cons_succ, List.setIfInBounds_toArray, List.set_cons_zero, List.set_cons_succ]
  refine wpAnyL_take2 4 (i := 3) (v := ?_) rfl (by kernel_rfl) (by kernel_rfl) (by kernel_rfl) (by kernel_rfl) (fun _ _ _ h => h) (Or.inl ⟨by rfl, ?_⟩) hHeld ?_
  rotate_left 1
  · (intro w hSw; (try dsimp only at hSw); go_simp; try with_reducible rfl)
  try simp only [Act.put, List.getElem_toArray, List.getElem_cons_zero, List.getElem_cons_succ, List.setIfInBounds_toArray, List.set_cons_zero, List.set_cons_succ]
  refine wpAnyL_take (i := 4) (v := ?_) rfl (by kernel_rfl) (by kernel_rfl) (by kernel_rfl) (by kernel_rfl) (fun _ _ _ h => h) (Or.inl ⟨by rfl, ?_⟩) hHeld ?_
  rotate_left 1
  · (intro w hSw; (try dsimp only at hSw); go_simp; try with_reducible rfl)
  try simp only [Act.put, List.getElem_toArray, List.getElem_cons_zero, List.getElem_cons_succ, List.setIfInBounds_toArray, List.set_cons_zero, List.set_cons_succ]
  refine wpAnyL_last (by kernel_rfl) rfl (by kernel_rfl) (fun K hK => ?_)
  clear hHeld
  have hc7 := (HS3.out.G HG5.out).cell
  have hz7 := (HS3.out.G HG5.out).frozen
  go_simp
  refine hK.out _ _ ?_
  clear hK K
  refine NoPanic.normal ?_
  have HK : Hid (SM W (w5.setCell ⟨W.heap.size + 1, 4, none⟩ (ptr h)) (W.heap.size + 1) (W.heap.size + 2) W.heap.size h (.func a1 a2 a3) (.func u1 u2 u3) (.slice none 0 0) (.slice none 0 0) [] (fun _ => none) [] 0 0) := by
    have hS := HS3.out.G HG5.out
    have hB := HB3.out.G HG5.out
    have hM := HMP.out.G HG5.out
    have hg := HG3.out.trans HG5.out
    have hof : ∀ b, b ≠ W.heap.size + 1 → (w5.setCell ⟨W.heap.size + 1, 4, none⟩ (ptr h)).heap[b]? = w5.heap[b]? := fun b hb => Below.heap_setCell _ _ _ _ hb
    have hhn : h ≠ W.heap.size + 1 := HP5.out.blk.ne hS (by decide)
    have hl5 : W.heap.size ≤ h := Nat.le_trans HG3.out.size (show w3.heap.size ≤ h from HL5.out)
    refine ⟨hg.setCell (Nat.le_succ _) _, hS.set 4 _, hB.keep (hof _ (by omega)), Rw.nil _ _ _ _, hM.keep (hof _ (by omega)), ⟨HP5.out.blk.keep (hof _ hhn), .inl ⟨rfl, rfl⟩⟩, ⟨by omega, by omega, by omega, hl5⟩, fun b hb => by simp [Value.ownBlock] at hb⟩
  generalize w5.setCell ⟨W.heap.size + 1, 4, none⟩ (ptr h) = w6 at HK ⊢
  clear HP5 HL5 HG5 HB3 HS3 HMP HG3
  have HAD := hide (fun (w7 : World) (g7 : G w6 w7) => add_none W w7 (W.heap.size + 1) (W.heap.size + 2) W.heap.size h (.func a1 a2 a3) (.func u1 u2 u3) (.slice none 0 0) (.slice none 0 0) [] (fun _ => none) [] 0 ⟨from_, 0, 0, -1⟩ (HK.out.G g7) hr (fun n q => absurd rfl q) (fun x hx => by simp at hx) (by simp) (by simp) (fun j j0 jl => by simp at jl) rfl)
  have hc := HK.out.box.cell
  go_wp2_with fail
  refine (HAD.out _ (G.refl _)).mono ?_
  rintro e w8 ⟨rfl, fv', v', l', k', hperm, hhi, hmv⟩
  have hc8 := k'.box.cell
  have hl' : l' = [(0, 0)] := by
    have : l'.Perm [(0, 0)] := hperm
    exact List.perm_singleton.1 this
  subst hl'
  have HK8 := hide k'
  clear k' hc hmv HAD HK
  go_wp2_with fail
  go_ret
  exact ⟨_, _, _, _, _, _, rfl, HK8.out⟩
end Go.Proofs.YtemkilffagjmcaaDoor
