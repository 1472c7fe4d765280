/- Paths: Hops. -/
import Derived.Test.YtemkilffagjmcaaDoorPj10
namespace Go.Proofs.YtemkilffagjmcaaDoor
open Go.RowKit

theorem PS.init {from_ : Int} (hr : R64 from_) : PS [] [(from_, 0)] [⟨from_, 0, 0, -1⟩] (upd (fun _ => none) from_ (some 0)) [(0, 0)] [] := by
  have hu : ∀ n i, upd (fun _ : Int => (none : Option Nat)) from_ (some 0) n = some i → n = from_ ∧ i = 0 := fun n i h => by
    unfold upd at h
    split at h
    · rename_i e; cases h; exact ⟨e, rfl⟩
    · cases h
  refine ⟨⟨fun n i h => ?_, fun j hj => ?_, fun j hj => ?_, fun x hx => ?_, fun j j0 jl => ?_, by simp, by simp, by simp, fun n hn => ?_, fun x hx => ?_⟩, PR.init from_, by simp, by simp, by simp⟩
  · obtain ⟨rfl, rfl⟩ := hu n i h; simp
  · simp at hj; subst hj; exact ⟨0, upd_same _ _ _⟩
  · simp at hj; subst hj; exact hr
  · simp at hx; subst hx; simp
  · simp at jl; omega
  · obtain ⟨i, hi⟩ := Option.ne_none_iff_exists'.1 hn
    obtain ⟨rfl, rfl⟩ := hu n i hi
    simp
  · simp at hx; subst hx; rfl
theorem srch_len (hops : Bool) (rs : List Nr) (tail : Bool) (aim : Option Int) (most : Int) : ∀ (f : Nat) (st near : List Sn) (asked : List Int), (srch hops rs tail aim most f st near asked).asked.length ≤ asked.length + f
  | 0, st, near, asked => by unfold srch; simp
  | f + 1, st, near, asked => by
    unfold srch
    split
    · simp
    · split
      · simp
      · simp only
        split
        · simp
        · split
          · split
            · simp
            · split
              · simp
              · have := srch_len hops rs tail aim most f (st ++ [near[nextI near]!]) (relaxR hops (near[nextI near]!).2 (st ++ [near[nextI near]!]) (netOf rs tail (near[nextI near]!).1).1 (near.eraseIdx (nextI near))).2 (asked ++ [(near[nextI near]!).1])
                simp at this ⊢
                omega
          · have := srch_len hops rs tail aim most f (st ++ [near[nextI near]!]) (near.eraseIdx (nextI near)) asked
            omega
theorem sight_r64 {l : List Sn} {id s : Int} (h : ∀ p ∈ l, R64 p.1) (hi : R64 id) : ∀ p ∈ sightL l id s, R64 p.1 := fun p hp => by
  have : p.1 ∈ (sightL l id s).map (·.1) := List.mem_map.2 ⟨p, hp, rfl⟩
  rcases sight_ids.1 this with q | q
  · obtain ⟨p', h1, h2⟩ := List.mem_map.1 q
    rw [← h2]; exact h p' h1
  · rw [q]; exact hi
theorem relax_r64 (hops : Bool) (s : Int) (st : List Sn) : ∀ (l : List Ar) (near : List Sn), (∀ a ∈ l, R64 a.2.1) → (∀ p ∈ near, R64 p.1) → ∀ p ∈ (relaxR hops s st l near).2, R64 p.1
  | [], near, _, h => h
  | a :: r, near, ha, h => by
    unfold relaxR
    split
    · exact h
    · split
      · exact h
      · split
        · exact relax_r64 hops s st r near (fun a q => ha a (by simp [q])) h
        · exact relax_r64 hops s st r _ (fun a q => ha a (by simp [q])) (sight_r64 h (ha a (by simp)))
theorem srch_r64 (hops : Bool) (rs : List Nr) (tail : Bool) (aim : Option Int) (most : Int) (hA : ∀ id, R64 id → ∀ a ∈ (netOf rs tail id).1, R64 a.2.1) : ∀ (f : Nat) (st near : List Sn) (asked : List Int), (∀ p ∈ near, R64 p.1) → (∀ i ∈ asked, R64 i) → ∀ i ∈ (srch hops rs tail aim most f st near asked).asked, R64 i
  | 0, st, near, asked, _, h => by unfold srch; exact h
  | f + 1, st, near, asked, hn, h => by
    unfold srch
    split
    · exact h
    · rename_i hne
      have hx : R64 (near[nextI near]!).1 := by
        obtain ⟨hk, -⟩ := nextI_ok hne
        rw [Hp.get_of hk]
        exact hn _ (List.getElem_mem _)
      have h2 : ∀ i ∈ asked ++ [(near[nextI near]!).1], R64 i := fun i hi => by
        rcases List.mem_append.1 hi with q | q
        · exact h i q
        · rw [List.mem_singleton.1 q]; exact hx
      have he : ∀ p ∈ near.eraseIdx (nextI near), R64 p.1 := fun p hp => hn p (List.mem_of_mem_eraseIdx hp)
      split
      · exact h
      · simp only
        split
        · exact h
        · split
          · split
            · exact h2
            · split
              · exact h2
              · exact srch_r64 hops rs tail aim most hA f _ _ _ (relax_r64 _ _ _ _ _ (hA _ hx) he) h2
          · exact srch_r64 hops rs tail aim most hA f _ _ _ he h
/-- What Hops answers. -/
def hopsV (R : Rs) : Value := if R.hit then .tuple #[I (R.st.getLast!).2, .bool true, I 0] else .tuple #[I 0, .bool false, I R.code]
set_option maxRecDepth 100000 in
set_option maxHeartbeats 2000000 in
theorem hops_any (Wb W : World) (sh : Nat) (rv : Value) (rs : List Nr) (tail : Bool) (av gv : Value) (from_ to_ : Int) (bas : List Int) (gl : List Value) (hbas : bas.length ≤ 4294967296) (sn : Shn Wb W sh rv rs tail av gv bas gl) (hf : R64 from_) (hrl : rs.length ≤ 1048576) (hal : ∀ id, (netOf rs tail id).1.length ≤ 1048576) (R : Rs) (hR : R = srch true rs tail (some to_) (-1) 4097 [] [(from_, 0)] []) :
    Calls Tryd.prog 19 #[(.func (.func 9) #[ptr sh] #[]), I from_, I to_] W fun e W' => e = .returned (hopsV R) ∧ (∃ av' gv' gl', Shn Wb W' sh rv rs tail av' gv' (bas ++ R.asked) gl' ∧ AskO W W' av av') ∧ ∃ mp, Mv Wb (sTs ++ shTs) mp W W' := by
  have HNW := hide (new_any W (.func 9) (.func 26) #[ptr sh] #[] #[] #[] from_ hf)
  have q0 : ∀ w : World, (binOp .eql 35 (.func (.func 9) #[ptr sh] #[]) .nilFunc).run Tryd.prog w = .ok (.bool false) w := fun w => by rfl
  have HSN := hide sn
  have HR := hide hR
  have HAL := hide hal
  clear sn hR hal
  go_enter Tryd.func19, Tryd.ntmps19
  go_wp2_with fail
  refine HNW.out.mono ?_
  rintro e w1 ⟨sb, B, mb, h, fv, v, rfl, hk⟩
  have HK := hide (hk.base HSN.out.g)
  have HN1 := hide (HSN.out.G hk.g)
  have HMV : Hid (∀ mp, Mv Wb (sTs ++ shTs) mp W w1) := fun mp => .of_G HSN.out.g hk.g
  have HG1 := hide hk.g
  clear hk HNW
  have HUN := hide (until_counted (fun _ _ _ => True) Wb w1 sh sb B mb h rv rs tail to_ R bas hbas av (fun _ _ _ _ _ _ _ _ _ _ _ _ => trivial) hrl HAL.out ⟨_, _, _, fv, v, [], [(from_, 0)], [], av, gv, gl, PS.init hf, HK.out, by rw [List.append_nil]; exact HN1.out, HR.out.symm, trivial, Mv.refl _ _ _ _, AskO.refl _ _⟩)
  go_wp2_with fail
  refine HUN.out.mono ?_
  rintro e w2 ⟨fs, bs, l, fv2, v2, c, av2, gv2, gl2, hk2, hn2, hmv2, hao2, hres⟩
  have HM2 := hide ((HMV.out _).trans hmv2)
  have HAO2 := hide (hao2.left HG1.out)
  clear hmv2 hao2
  have HN2 := hide hn2
  have HK2 := hide hk2
  clear hn2 hk2 HUN
  rcases hres with ⟨hhit, hcode, i, st, near, rfl, hil, hni, hbi, hst, -, -, -⟩ | ⟨hhit, rfl⟩
  · obtain ⟨x, hx⟩ : ∃ x, fs[i]? = some x := ⟨_, List.getElem?_eq_getElem hil⟩
    have ex : fs[i]! = x := by simp [hx]
    obtain ⟨g, cap, hfv, hg, x1, x2, x3, x4⟩ := fin_at HK2.out.fin hx
    have hc := HK2.out.blk.cell
    rw [hfv] at hc
    have hiI : (i : Int) < fs.length := by omega
    have HE : Hid (hopsV R = .tuple #[I x.s, .bool true, I 0]) := by
      show _ = _
      unfold hopsV
      rw [if_pos hhit, hst, ex]
      simp
    clear hhit hcode hni hbi hst hfv ex hx
    go_wp2_with fail
    go_ret3
    rw [HE.out]
    exact ⟨rfl, ⟨_, _, _, HN2.out, HAO2.out⟩, _, HM2.out⟩
  · have HE : Hid (hopsV R = .tuple #[I 0, .bool false, I R.code]) := by
      show _ = _
      unfold hopsV
      rw [if_neg (by rw [hhit]; simp)]
    clear hhit
    go_wp2_with fail
    go_ret3
    rw [HE.out]
    exact ⟨rfl, ⟨_, _, _, HN2.out, HAO2.out⟩, _, HM2.out⟩
end Go.Proofs.YtemkilffagjmcaaDoor
