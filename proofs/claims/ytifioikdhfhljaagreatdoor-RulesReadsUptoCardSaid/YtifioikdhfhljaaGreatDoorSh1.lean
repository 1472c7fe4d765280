/- Graphs: is it so for all of a list? -/
import Derived.Test.YtifioikdhfhljaaGreatDoorSh0
namespace Go.Proofs.YtifioikdhfhljaaGreatDoor
open Go.RowKit

set_option maxRecDepth 100000 in
set_option maxHeartbeats 1000000 in
theorem evP_1  (x : Pv) (B : Nat) (W : World) (p : Bool)  (hB : Blk W B 179 [.func (.func 155) #[] #[]])
    (HK : ∀ W', G W W' → Calls Tryz.prog 155 #[.agg #[.string x.key, I x.k, I x.a, I x.b, .string x.s]] W' fun e w' => e = .returned (.bool p) ∧ G W' w') : Calls Tryz.prog 172 #[.agg #[.string x.key, I x.k, I x.a, I x.b, .string x.s], ptr B] W fun e w' => e = .returned (.bool (!p)) ∧ G W w' := by
  have hc := hB.cell
  have hl := hB.lt
  have n1 : B < W.heap.size + 1 := by omega
  have HKK := hide (HK (W.alloc (.cells #[.string x.key, I x.k, I x.a, I x.b, .string x.s] 101)) ((G.refl W).alloc _))
  clear HK hB
  go_enter Tryz.func172, Tryz.ntmps172
  go_wp2_with fail
  refine HKK.out.mono ?_
  rintro e w1 ⟨rfl, g1⟩
  have HG := hide (((G.refl W).alloc (.cells #[.string x.key, I x.k, I x.a, I x.b, .string x.s] 101)).trans g1)
  clear g1 HKK
  go_wp2_with fail
  go_ret
  exact ⟨rfl, HG.out⟩
set_option maxRecDepth 100000 in
set_option maxHeartbeats 1000000 in
theorem evP_ix  (p : Pv → Bool) (l : List Pv) (v : Value) (B : Nat) (W : World) (h : Row eP.rel W v l) (hB : Blk W B 179 [.func (.func 155) #[] #[]]) (hm : l.length ≤ 4611686018427387904)
    (HK : ∀ x ∈ l, ∀ W', G W W' → Calls Tryz.prog 155 #[.agg #[.string x.key, I x.k, I x.a, I x.b, .string x.s]] W' fun e w' => e = .returned (.bool (p x)) ∧ G W' w') : Calls Tryz.prog 178 #[v, .func (.func 172) #[] #[ptr B]] W fun e W' => (∃ n : Int, e = .returned (I n) ∧ decide (0 ≤ n) = l.any fun x => !p x) ∧ G W W' := by
  obtain ⟨a, c, rfl⟩ := h.form
  have HS := hide h; have HB := hide hB; have HM := hide hm; have HKK := hide HK
  clear h hB hm HK
  go_enter Tryz.func178, Tryz.ntmps178
  go_wp2_with fail
  go_loopw [8, 5] (fun iv _ wr => ∃ i : Nat, iv = I i ∧ i ≤ l.length ∧ ((l.take i).any fun x => !p x) = false ∧ G W wr) (fun iv _ _ => l.length - (RowKit.intOf iv).toNat)
  case atStart => exact ⟨0, rfl, Nat.zero_le _, rfl, G.refl _⟩
  case round =>
    rename_i wr hout
    obtain ⟨i, rfl, hik, hno, hg⟩ := hrel
    by_cases hil : i < l.length
    · obtain ⟨x, hx⟩ : ∃ x, l[i]? = some x := ⟨_, List.getElem?_eq_getElem hil⟩
      obtain ⟨g, o, cap, q⟩ := HS.out.addr (by omega)
      injection q with q1 q2 q3
      subst q1 q3
      obtain ⟨cs, hcs, hr1⟩ := HS.out.at hx
      subst hcs
      have x1 : wr.cell? ⟨g, o + i * 5, none⟩ = some (.string x.key) := rangeAt_G hr1 hg 0 _ rfl
      have x2 : wr.cell? ⟨g, o + i * 5 + 1, none⟩ = some (I x.k) := rangeAt_G hr1 hg 1 _ rfl
      have x3 : wr.cell? ⟨g, o + i * 5 + 2, none⟩ = some (I x.a) := rangeAt_G hr1 hg 2 _ rfl
      have x4 : wr.cell? ⟨g, o + i * 5 + 3, none⟩ = some (I x.b) := rangeAt_G hr1 hg 3 _ rfl
      have x5 : wr.cell? ⟨g, o + i * 5 + 4, none⟩ = some (.string x.s) := rangeAt_G hr1 hg 4 _ rfl
      have i1 : (i : Int) < l.length := Int.ofNat_lt.2 hil
      have KI := hide (evP_1 x B wr (p x) (HB.out.G hg) (fun w2 g2 => HKK.out x (List.mem_of_getElem? hx) w2 (hg.trans g2)))
      have HW : Hid (wrap64 ((i : Int) + 1) = (i : Int) + 1) := by show _ = _; have := HM.out; unfold wrap64; omega
      have HG := hide hg; have HNO := hide hno; have HX := hide hx; have HIL := hide hil
      clear hik hil hx q2 hg hno hr1
      cases hpx : p x with
      | false =>
        rw [hpx] at KI
        have HF : Hid ((l.any fun x => !p x) = true) := by
          rw [Hid, List.any_eq_true]
          exact ⟨x, List.mem_of_getElem? HX.out, by rw [hpx]; rfl⟩
        clear hpx
        go_wp2_with fail
        refine KI.out.mono ?_
        rintro e w' ⟨rfl, hg'⟩
        have HG' := hide (HG.out.trans hg')
        clear hg' KI
        go_wp2_with fail
        go_ret
        refine ⟨⟨_, rfl, ?_⟩, HG'.out⟩
        rw [HF.out, decide_eq_true]; omega
      | true =>
        rw [hpx] at KI
        have HF : Hid (((l.take (i + 1)).any fun x => !p x) = false) := by
          rw [Hid, List.take_add_one, HX.out, List.any_append, HNO.out]
          simp [hpx]
        clear hpx
        go_wp2_with fail
        refine KI.out.mono ?_
        rintro e w' ⟨rfl, hg'⟩
        have HG' := hide (HG.out.trans hg')
        clear hg' KI
        go_wp2_with fail
        exact ⟨⟨i + 1, by rw [HW.out]; exact srl i, HIL.out, HF.out, HG'.out⟩, by rw [HW.out]; exact sms HIL.out⟩
    · have i1 : ¬ ((i : Int) < l.length) := by omega
      have HF : Hid ((l.any fun x => !p x) = false) := by rw [Hid, ← hno, List.take_of_length_le (by omega)]
      have HG := hide hg
      clear hik hil hno hg
      go_wp2_with fail
      go_ret
      refine ⟨⟨_, rfl, ?_⟩, HG.out⟩
      rw [HF.out, decide_eq_false (by decide)]
set_option maxRecDepth 100000 in
set_option maxHeartbeats 1000000 in
theorem evP_cf  (p : Pv → Bool) (l : List Pv) (v : Value) (B : Nat) (W : World) (h : Row eP.rel W v l) (hB : Blk W B 179 [.func (.func 155) #[] #[]]) (hm : l.length ≤ 4611686018427387904)
    (HK : ∀ x ∈ l, ∀ W', G W W' → Calls Tryz.prog 155 #[.agg #[.string x.key, I x.k, I x.a, I x.b, .string x.s]] W' fun e w' => e = .returned (.bool (p x)) ∧ G W' w') : Calls Tryz.prog 171 #[v, .func (.func 172) #[] #[ptr B]] W fun e W' => e = .returned (.bool (l.any fun x => !p x)) ∧ G W W' := by
  have KI := hide (evP_ix  p l v B W h hB hm HK)
  clear h hB hm HK
  obtain ⟨bb, hbb⟩ : ∃ bb, bb = l.any fun x => !p x := ⟨_, rfl⟩
  rw [← hbb] at KI ⊢
  clear hbb
  go_enter Tryz.func171, Tryz.ntmps171
  go_wp2_with fail
  refine KI.out.mono ?_
  rintro e w' ⟨⟨n, rfl, hn⟩, hg⟩
  have HN := hide hn; have HG := hide hg
  clear hn hg KI
  go_wp2_with fail
  go_ret
  exact ⟨by rw [← HN.out]; rfl, HG.out⟩
theorem every_all {α : Type} (p : α → Bool) (l : List α) : (!(l.any fun x => !p x)) = l.all p := by rw [List.not_any_eq_all_not]; simp
set_option maxRecDepth 100000 in
set_option maxHeartbeats 1000000 in
theorem evP_any  (p : Pv → Bool) (l : List Pv) (v : Value) (W : World) (h : Row eP.rel W v l) (hm : l.length ≤ 4611686018427387904)
    (HK : ∀ x ∈ l, ∀ W', G W W' → Calls Tryz.prog 155 #[.agg #[.string x.key, I x.k, I x.a, I x.b, .string x.s]] W' fun e w' => e = .returned (.bool (p x)) ∧ G W' w') : Calls Tryz.prog 154 #[v, .func (.func 155) #[] #[]] W fun e W' => e = .returned (.bool (l.all p)) ∧ G W W' := by
  have hA := (G.refl W).alloc (.cells #[.func (.func 155) #[] #[]] 179)
  have KI := hide (evP_cf  p l v W.heap.size (W.alloc (.cells #[.func (.func 155) #[] #[]] 179)) (h.G hA) (Blk.new W [.func (.func 155) #[] #[]] 179) hm (fun x hx w2 g2 => HK x hx w2 (hA.trans g2)))
  have HA := hide hA
  clear h hm HK hA
  rw [← every_all]
  generalize (l.any fun x => !p x) = bb at KI ⊢
  go_enter Tryz.func154, Tryz.ntmps154
  go_wp2_with fail
  refine KI.out.mono ?_
  rintro e w' ⟨rfl, hg⟩
  have HG := hide (HA.out.trans hg)
  clear hg KI HA
  go_wp2_with fail
  go_ret
  exact ⟨rfl, HG.out⟩
set_option maxRecDepth 100000 in
set_option maxHeartbeats 1000000 in
theorem evN_1  (x : Nd) (B : Nat) (W : World) (p : Bool) (pa : Option Addr) (pn pc : Nat) (hr : Row eP.rel W (.slice pa pn pc) x.ps) (hB : Blk W B 131 [.func (.func 82) #[] #[]])
    (HK : ∀ W', G W W' → Row eP.rel W' (.slice pa pn pc) x.ps → Calls Tryz.prog 82 #[.agg #[I x.id, .string x.lb, .slice pa pn pc]] W' fun e w' => e = .returned (.bool p) ∧ G W' w') : Calls Tryz.prog 122 #[.agg #[I x.id, .string x.lb, .slice pa pn pc], ptr B] W fun e w' => e = .returned (.bool (!p)) ∧ G W w' := by
  have hc := hB.cell
  have hl := hB.lt
  have n1 : B < W.heap.size + 1 := by omega
  have HKK := hide (HK (W.alloc (.cells #[I x.id, .string x.lb, .slice pa pn pc] 69)) ((G.refl W).alloc _) (hr.G ((G.refl W).alloc _)))
  clear HK hB hr
  go_enter Tryz.func122, Tryz.ntmps122
  go_wp2_with fail
  refine HKK.out.mono ?_
  rintro e w1 ⟨rfl, g1⟩
  have HG := hide (((G.refl W).alloc (.cells #[I x.id, .string x.lb, .slice pa pn pc] 69)).trans g1)
  clear g1 HKK
  go_wp2_with fail
  go_ret
  exact ⟨rfl, HG.out⟩
set_option maxRecDepth 100000 in
set_option maxHeartbeats 1000000 in
theorem evN_ix  (p : Nd → Bool) (l : List Nd) (v : Value) (B : Nat) (W : World) (h : Row relN W v l) (hB : Blk W B 131 [.func (.func 82) #[] #[]]) (hm : l.length ≤ 4611686018427387904)
    (HK : ∀ x ∈ l, ∀ W', G W W' → ∀ (pa : Option Addr) (pn pc : Nat), Row eP.rel W' (.slice pa pn pc) x.ps → Calls Tryz.prog 82 #[.agg #[I x.id, .string x.lb, .slice pa pn pc]] W' fun e w' => e = .returned (.bool (p x)) ∧ G W' w') : Calls Tryz.prog 153 #[v, .func (.func 122) #[] #[ptr B]] W fun e W' => (∃ n : Int, e = .returned (I n) ∧ decide (0 ≤ n) = l.any fun x => !p x) ∧ G W W' := by
  obtain ⟨a, c, rfl⟩ := h.form
  have HS := hide h; have HB := hide hB; have HM := hide hm; have HKK := hide HK
  clear h hB hm HK
  go_enter Tryz.func153, Tryz.ntmps153
  go_wp2_with fail
  go_loopw [8, 5] (fun iv _ wr => ∃ i : Nat, iv = I i ∧ i ≤ l.length ∧ ((l.take i).any fun x => !p x) = false ∧ G W wr) (fun iv _ _ => l.length - (RowKit.intOf iv).toNat)
  case atStart => exact ⟨0, rfl, Nat.zero_le _, rfl, G.refl _⟩
  case round =>
    rename_i wr hout
    obtain ⟨i, rfl, hik, hno, hg⟩ := hrel
    by_cases hil : i < l.length
    · obtain ⟨x, hx⟩ : ∃ x, l[i]? = some x := ⟨_, List.getElem?_eq_getElem hil⟩
      obtain ⟨g, o, cap, q⟩ := HS.out.addr (by omega)
      injection q with q1 q2 q3
      subst q1 q3
      obtain ⟨cs, ⟨vp, hcs, hvp⟩, hr1⟩ := HS.out.at hx
      subst hcs
      obtain ⟨pa, pc, hvf⟩ := hvp.form
      obtain ⟨pn, hpn⟩ : ∃ pn, pn = x.ps.length := ⟨_, rfl⟩
      rw [← hpn] at hvf
      subst hvf
      have x1 : wr.cell? ⟨g, o + i * 3, none⟩ = some (I x.id) := rangeAt_G hr1 hg 0 _ rfl
      have x2 : wr.cell? ⟨g, o + i * 3 + 1, none⟩ = some (.string x.lb) := rangeAt_G hr1 hg 1 _ rfl
      have x3 : wr.cell? ⟨g, o + i * 3 + 2, none⟩ = some (.slice pa pn pc) := rangeAt_G hr1 hg 2 _ rfl
      have i1 : (i : Int) < l.length := Int.ofNat_lt.2 hil
      have KI := hide (evN_1 x B wr (p x) pa pn pc (hvp.G hg) (HB.out.G hg) (fun w2 g2 h2 => HKK.out x (List.mem_of_getElem? hx) w2 (hg.trans g2) pa pn pc h2))
      have HW : Hid (wrap64 ((i : Int) + 1) = (i : Int) + 1) := by show _ = _; have := HM.out; unfold wrap64; omega
      have HG := hide hg; have HNO := hide hno; have HX := hide hx; have HIL := hide hil
      clear hik hil hx q2 hg hno hvp hr1 hpn
      cases hpx : p x with
      | false =>
        rw [hpx] at KI
        have HF : Hid ((l.any fun x => !p x) = true) := by
          rw [Hid, List.any_eq_true]
          exact ⟨x, List.mem_of_getElem? HX.out, by rw [hpx]; rfl⟩
        clear hpx
        go_wp2_with fail
        refine KI.out.mono ?_
        rintro e w' ⟨rfl, hg'⟩
        have HG' := hide (HG.out.trans hg')
        clear hg' KI
        go_wp2_with fail
        go_ret
        refine ⟨⟨_, rfl, ?_⟩, HG'.out⟩
        rw [HF.out, decide_eq_true]; omega
      | true =>
        rw [hpx] at KI
        have HF : Hid (((l.take (i + 1)).any fun x => !p x) = false) := by
          rw [Hid, List.take_add_one, HX.out, List.any_append, HNO.out]
          simp [hpx]
        clear hpx
        go_wp2_with fail
        refine KI.out.mono ?_
        rintro e w' ⟨rfl, hg'⟩
        have HG' := hide (HG.out.trans hg')
        clear hg' KI
        go_wp2_with fail
        exact ⟨⟨i + 1, by rw [HW.out]; exact srl i, HIL.out, HF.out, HG'.out⟩, by rw [HW.out]; exact sms HIL.out⟩
    · have i1 : ¬ ((i : Int) < l.length) := by omega
      have HF : Hid ((l.any fun x => !p x) = false) := by rw [Hid, ← hno, List.take_of_length_le (by omega)]
      have HG := hide hg
      clear hik hil hno hg
      go_wp2_with fail
      go_ret
      refine ⟨⟨_, rfl, ?_⟩, HG.out⟩
      rw [HF.out, decide_eq_false (by decide)]
set_option maxRecDepth 100000 in
set_option maxHeartbeats 1000000 in
theorem evN_cf  (p : Nd → Bool) (l : List Nd) (v : Value) (B : Nat) (W : World) (h : Row relN W v l) (hB : Blk W B 131 [.func (.func 82) #[] #[]]) (hm : l.length ≤ 4611686018427387904)
    (HK : ∀ x ∈ l, ∀ W', G W W' → ∀ (pa : Option Addr) (pn pc : Nat), Row eP.rel W' (.slice pa pn pc) x.ps → Calls Tryz.prog 82 #[.agg #[I x.id, .string x.lb, .slice pa pn pc]] W' fun e w' => e = .returned (.bool (p x)) ∧ G W' w') : Calls Tryz.prog 121 #[v, .func (.func 122) #[] #[ptr B]] W fun e W' => e = .returned (.bool (l.any fun x => !p x)) ∧ G W W' := by
  have KI := hide (evN_ix  p l v B W h hB hm HK)
  clear h hB hm HK
  obtain ⟨bb, hbb⟩ : ∃ bb, bb = l.any fun x => !p x := ⟨_, rfl⟩
  rw [← hbb] at KI ⊢
  clear hbb
  go_enter Tryz.func121, Tryz.ntmps121
  go_wp2_with fail
  refine KI.out.mono ?_
  rintro e w' ⟨⟨n, rfl, hn⟩, hg⟩
  have HN := hide hn; have HG := hide hg
  clear hn hg KI
  go_wp2_with fail
  go_ret
  exact ⟨by rw [← HN.out]; rfl, HG.out⟩
set_option maxRecDepth 100000 in
set_option maxHeartbeats 1000000 in
theorem evN_any  (p : Nd → Bool) (l : List Nd) (v : Value) (W : World) (h : Row relN W v l) (hm : l.length ≤ 4611686018427387904)
    (HK : ∀ x ∈ l, ∀ W', G W W' → ∀ (pa : Option Addr) (pn pc : Nat), Row eP.rel W' (.slice pa pn pc) x.ps → Calls Tryz.prog 82 #[.agg #[I x.id, .string x.lb, .slice pa pn pc]] W' fun e w' => e = .returned (.bool (p x)) ∧ G W' w') : Calls Tryz.prog 81 #[v, .func (.func 82) #[] #[]] W fun e W' => e = .returned (.bool (l.all p)) ∧ G W W' := by
  have hA := (G.refl W).alloc (.cells #[.func (.func 82) #[] #[]] 131)
  have KI := hide (evN_cf  p l v W.heap.size (W.alloc (.cells #[.func (.func 82) #[] #[]] 131)) (h.G hA) (Blk.new W [.func (.func 82) #[] #[]] 131) hm (fun x hx w2 g2 => HK x hx w2 (hA.trans g2)))
  have HA := hide hA
  clear h hm HK hA
  rw [← every_all]
  generalize (l.any fun x => !p x) = bb at KI ⊢
  go_enter Tryz.func81, Tryz.ntmps81
  go_wp2_with fail
  refine KI.out.mono ?_
  rintro e w' ⟨rfl, hg⟩
  have HG := hide (HA.out.trans hg)
  clear hg KI HA
  go_wp2_with fail
  go_ret
  exact ⟨rfl, HG.out⟩
set_option maxRecDepth 100000 in
set_option maxHeartbeats 1000000 in
theorem evE_1 (bx : Nat) (x : Ed) (B : Nat) (W : World) (p : Bool) (pa : Option Addr) (pn pc : Nat) (hr : Row eP.rel W (.slice pa pn pc) x.ps) (hB : Blk W B 134 [.func (.func 86) #[] #[ptr bx]])
    (HK : ∀ W', G W W' → Row eP.rel W' (.slice pa pn pc) x.ps → Calls Tryz.prog 86 #[.agg #[I x.id, .string x.ty, I x.fr, I x.to, .slice pa pn pc], ptr bx] W' fun e w' => e = .returned (.bool p) ∧ G W' w') : Calls Tryz.prog 128 #[.agg #[I x.id, .string x.ty, I x.fr, I x.to, .slice pa pn pc], ptr B] W fun e w' => e = .returned (.bool (!p)) ∧ G W w' := by
  have hc := hB.cell
  have hl := hB.lt
  have n1 : B < W.heap.size + 1 := by omega
  have HKK := hide (HK (W.alloc (.cells #[I x.id, .string x.ty, I x.fr, I x.to, .slice pa pn pc] 72)) ((G.refl W).alloc _) (hr.G ((G.refl W).alloc _)))
  clear HK hB hr
  go_enter Tryz.func128, Tryz.ntmps128
  go_wp2_with fail
  refine HKK.out.mono ?_
  rintro e w1 ⟨rfl, g1⟩
  have HG := hide (((G.refl W).alloc (.cells #[I x.id, .string x.ty, I x.fr, I x.to, .slice pa pn pc] 72)).trans g1)
  clear g1 HKK
  go_wp2_with fail
  go_ret
  exact ⟨rfl, HG.out⟩
set_option maxRecDepth 100000 in
set_option maxHeartbeats 1000000 in
theorem evE_ix (bx : Nat) (p : Ed → Bool) (l : List Ed) (v : Value) (B : Nat) (W : World) (h : Row relE W v l) (hB : Blk W B 134 [.func (.func 86) #[] #[ptr bx]]) (hm : l.length ≤ 4611686018427387904)
    (HK : ∀ x ∈ l, ∀ W', G W W' → ∀ (pa : Option Addr) (pn pc : Nat), Row eP.rel W' (.slice pa pn pc) x.ps → Calls Tryz.prog 86 #[.agg #[I x.id, .string x.ty, I x.fr, I x.to, .slice pa pn pc], ptr bx] W' fun e w' => e = .returned (.bool (p x)) ∧ G W' w') : Calls Tryz.prog 157 #[v, .func (.func 128) #[] #[ptr B]] W fun e W' => (∃ n : Int, e = .returned (I n) ∧ decide (0 ≤ n) = l.any fun x => !p x) ∧ G W W' := by
  obtain ⟨a, c, rfl⟩ := h.form
  have HS := hide h; have HB := hide hB; have HM := hide hm; have HKK := hide HK
  clear h hB hm HK
  go_enter Tryz.func157, Tryz.ntmps157
  go_wp2_with fail
  go_loopw [8, 5] (fun iv _ wr => ∃ i : Nat, iv = I i ∧ i ≤ l.length ∧ ((l.take i).any fun x => !p x) = false ∧ G W wr) (fun iv _ _ => l.length - (RowKit.intOf iv).toNat)
  case atStart => exact ⟨0, rfl, Nat.zero_le _, rfl, G.refl _⟩
  case round =>
    rename_i wr hout
    obtain ⟨i, rfl, hik, hno, hg⟩ := hrel
    by_cases hil : i < l.length
    · obtain ⟨x, hx⟩ : ∃ x, l[i]? = some x := ⟨_, List.getElem?_eq_getElem hil⟩
      obtain ⟨g, o, cap, q⟩ := HS.out.addr (by omega)
      injection q with q1 q2 q3
      subst q1 q3
      obtain ⟨cs, ⟨vp, hcs, hvp⟩, hr1⟩ := HS.out.at hx
      subst hcs
      obtain ⟨pa, pc, hvf⟩ := hvp.form
      obtain ⟨pn, hpn⟩ : ∃ pn, pn = x.ps.length := ⟨_, rfl⟩
      rw [← hpn] at hvf
      subst hvf
      have x1 : wr.cell? ⟨g, o + i * 5, none⟩ = some (I x.id) := rangeAt_G hr1 hg 0 _ rfl
      have x2 : wr.cell? ⟨g, o + i * 5 + 1, none⟩ = some (.string x.ty) := rangeAt_G hr1 hg 1 _ rfl
      have x3 : wr.cell? ⟨g, o + i * 5 + 2, none⟩ = some (I x.fr) := rangeAt_G hr1 hg 2 _ rfl
      have x4 : wr.cell? ⟨g, o + i * 5 + 3, none⟩ = some (I x.to) := rangeAt_G hr1 hg 3 _ rfl
      have x5 : wr.cell? ⟨g, o + i * 5 + 4, none⟩ = some (.slice pa pn pc) := rangeAt_G hr1 hg 4 _ rfl
      have i1 : (i : Int) < l.length := Int.ofNat_lt.2 hil
      have KI := hide (evE_1 bx x B wr (p x) pa pn pc (hvp.G hg) (HB.out.G hg) (fun w2 g2 h2 => HKK.out x (List.mem_of_getElem? hx) w2 (hg.trans g2) pa pn pc h2))
      have HW : Hid (wrap64 ((i : Int) + 1) = (i : Int) + 1) := by show _ = _; have := HM.out; unfold wrap64; omega
      have HG := hide hg; have HNO := hide hno; have HX := hide hx; have HIL := hide hil
      clear hik hil hx q2 hg hno hvp hr1 hpn
      cases hpx : p x with
      | false =>
        rw [hpx] at KI
        have HF : Hid ((l.any fun x => !p x) = true) := by
          rw [Hid, List.any_eq_true]
          exact ⟨x, List.mem_of_getElem? HX.out, by rw [hpx]; rfl⟩
        clear hpx
        go_wp2_with fail
        refine KI.out.mono ?_
        rintro e w' ⟨rfl, hg'⟩
        have HG' := hide (HG.out.trans hg')
        clear hg' KI
        go_wp2_with fail
        go_ret
        refine ⟨⟨_, rfl, ?_⟩, HG'.out⟩
        rw [HF.out, decide_eq_true]; omega
      | true =>
        rw [hpx] at KI
        have HF : Hid (((l.take (i + 1)).any fun x => !p x) = false) := by
          rw [Hid, List.take_add_one, HX.out, List.any_append, HNO.out]
          simp [hpx]
        clear hpx
        go_wp2_with fail
        refine KI.out.mono ?_
        rintro e w' ⟨rfl, hg'⟩
        have HG' := hide (HG.out.trans hg')
        clear hg' KI
        go_wp2_with fail
        exact ⟨⟨i + 1, by rw [HW.out]; exact srl i, HIL.out, HF.out, HG'.out⟩, by rw [HW.out]; exact sms HIL.out⟩
    · have i1 : ¬ ((i : Int) < l.length) := by omega
      have HF : Hid ((l.any fun x => !p x) = false) := by rw [Hid, ← hno, List.take_of_length_le (by omega)]
      have HG := hide hg
      clear hik hil hno hg
      go_wp2_with fail
      go_ret
      refine ⟨⟨_, rfl, ?_⟩, HG.out⟩
      rw [HF.out, decide_eq_false (by decide)]
set_option maxRecDepth 100000 in
set_option maxHeartbeats 1000000 in
theorem evE_cf (bx : Nat) (p : Ed → Bool) (l : List Ed) (v : Value) (B : Nat) (W : World) (h : Row relE W v l) (hB : Blk W B 134 [.func (.func 86) #[] #[ptr bx]]) (hm : l.length ≤ 4611686018427387904)
    (HK : ∀ x ∈ l, ∀ W', G W W' → ∀ (pa : Option Addr) (pn pc : Nat), Row eP.rel W' (.slice pa pn pc) x.ps → Calls Tryz.prog 86 #[.agg #[I x.id, .string x.ty, I x.fr, I x.to, .slice pa pn pc], ptr bx] W' fun e w' => e = .returned (.bool (p x)) ∧ G W' w') : Calls Tryz.prog 127 #[v, .func (.func 128) #[] #[ptr B]] W fun e W' => e = .returned (.bool (l.any fun x => !p x)) ∧ G W W' := by
  have KI := hide (evE_ix bx p l v B W h hB hm HK)
  clear h hB hm HK
  obtain ⟨bb, hbb⟩ : ∃ bb, bb = l.any fun x => !p x := ⟨_, rfl⟩
  rw [← hbb] at KI ⊢
  clear hbb
  go_enter Tryz.func127, Tryz.ntmps127
  go_wp2_with fail
  refine KI.out.mono ?_
  rintro e w' ⟨⟨n, rfl, hn⟩, hg⟩
  have HN := hide hn; have HG := hide hg
  clear hn hg KI
  go_wp2_with fail
  go_ret
  exact ⟨by rw [← HN.out]; rfl, HG.out⟩
set_option maxRecDepth 100000 in
set_option maxHeartbeats 1000000 in
theorem evE_any (bx : Nat) (p : Ed → Bool) (l : List Ed) (v : Value) (W : World) (h : Row relE W v l) (hm : l.length ≤ 4611686018427387904)
    (HK : ∀ x ∈ l, ∀ W', G W W' → ∀ (pa : Option Addr) (pn pc : Nat), Row eP.rel W' (.slice pa pn pc) x.ps → Calls Tryz.prog 86 #[.agg #[I x.id, .string x.ty, I x.fr, I x.to, .slice pa pn pc], ptr bx] W' fun e w' => e = .returned (.bool (p x)) ∧ G W' w') : Calls Tryz.prog 85 #[v, .func (.func 86) #[] #[ptr bx]] W fun e W' => e = .returned (.bool (l.all p)) ∧ G W W' := by
  have hA := (G.refl W).alloc (.cells #[.func (.func 86) #[] #[ptr bx]] 134)
  have KI := hide (evE_cf bx p l v W.heap.size (W.alloc (.cells #[.func (.func 86) #[] #[ptr bx]] 134)) (h.G hA) (Blk.new W [.func (.func 86) #[] #[ptr bx]] 134) hm (fun x hx w2 g2 => HK x hx w2 (hA.trans g2)))
  have HA := hide hA
  clear h hm HK hA
  rw [← every_all]
  generalize (l.any fun x => !p x) = bb at KI ⊢
  go_enter Tryz.func85, Tryz.ntmps85
  go_wp2_with fail
  refine KI.out.mono ?_
  rintro e w' ⟨rfl, hg⟩
  have HG := hide (HA.out.trans hg)
  clear hg KI HA
  go_wp2_with fail
  go_ret
  exact ⟨rfl, HG.out⟩
end Go.Proofs.YtifioikdhfhljaaGreatDoor
