/- Wire: may a request be sent? -/
import Derived.Test.YtcdjjmjhdoanlaaGreatDoorW10
namespace Go.Proofs.YtcdjjmjhdoanlaaGreatDoor
section
open Go.RowKit

/-- A request, as a thing of thought. -/
structure Rq where
  k : Int
  ns : List Int
  t : ByteArray
  bs : List Bool
/-- A request in memory: v is its value. -/
structure RqV (W : World) (v : Value) (q : Rq) : Prop where
  h : ∃ vn vb, v = .agg #[I q.k, vn, .string q.t, vb] ∧ Row eI.rel W vn q.ns ∧ Row eZ.rel W vb q.bs
  r : ∀ x ∈ q.ns, R64 x
  ln : q.ns.length ≤ 17592186044416
  lt : q.t.size ≤ 140737488351232
  lb : q.bs.length ≤ 140737488351232
theorem RqV.G {W W' : World} {v : Value} {q : Rq} (h : RqV W v q) (g : G W W') : RqV W' v q := by
  obtain ⟨⟨vn, vb, e, h1, h2⟩, r, a, b, c⟩ := h
  exact ⟨⟨vn, vb, e, h1.G g, h2.G g⟩, r, a, b, c⟩
/-- A request's body. -/
def Rq.body (q : Rq) : List Nat := (cnt q.ns.length ++ q.ns.flatMap (fun n => cnt (zig n))) ++ ((cnt q.t.size ++ bys q.t) ++ (cnt q.bs.length ++ pk q.bs))
theorem catL_num : ∀ l : List Int, catL numF l = some (l.flatMap fun n => cnt (zig n))
  | [] => rfl
  | n :: l => by rw [catL, catL_num l, List.flatMap_cons]; rfl
theorem Rq.body_eq (q : Rq) : cat (cat (some (cnt q.ns.length)) (catL numF q.ns)) (cat (some (cnt q.t.size ++ bys q.t)) (some (cnt q.bs.length ++ pk q.bs))) = some q.body := by rw [catL_num]; rfl
set_option maxRecDepth 100000 in
set_option maxHeartbeats 1000000 in
theorem request_any (W0 B w : World) (b : Nat) (s : Option (List Nat)) (v : Value) (q : Rq) (h : Wst W0 B w b s) (hv : RqV W0 v q) :
    Calls Tryz.prog 23 #[ptr b, v] w fun e w' => e = .returned (.tuple #[]) ∧ Wst W0 B w' b (wap s (some q.body)) := by
  obtain ⟨⟨vn, vb, rfl, h1, h2⟩, hr, ln, lt, lb⟩ := hv
  have hA := (G.refl w).alloc (.cells #[I q.k, vn, .string q.t, vb] 33)
  have hB := Blk.new w [I q.k, vn, .string q.t, vb] 33
  have hh := (h.G hA).rebase
  have HKP := hide hh.2
  have K1 := hide (putI_any W0 _ _ b s vn q.ns hh.1 h1 hr (Nat.le_trans ln (by decide)))
  have HB := hide hB
  have H2 := hide h2
  have HL := hide (And.intro lt lb)
  have hc := hB.cell
  have HE := hide (q.body_eq)
  clear h h1 h2 hr ln lt lb hB hA hh
  go_enter Tryz.func23, Tryz.ntmps23
  go_wp2_with fail
  generalize w.alloc (.cells #[I q.k, vn, .string q.t, vb] 33) = wA at HB HKP K1 hc ⊢
  refine K1.out.mono ?_
  rintro e w1 ⟨rfl, hw1⟩
  have hb1 := hw1.k.blk HB.out (by decide) (by decide)
  have K2 := hide (text_any W0 wA w1 b _ q.t hw1 HL.out.1)
  have hc1 := hb1.cell
  clear hw1 hb1 K1
  go_wp2_with fail
  refine K2.out.mono ?_
  rintro e w2 ⟨rfl, hw2⟩
  have hb2 := hw2.k.blk HB.out (by decide) (by decide)
  have K3 := hide (bits_any W0 wA w2 b _ vb q.bs hw2 H2.out HL.out.2)
  have hc2 := hb2.cell
  clear hw2 hb2 K2
  go_wp2_with fail
  refine K3.out.mono ?_
  rintro e w3 ⟨rfl, hw3⟩
  rw [wap_cat, wap_cat, HE.out] at hw3
  have HF := hide (hw3.base HKP.out)
  clear hw3 K3
  go_wp2_with fail
  exact ⟨rfl, _, results_none rfl _ _ _, rfl, HF.out⟩
def WfP (W0 : World) (k : Int) (s : Option (List Nat)) (e : Ending) (w' : World) : Prop := ∃ v' c, e = .returned (.tuple #[v', I c]) ∧ G W0 w' ∧ Fresh W0 v' ∧ match s with | none => c = 163 ∧ v' = .slice none 0 0 | some l => c = frC k l.length ∧ SwB w' v' (frL k l)
set_option maxRecDepth 100000 in
set_option maxHeartbeats 1000000 in
theorem wframe_any (W0 B w : World) (b : Nat) (s : Option (List Nat)) (k : Int) (h : Wst W0 B w b s) (hby : ∀ l, s = some l → By l) :
    Calls Tryz.prog 24 #[ptr b, I k] w (WfP W0 k s) := by
  cases s with
  | none =>
    obtain ⟨l, hw⟩ := h
    obtain ⟨g, _, _, ⟨v1, hB, _, _⟩, _⟩ := hw
    have hc := hB.cell
    have HG := hide g
    clear g hB
    go_enter Tryz.func24, Tryz.ntmps24
    go_wp2_with fail
    go_ret2
    exact ⟨_, 163, rfl, HG.out, Fresh.nil _, rfl, rfl⟩
  | some l =>
    obtain ⟨g, hb, hl, ⟨v1, hB, hs, hf⟩, _⟩ := h
    have hc := hB.cell
    have KF := hide (frame_any k l v1 w hs.toRow (hby l rfl) (by omega))
    have HG := hide g
    clear g hB hs hf hl hby hb
    go_enter Tryz.func24, Tryz.ntmps24
    go_wp2_with fail
    refine KF.out.mono ?_
    rintro e w1 ⟨v', rfl, hs1, hg1, hf1⟩
    have HF : Hid (∃ v'' c, Ending.returned (.tuple #[v', I (frC k l.length)]) = .returned (.tuple #[v'', I c]) ∧ G W0 w1 ∧ Fresh W0 v'' ∧ c = frC k l.length ∧ SwB w1 v'' (frL k l)) := ⟨v', _, rfl, HG.out.trans hg1, hf1.old HG.out, rfl, hs1⟩
    clear hs1 hg1 hf1 KF
    go_wp2_with fail
    go_ret2
    exact HF.out
theorem cnt_zig_by (n : Int) : By (cnt (zig n)) := cnt_by _
theorem Rq.body_by (q : Rq) : By q.body := by
  refine ((cnt_by _).app (fun x hx => ?_)).app (((cnt_by _).app (bys_by _)).app ((cnt_by _).app (pk_by _)))
  obtain ⟨n, _, hn⟩ := List.mem_flatMap.1 hx
  exact cnt_by _ x hn
set_option maxRecDepth 100000 in
set_option maxHeartbeats 1000000 in
theorem asks_any (k : Int) (w : World) : Calls Tryz.prog 19 #[I k] w fun e w' => e = .returned (.bool (decide (1 ≤ k ∧ k ≤ 12))) ∧ w' = w := by
  by_cases c1 : 1 ≤ k
  · by_cases c2 : k ≤ 12
    · have e : decide (1 ≤ k ∧ k ≤ 12) = true := decide_eq_true ⟨c1, c2⟩
      rw [e]
      have d1 := decide_eq_true c1
      have d2 := decide_eq_true c2
      clear e
      go_enter Tryz.func19, Tryz.ntmps19
      go_wp2_with fail
      go_ret
      exact ⟨rfl, rfl⟩
    · have e : decide (1 ≤ k ∧ k ≤ 12) = false := decide_eq_false (fun h => c2 h.2)
      rw [e]
      have d1 := decide_eq_true c1
      have d2 := decide_eq_false c2
      clear e
      go_enter Tryz.func19, Tryz.ntmps19
      go_wp2_with fail
      go_ret
      exact ⟨rfl, rfl⟩
  · have e : decide (1 ≤ k ∧ k ≤ 12) = false := decide_eq_false (fun h => c1 h.1)
    rw [e]
    have d1 := decide_eq_false c1
    clear e
    go_enter Tryz.func19, Tryz.ntmps19
    go_wp2_with fail
    go_ret
    exact ⟨rfl, rfl⟩
end
open Go.RowKit

/-- How many numbers each kind takes. -/
def tkL : List Int := [0, 6, 0, 1, 1, 1, 1, 0, 2, 0, 0, 0, 1]
def tkN (k : Int) : Int := tkL.getD k.toNat 0
/-- The table, in memory. -/
def Tks (w : World) : Prop := ∀ k : Nat, k < 13 → w.cell? ⟨0, k, none⟩ = some (I (tkN k))
theorem Tks.G {w w' : World} (h : Tks w) (g : G w w') : Tks w' := fun k hk => by
  have := h k hk
  rw [g.cell (cell_lt this)]; exact this
def Rq.may (q : Rq) : Bool := decide ((q.ns.length : Int) = tkN q.k) && (decide (q.t.size = 0) || decide (q.k = 3)) && (decide (q.bs.length = 0) || decide (q.k = 7)) && decide (q.bs.length ≤ 4096)
theorem toList_inj {a b : ByteArray} (h : a.toList = b.toList) : a = b := by
  have := beq_toListBytes a b
  rw [h, beq_self_eq_true] at this
  cases a with | mk a => cases b with | mk b =>
    have h2 : (a == b) = true := this
    rw [eq_of_beq h2]
theorem toList_nil {b : ByteArray} : b.toList = [] ↔ b = ByteArray.empty := ⟨fun h => toList_inj (h.trans (by first | (simp; done) | kernel_rfl)), fun h => by rw [h]; first | (simp; done) | kernel_rfl⟩
theorem str_ne (t : ByteArray) (h : ¬ t.size = 0) : t.toList.isEmpty = false := by
  cases e : t.toList with
  | nil => exact absurd (by rw [toList_nil.1 e]; rfl) h
  | cons a l => rfl
theorem str_e (t : ByteArray) (h : t.size = 0) : t = { data := #[] } := by
  obtain ⟨d⟩ := t
  have : d = #[] := Array.eq_empty_of_size_eq_zero h
  subst this; rfl
theorem str_em (t : ByteArray) (h : t.size = 0) : t.toList.isEmpty = true := by
  have e := str_e t h
  subst e
  first | (simp; done) | kernel_rfl
set_option maxRecDepth 100000 in
set_option maxHeartbeats 1000000 in
theorem may_a (w : World) (v : Value) (q : Rq) (hv : RqV w v q) (hT : Tks w) (hk : 1 ≤ q.k ∧ q.k ≤ 12) (cA : ¬ ((q.ns.length : Int) = tkN q.k)) : Calls Tryz.prog 22 #[v] w fun e w' => e = .returned (.bool false) ∧ G w w' := by
  obtain ⟨⟨vn, vb, rfl, h1, h2⟩, hr, ln, lt, lb⟩ := hv
  obtain ⟨pn, cn, rfl⟩ := h1.form
  obtain ⟨pb, cb, rfl⟩ := h2.form
  obtain ⟨k, ns, t, bs⟩ := q
  simp only at *
  obtain ⟨kn, rfl⟩ : ∃ kn : Nat, k = kn := ⟨k.toNat, by omega⟩
  have x0 := hT kn (by omega)
  have hB := Blk.new w [I kn, .slice pn ns.length cn, .string t, .slice pb bs.length cb] 33
  have hA := (G.refl w).alloc (.cells #[I kn, .slice pn ns.length cn, .string t, .slice pb bs.length cb] 33)
  have x1 := (hA.cell (cell_lt x0)).trans x0
  have hc := hB.cell
  have i1 : (kn : Int) < 13 := by omega
  have i2 : 0 ≤ (kn : Int) := by omega
  obtain ⟨tk, htk⟩ : ∃ tk, tk = tkN kn := ⟨_, rfl⟩
  rw [← htk] at x1
  have a1 : ((ns.length : Int) == tk) = false := beq_eq_false_iff_ne.2 (by rw [htk]; exact cA)
  clear h1 h2 hr ln lt lb hT x0 hB htk cA hk
  go_enter Tryz.func22, Tryz.ntmps22
  go_wp2_with fail
  go_quiet (fail)
  go_wp2_with fail
  go_ret
  exact ⟨rfl, hA.drewN _⟩
set_option maxRecDepth 100000 in
set_option maxHeartbeats 1000000 in
theorem may_ez (w : World) (v : Value) (q : Rq) (hv : RqV w v q) (hT : Tks w) (hk : 1 ≤ q.k ∧ q.k ≤ 12) (cA : ((q.ns.length : Int) = tkN q.k)) (cT : q.t.size = 0) (cZ : q.bs.length = 0) : Calls Tryz.prog 22 #[v] w fun e w' => e = .returned (.bool true) ∧ G w w' := by
  obtain ⟨⟨vn, vb, rfl, h1, h2⟩, hr, ln, lt, lb⟩ := hv
  obtain ⟨pn, cn, rfl⟩ := h1.form
  obtain ⟨pb, cb, rfl⟩ := h2.form
  obtain ⟨k, ns, t, bs⟩ := q
  simp only at *
  obtain ⟨kn, rfl⟩ : ∃ kn : Nat, k = kn := ⟨k.toNat, by omega⟩
  have x0 := hT kn (by omega)
  have hB := Blk.new w [I kn, .slice pn ns.length cn, .string t, .slice pb bs.length cb] 33
  have hA := (G.refl w).alloc (.cells #[I kn, .slice pn ns.length cn, .string t, .slice pb bs.length cb] 33)
  have x1 := (hA.cell (cell_lt x0)).trans x0
  have hc := hB.cell
  have i1 : (kn : Int) < 13 := by omega
  have i2 : 0 ≤ (kn : Int) := by omega
  obtain ⟨tk, htk⟩ : ∃ tk, tk = tkN kn := ⟨_, rfl⟩
  rw [← htk] at x1
  replace x1 : (w.alloc (.cells #[I kn, .slice pn ns.length cn, .string t, .slice pb bs.length cb] 33)).cell? ⟨0, kn, none⟩ = some (I ns.length) := by rw [x1, htk, cA]
  clear htk tk
  have b1 := str_em t cT
  have z1 : ((bs.length : Int) == 0) = true := beq_iff_eq.2 (by omega)
  have l1 : decide ((bs.length : Int) ≤ 4096) = true := decide_eq_true (by omega)
  clear h1 h2 hr ln lt lb hT x0 hB cA cT cZ hk
  go_enter Tryz.func22, Tryz.ntmps22
  go_wp2_with fail
  go_quiet (fail)
  go_wp2_with fail
  go_ret
  exact ⟨rfl, hA.drewN _⟩
set_option maxRecDepth 100000 in
set_option maxHeartbeats 1000000 in
theorem may_en7True (w : World) (v : Value) (q : Rq) (hv : RqV w v q) (hT : Tks w) (hk : 1 ≤ q.k ∧ q.k ≤ 12) (cA : ((q.ns.length : Int) = tkN q.k)) (cT : q.t.size = 0) (cZ : ¬ q.bs.length = 0) (cJ : q.k = 7) (cL : q.bs.length ≤ 4096) : Calls Tryz.prog 22 #[v] w fun e w' => e = .returned (.bool true) ∧ G w w' := by
  obtain ⟨⟨vn, vb, rfl, h1, h2⟩, hr, ln, lt, lb⟩ := hv
  obtain ⟨pn, cn, rfl⟩ := h1.form
  obtain ⟨pb, cb, rfl⟩ := h2.form
  obtain ⟨k, ns, t, bs⟩ := q
  simp only at *
  obtain ⟨kn, rfl⟩ : ∃ kn : Nat, k = kn := ⟨k.toNat, by omega⟩
  have x0 := hT kn (by omega)
  have hB := Blk.new w [I kn, .slice pn ns.length cn, .string t, .slice pb bs.length cb] 33
  have hA := (G.refl w).alloc (.cells #[I kn, .slice pn ns.length cn, .string t, .slice pb bs.length cb] 33)
  have x1 := (hA.cell (cell_lt x0)).trans x0
  have hc := hB.cell
  have i1 : (kn : Int) < 13 := by omega
  have i2 : 0 ≤ (kn : Int) := by omega
  obtain ⟨tk, htk⟩ : ∃ tk, tk = tkN kn := ⟨_, rfl⟩
  rw [← htk] at x1
  replace x1 : (w.alloc (.cells #[I kn, .slice pn ns.length cn, .string t, .slice pb bs.length cb] 33)).cell? ⟨0, kn, none⟩ = some (I ns.length) := by rw [x1, htk, cA]
  clear htk tk
  have b1 := str_em t cT
  have z1 : ((bs.length : Int) == 0) = false := beq_eq_false_iff_ne.2 (by omega)
  have z2 : ((kn : Int) == 7) = true := beq_iff_eq.2 cJ
  have l1 : decide ((bs.length : Int) ≤ 4096) = true := decide_eq_true (by omega)
  clear h1 h2 hr ln lt lb hT x0 hB cA cT cZ cJ cL hk
  go_enter Tryz.func22, Tryz.ntmps22
  go_wp2_with fail
  go_quiet (fail)
  go_wp2_with fail
  go_ret
  exact ⟨rfl, hA.drewN _⟩
set_option maxRecDepth 100000 in
set_option maxHeartbeats 1000000 in
theorem may_en7False (w : World) (v : Value) (q : Rq) (hv : RqV w v q) (hT : Tks w) (hk : 1 ≤ q.k ∧ q.k ≤ 12) (cA : ((q.ns.length : Int) = tkN q.k)) (cT : q.t.size = 0) (cZ : ¬ q.bs.length = 0) (cJ : q.k = 7) (cL : ¬ q.bs.length ≤ 4096) : Calls Tryz.prog 22 #[v] w fun e w' => e = .returned (.bool false) ∧ G w w' := by
  obtain ⟨⟨vn, vb, rfl, h1, h2⟩, hr, ln, lt, lb⟩ := hv
  obtain ⟨pn, cn, rfl⟩ := h1.form
  obtain ⟨pb, cb, rfl⟩ := h2.form
  obtain ⟨k, ns, t, bs⟩ := q
  simp only at *
  obtain ⟨kn, rfl⟩ : ∃ kn : Nat, k = kn := ⟨k.toNat, by omega⟩
  have x0 := hT kn (by omega)
  have hB := Blk.new w [I kn, .slice pn ns.length cn, .string t, .slice pb bs.length cb] 33
  have hA := (G.refl w).alloc (.cells #[I kn, .slice pn ns.length cn, .string t, .slice pb bs.length cb] 33)
  have x1 := (hA.cell (cell_lt x0)).trans x0
  have hc := hB.cell
  have i1 : (kn : Int) < 13 := by omega
  have i2 : 0 ≤ (kn : Int) := by omega
  obtain ⟨tk, htk⟩ : ∃ tk, tk = tkN kn := ⟨_, rfl⟩
  rw [← htk] at x1
  replace x1 : (w.alloc (.cells #[I kn, .slice pn ns.length cn, .string t, .slice pb bs.length cb] 33)).cell? ⟨0, kn, none⟩ = some (I ns.length) := by rw [x1, htk, cA]
  clear htk tk
  have b1 := str_em t cT
  have z1 : ((bs.length : Int) == 0) = false := beq_eq_false_iff_ne.2 (by omega)
  have z2 : ((kn : Int) == 7) = true := beq_iff_eq.2 cJ
  have l1 : decide ((bs.length : Int) ≤ 4096) = false := decide_eq_false (by omega)
  clear h1 h2 hr ln lt lb hT x0 hB cA cT cZ cJ cL hk
  go_enter Tryz.func22, Tryz.ntmps22
  go_wp2_with fail
  go_quiet (fail)
  go_wp2_with fail
  go_ret
  exact ⟨rfl, hA.drewN _⟩
set_option maxRecDepth 100000 in
set_option maxHeartbeats 1000000 in
theorem may_enn (w : World) (v : Value) (q : Rq) (hv : RqV w v q) (hT : Tks w) (hk : 1 ≤ q.k ∧ q.k ≤ 12) (cA : ((q.ns.length : Int) = tkN q.k)) (cT : q.t.size = 0) (cZ : ¬ q.bs.length = 0) (cJ : ¬ q.k = 7) : Calls Tryz.prog 22 #[v] w fun e w' => e = .returned (.bool false) ∧ G w w' := by
  obtain ⟨⟨vn, vb, rfl, h1, h2⟩, hr, ln, lt, lb⟩ := hv
  obtain ⟨pn, cn, rfl⟩ := h1.form
  obtain ⟨pb, cb, rfl⟩ := h2.form
  obtain ⟨k, ns, t, bs⟩ := q
  simp only at *
  obtain ⟨kn, rfl⟩ : ∃ kn : Nat, k = kn := ⟨k.toNat, by omega⟩
  have x0 := hT kn (by omega)
  have hB := Blk.new w [I kn, .slice pn ns.length cn, .string t, .slice pb bs.length cb] 33
  have hA := (G.refl w).alloc (.cells #[I kn, .slice pn ns.length cn, .string t, .slice pb bs.length cb] 33)
  have x1 := (hA.cell (cell_lt x0)).trans x0
  have hc := hB.cell
  have i1 : (kn : Int) < 13 := by omega
  have i2 : 0 ≤ (kn : Int) := by omega
  obtain ⟨tk, htk⟩ : ∃ tk, tk = tkN kn := ⟨_, rfl⟩
  rw [← htk] at x1
  replace x1 : (w.alloc (.cells #[I kn, .slice pn ns.length cn, .string t, .slice pb bs.length cb] 33)).cell? ⟨0, kn, none⟩ = some (I ns.length) := by rw [x1, htk, cA]
  clear htk tk
  have b1 := str_em t cT
  have z1 : ((bs.length : Int) == 0) = false := beq_eq_false_iff_ne.2 (by omega)
  have z2 : ((kn : Int) == 7) = false := beq_eq_false_iff_ne.2 cJ
  clear h1 h2 hr ln lt lb hT x0 hB cA cT cZ cJ hk
  go_enter Tryz.func22, Tryz.ntmps22
  go_wp2_with fail
  go_quiet (fail)
  go_wp2_with fail
  go_ret
  exact ⟨rfl, hA.drewN _⟩
set_option maxRecDepth 100000 in
set_option maxHeartbeats 1000000 in
theorem may_n3z (w : World) (v : Value) (q : Rq) (hv : RqV w v q) (hT : Tks w) (hk : 1 ≤ q.k ∧ q.k ≤ 12) (cA : ((q.ns.length : Int) = tkN q.k)) (cT : ¬ q.t.size = 0) (cK : q.k = 3) (cZ : q.bs.length = 0) : Calls Tryz.prog 22 #[v] w fun e w' => e = .returned (.bool true) ∧ G w w' := by
  obtain ⟨⟨vn, vb, rfl, h1, h2⟩, hr, ln, lt, lb⟩ := hv
  obtain ⟨pn, cn, rfl⟩ := h1.form
  obtain ⟨pb, cb, rfl⟩ := h2.form
  obtain ⟨k, ns, t, bs⟩ := q
  simp only at *
  obtain ⟨kn, rfl⟩ : ∃ kn : Nat, k = kn := ⟨k.toNat, by omega⟩
  have x0 := hT kn (by omega)
  have hB := Blk.new w [I kn, .slice pn ns.length cn, .string t, .slice pb bs.length cb] 33
  have hA := (G.refl w).alloc (.cells #[I kn, .slice pn ns.length cn, .string t, .slice pb bs.length cb] 33)
  have x1 := (hA.cell (cell_lt x0)).trans x0
  have hc := hB.cell
  have i1 : (kn : Int) < 13 := by omega
  have i2 : 0 ≤ (kn : Int) := by omega
  obtain ⟨tk, htk⟩ : ∃ tk, tk = tkN kn := ⟨_, rfl⟩
  rw [← htk] at x1
  replace x1 : (w.alloc (.cells #[I kn, .slice pn ns.length cn, .string t, .slice pb bs.length cb] 33)).cell? ⟨0, kn, none⟩ = some (I ns.length) := by rw [x1, htk, cA]
  clear htk tk
  have b1 := str_ne t cT
  have b2 : ((kn : Int) == 3) = true := beq_iff_eq.2 cK
  have z1 : ((bs.length : Int) == 0) = true := beq_iff_eq.2 (by omega)
  have l1 : decide ((bs.length : Int) ≤ 4096) = true := decide_eq_true (by omega)
  clear h1 h2 hr ln lt lb hT x0 hB cA cT cK cZ hk
  go_enter Tryz.func22, Tryz.ntmps22
  go_wp2_with fail
  go_quiet (fail)
  go_wp2_with fail
  go_ret
  exact ⟨rfl, hA.drewN _⟩
set_option maxRecDepth 100000 in
set_option maxHeartbeats 1000000 in
theorem may_n3nn (w : World) (v : Value) (q : Rq) (hv : RqV w v q) (hT : Tks w) (hk : 1 ≤ q.k ∧ q.k ≤ 12) (cA : ((q.ns.length : Int) = tkN q.k)) (cT : ¬ q.t.size = 0) (cK : q.k = 3) (cZ : ¬ q.bs.length = 0) (cJ : ¬ q.k = 7) : Calls Tryz.prog 22 #[v] w fun e w' => e = .returned (.bool false) ∧ G w w' := by
  obtain ⟨⟨vn, vb, rfl, h1, h2⟩, hr, ln, lt, lb⟩ := hv
  obtain ⟨pn, cn, rfl⟩ := h1.form
  obtain ⟨pb, cb, rfl⟩ := h2.form
  obtain ⟨k, ns, t, bs⟩ := q
  simp only at *
  obtain ⟨kn, rfl⟩ : ∃ kn : Nat, k = kn := ⟨k.toNat, by omega⟩
  have x0 := hT kn (by omega)
  have hB := Blk.new w [I kn, .slice pn ns.length cn, .string t, .slice pb bs.length cb] 33
  have hA := (G.refl w).alloc (.cells #[I kn, .slice pn ns.length cn, .string t, .slice pb bs.length cb] 33)
  have x1 := (hA.cell (cell_lt x0)).trans x0
  have hc := hB.cell
  have i1 : (kn : Int) < 13 := by omega
  have i2 : 0 ≤ (kn : Int) := by omega
  obtain ⟨tk, htk⟩ : ∃ tk, tk = tkN kn := ⟨_, rfl⟩
  rw [← htk] at x1
  replace x1 : (w.alloc (.cells #[I kn, .slice pn ns.length cn, .string t, .slice pb bs.length cb] 33)).cell? ⟨0, kn, none⟩ = some (I ns.length) := by rw [x1, htk, cA]
  clear htk tk
  have b1 := str_ne t cT
  have b2 : ((kn : Int) == 3) = true := beq_iff_eq.2 cK
  have z1 : ((bs.length : Int) == 0) = false := beq_eq_false_iff_ne.2 (by omega)
  have z2 : ((kn : Int) == 7) = false := beq_eq_false_iff_ne.2 cJ
  clear h1 h2 hr ln lt lb hT x0 hB cA cT cK cZ cJ hk
  go_enter Tryz.func22, Tryz.ntmps22
  go_wp2_with fail
  go_quiet (fail)
  go_wp2_with fail
  go_ret
  exact ⟨rfl, hA.drewN _⟩
set_option maxRecDepth 100000 in
set_option maxHeartbeats 1000000 in
theorem may_nn (w : World) (v : Value) (q : Rq) (hv : RqV w v q) (hT : Tks w) (hk : 1 ≤ q.k ∧ q.k ≤ 12) (cA : ((q.ns.length : Int) = tkN q.k)) (cT : ¬ q.t.size = 0) (cK : ¬ q.k = 3) : Calls Tryz.prog 22 #[v] w fun e w' => e = .returned (.bool false) ∧ G w w' := by
  obtain ⟨⟨vn, vb, rfl, h1, h2⟩, hr, ln, lt, lb⟩ := hv
  obtain ⟨pn, cn, rfl⟩ := h1.form
  obtain ⟨pb, cb, rfl⟩ := h2.form
  obtain ⟨k, ns, t, bs⟩ := q
  simp only at *
  obtain ⟨kn, rfl⟩ : ∃ kn : Nat, k = kn := ⟨k.toNat, by omega⟩
  have x0 := hT kn (by omega)
  have hB := Blk.new w [I kn, .slice pn ns.length cn, .string t, .slice pb bs.length cb] 33
  have hA := (G.refl w).alloc (.cells #[I kn, .slice pn ns.length cn, .string t, .slice pb bs.length cb] 33)
  have x1 := (hA.cell (cell_lt x0)).trans x0
  have hc := hB.cell
  have i1 : (kn : Int) < 13 := by omega
  have i2 : 0 ≤ (kn : Int) := by omega
  obtain ⟨tk, htk⟩ : ∃ tk, tk = tkN kn := ⟨_, rfl⟩
  rw [← htk] at x1
  replace x1 : (w.alloc (.cells #[I kn, .slice pn ns.length cn, .string t, .slice pb bs.length cb] 33)).cell? ⟨0, kn, none⟩ = some (I ns.length) := by rw [x1, htk, cA]
  clear htk tk
  have b1 := str_ne t cT
  have b2 : ((kn : Int) == 3) = false := beq_eq_false_iff_ne.2 cK
  clear h1 h2 hr ln lt lb hT x0 hB cA cT cK hk
  go_enter Tryz.func22, Tryz.ntmps22
  go_wp2_with fail
  go_quiet (fail)
  go_wp2_with fail
  go_ret
  exact ⟨rfl, hA.drewN _⟩
theorem may_any (w : World) (v : Value) (q : Rq) (hv : RqV w v q) (hT : Tks w) (hk : 1 ≤ q.k ∧ q.k ≤ 12) : Calls Tryz.prog 22 #[v] w fun e w' => e = .returned (.bool q.may) ∧ G w w' := by
  unfold Rq.may
  by_cases cA : (q.ns.length : Int) = tkN q.k
  · by_cases cT : q.t.size = 0
    · by_cases cZ : q.bs.length = 0
      · have := may_ez w v q hv hT hk cA cT cZ
        simpa [cA, cT, cZ] using this
      · by_cases cJ : q.k = 7
        · by_cases cL : q.bs.length ≤ 4096
          · have := may_en7True w v q hv hT hk cA cT cZ cJ cL
            simp only [decide_eq_true cA, decide_eq_true cT, decide_eq_true cJ, decide_eq_true cL, Bool.true_or, Bool.or_true, Bool.and_true]
            exact this
          · have := may_en7False w v q hv hT hk cA cT cZ cJ cL
            simp only [decide_eq_false cL, Bool.and_false]
            exact this
        · have := may_enn w v q hv hT hk cA cT cZ cJ
          simp only [decide_eq_false cZ, decide_eq_false cJ, Bool.or_false, Bool.and_false, Bool.false_and]
          exact this
    · by_cases cK : q.k = 3
      · by_cases cZ : q.bs.length = 0
        · have := may_n3z w v q hv hT hk cA cT cK cZ
          have cL : q.bs.length ≤ 4096 := by omega
          simp only [decide_eq_true cA, decide_eq_true cK, decide_eq_true cZ, decide_eq_true cL, Bool.true_or, Bool.or_true, Bool.and_true]
          exact this
        · by_cases cJ : q.k = 7
          · omega
          · have := may_n3nn w v q hv hT hk cA cT cK cZ cJ
            simp only [decide_eq_false cZ, decide_eq_false cJ, Bool.or_false, Bool.and_false, Bool.false_and]
            exact this
      · have := may_nn w v q hv hT hk cA cT cK
        simp only [decide_eq_false cT, decide_eq_false cK, Bool.or_false, Bool.and_false, Bool.false_and]
        exact this
  · have := may_a w v q hv hT hk cA
    simp only [decide_eq_false cA, Bool.false_and]
    exact this
end Go.Proofs.YtcdjjmjhdoanlaaGreatDoor
