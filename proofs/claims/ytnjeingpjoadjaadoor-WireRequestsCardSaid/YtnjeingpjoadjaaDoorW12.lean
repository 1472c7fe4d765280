/- Wire: may a request be sent? -/
import Derived.Test.YtnjeingpjoadjaaDoorW11
namespace Go.Proofs.YtnjeingpjoadjaaDoor
open Go.RowKit

/-- How many numbers each kind takes. -/
def tkL : List Int := [0, 6, 0, 1, 1, 1, 1, 0, 2, 0, 0, 0, 1]
def tkN (k : Int) : Int := tkL.getD k.toNat 0
/-- The table, in memory. -/
def Tks (w : World) : Prop := ∀ k : Nat, k < 13 → w.cell? ⟨0, k, none⟩ = some (I (tkN k))
theorem Tks.G {w w' : World} (h : Tks w) (g : G w w') : Tks w' := fun k hk => by
  have := h k hk
  rw [g.cell (cell_lt this)]; exact this
def Rq.may (q : Rq) : Bool := decide ((q.ns.length : Int) = tkN q.k) && (decide (q.t.size = 0) || decide (q.k = 3)) && (decide (q.bs.length = 0) || decide (q.k = 7)) && decide (q.bs.length ≤ 4096)
theorem toList_inj {a b : ByteArray} (h : a.toList = b.toList) : a = b := by
  have := beq_toListBytes a b
  rw [h, beq_self_eq_true] at this
  cases a with | mk a => cases b with | mk b =>
    have h2 : (a == b) = true := this
    rw [eq_of_beq h2]
theorem toList_nil {b : ByteArray} : b.toList = [] ↔ b = ByteArray.empty := ⟨fun h => toList_inj (h.trans (by first | (simp; done) | kernel_rfl)), fun h => by rw [h]; first | (simp; done) | kernel_rfl⟩
theorem str_ne (t : ByteArray) (h : ¬ t.size = 0) : t.toList.isEmpty = false := by
  cases e : t.toList with
  | nil => exact absurd (by rw [toList_nil.1 e]; rfl) h
  | cons a l => rfl
theorem str_e (t : ByteArray) (h : t.size = 0) : t = { data := #[] } := by
  obtain ⟨d⟩ := t
  have : d = #[] := Array.eq_empty_of_size_eq_zero h
  subst this; rfl
theorem str_em (t : ByteArray) (h : t.size = 0) : t.toList.isEmpty = true := by
  have e := str_e t h
  subst e
  first | (simp; done) | kernel_rfl
set_option maxRecDepth 100000 in
set_option maxHeartbeats 1000000 in
theorem may_a (w : World) (v : Value) (q : Rq) (hv : RqV w v q) (hT : Tks w) (hk : 1 ≤ q.k ∧ q.k ≤ 12) (cA : ¬ ((q.ns.length : Int) = tkN q.k)) : Calls Tryd.prog 19 #[v] w fun e w' => e = .returned (.bool false) ∧ G w w' := by
  obtain ⟨⟨vn, vb, rfl, h1, h2⟩, hr, ln, lt, lb⟩ := hv
  obtain ⟨pn, cn, rfl⟩ := h1.form
  obtain ⟨pb, cb, rfl⟩ := h2.form
  obtain ⟨k, ns, t, bs⟩ := q
  simp only at *
  obtain ⟨kn, rfl⟩ : ∃ kn : Nat, k = kn := ⟨k.toNat, by omega⟩
  have x0 := hT kn (by omega)
  have hB := Blk.new w [I kn, .slice pn ns.length cn, .string t, .slice pb bs.length cb] 25
  have hA := (G.refl w).alloc (.cells #[I kn, .slice pn ns.length cn, .string t, .slice pb bs.length cb] 25)
  have x1 := (hA.cell (cell_lt x0)).trans x0
  have hc := hB.cell
  have i1 : (kn : Int) < 13 := by omega
  have i2 : 0 ≤ (kn : Int) := by omega
  obtain ⟨tk, htk⟩ : ∃ tk, tk = tkN kn := ⟨_, rfl⟩
  rw [← htk] at x1
  have a1 : ((ns.length : Int) == tk) = false := beq_eq_false_iff_ne.2 (by rw [htk]; exact cA)
  clear h1 h2 hr ln lt lb hT x0 hB htk cA hk
  go_enter Tryd.func19, Tryd.ntmps19
  go_wp2_with fail
  go_quiet (fail)
  go_wp2_with fail
  go_ret
  exact ⟨rfl, hA.drewN _⟩
set_option maxRecDepth 100000 in
set_option maxHeartbeats 1000000 in
theorem may_ez (w : World) (v : Value) (q : Rq) (hv : RqV w v q) (hT : Tks w) (hk : 1 ≤ q.k ∧ q.k ≤ 12) (cA : ((q.ns.length : Int) = tkN q.k)) (cT : q.t.size = 0) (cZ : q.bs.length = 0) : Calls Tryd.prog 19 #[v] w fun e w' => e = .returned (.bool true) ∧ G w w' := by
  obtain ⟨⟨vn, vb, rfl, h1, h2⟩, hr, ln, lt, lb⟩ := hv
  obtain ⟨pn, cn, rfl⟩ := h1.form
  obtain ⟨pb, cb, rfl⟩ := h2.form
  obtain ⟨k, ns, t, bs⟩ := q
  simp only at *
  obtain ⟨kn, rfl⟩ : ∃ kn : Nat, k = kn := ⟨k.toNat, by omega⟩
  have x0 := hT kn (by omega)
  have hB := Blk.new w [I kn, .slice pn ns.length cn, .string t, .slice pb bs.length cb] 25
  have hA := (G.refl w).alloc (.cells #[I kn, .slice pn ns.length cn, .string t, .slice pb bs.length cb] 25)
  have x1 := (hA.cell (cell_lt x0)).trans x0
  have hc := hB.cell
  have i1 : (kn : Int) < 13 := by omega
  have i2 : 0 ≤ (kn : Int) := by omega
  obtain ⟨tk, htk⟩ : ∃ tk, tk = tkN kn := ⟨_, rfl⟩
  rw [← htk] at x1
  replace x1 : (w.alloc (.cells #[I kn, .slice pn ns.length cn, .string t, .slice pb bs.length cb] 25)).cell? ⟨0, kn, none⟩ = some (I ns.length) := by rw [x1, htk, cA]
  clear htk tk
  have b1 := str_em t cT
  have z1 : ((bs.length : Int) == 0) = true := beq_iff_eq.2 (by omega)
  have l1 : decide ((bs.length : Int) ≤ 4096) = true := decide_eq_true (by omega)
  clear h1 h2 hr ln lt lb hT x0 hB cA cT cZ hk
  go_enter Tryd.func19, Tryd.ntmps19
  go_wp2_with fail
  go_quiet (fail)
  go_wp2_with fail
  go_ret
  exact ⟨rfl, hA.drewN _⟩
set_option maxRecDepth 100000 in
set_option maxHeartbeats 1000000 in
theorem may_en7True (w : World) (v : Value) (q : Rq) (hv : RqV w v q) (hT : Tks w) (hk : 1 ≤ q.k ∧ q.k ≤ 12) (cA : ((q.ns.length : Int) = tkN q.k)) (cT : q.t.size = 0) (cZ : ¬ q.bs.length = 0) (cJ : q.k = 7) (cL : q.bs.length ≤ 4096) : Calls Tryd.prog 19 #[v] w fun e w' => e = .returned (.bool true) ∧ G w w' := by
  obtain ⟨⟨vn, vb, rfl, h1, h2⟩, hr, ln, lt, lb⟩ := hv
  obtain ⟨pn, cn, rfl⟩ := h1.form
  obtain ⟨pb, cb, rfl⟩ := h2.form
  obtain ⟨k, ns, t, bs⟩ := q
  simp only at *
  obtain ⟨kn, rfl⟩ : ∃ kn : Nat, k = kn := ⟨k.toNat, by omega⟩
  have x0 := hT kn (by omega)
  have hB := Blk.new w [I kn, .slice pn ns.length cn, .string t, .slice pb bs.length cb] 25
  have hA := (G.refl w).alloc (.cells #[I kn, .slice pn ns.length cn, .string t, .slice pb bs.length cb] 25)
  have x1 := (hA.cell (cell_lt x0)).trans x0
  have hc := hB.cell
  have i1 : (kn : Int) < 13 := by omega
  have i2 : 0 ≤ (kn : Int) := by omega
  obtain ⟨tk, htk⟩ : ∃ tk, tk = tkN kn := ⟨_, rfl⟩
  rw [← htk] at x1
  replace x1 : (w.alloc (.cells #[I kn, .slice pn ns.length cn, .string t, .slice pb bs.length cb] 25)).cell? ⟨0, kn, none⟩ = some (I ns.length) := by rw [x1, htk, cA]
  clear htk tk
  have b1 := str_em t cT
  have z1 : ((bs.length : Int) == 0) = false := beq_eq_false_iff_ne.2 (by omega)
  have z2 : ((kn : Int) == 7) = true := beq_iff_eq.2 cJ
  have l1 : decide ((bs.length : Int) ≤ 4096) = true := decide_eq_true (by omega)
  clear h1 h2 hr ln lt lb hT x0 hB cA cT cZ cJ cL hk
  go_enter Tryd.func19, Tryd.ntmps19
  go_wp2_with fail
  go_quiet (fail)
  go_wp2_with fail
  go_ret
  exact ⟨rfl, hA.drewN _⟩
set_option maxRecDepth 100000 in
set_option maxHeartbeats 1000000 in
theorem may_en7False (w : World) (v : Value) (q : Rq) (hv : RqV w v q) (hT : Tks w) (hk : 1 ≤ q.k ∧ q.k ≤ 12) (cA : ((q.ns.length : Int) = tkN q.k)) (cT : q.t.size = 0) (cZ : ¬ q.bs.length = 0) (cJ : q.k = 7) (cL : ¬ q.bs.length ≤ 4096) : Calls Tryd.prog 19 #[v] w fun e w' => e = .returned (.bool false) ∧ G w w' := by
  obtain ⟨⟨vn, vb, rfl, h1, h2⟩, hr, ln, lt, lb⟩ := hv
  obtain ⟨pn, cn, rfl⟩ := h1.form
  obtain ⟨pb, cb, rfl⟩ := h2.form
  obtain ⟨k, ns, t, bs⟩ := q
  simp only at *
  obtain ⟨kn, rfl⟩ : ∃ kn : Nat, k = kn := ⟨k.toNat, by omega⟩
  have x0 := hT kn (by omega)
  have hB := Blk.new w [I kn, .slice pn ns.length cn, .string t, .slice pb bs.length cb] 25
  have hA := (G.refl w).alloc (.cells #[I kn, .slice pn ns.length cn, .string t, .slice pb bs.length cb] 25)
  have x1 := (hA.cell (cell_lt x0)).trans x0
  have hc := hB.cell
  have i1 : (kn : Int) < 13 := by omega
  have i2 : 0 ≤ (kn : Int) := by omega
  obtain ⟨tk, htk⟩ : ∃ tk, tk = tkN kn := ⟨_, rfl⟩
  rw [← htk] at x1
  replace x1 : (w.alloc (.cells #[I kn, .slice pn ns.length cn, .string t, .slice pb bs.length cb] 25)).cell? ⟨0, kn, none⟩ = some (I ns.length) := by rw [x1, htk, cA]
  clear htk tk
  have b1 := str_em t cT
  have z1 : ((bs.length : Int) == 0) = false := beq_eq_false_iff_ne.2 (by omega)
  have z2 : ((kn : Int) == 7) = true := beq_iff_eq.2 cJ
  have l1 : decide ((bs.length : Int) ≤ 4096) = false := decide_eq_false (by omega)
  clear h1 h2 hr ln lt lb hT x0 hB cA cT cZ cJ cL hk
  go_enter Tryd.func19, Tryd.ntmps19
  go_wp2_with fail
  go_quiet (fail)
  go_wp2_with fail
  go_ret
  exact ⟨rfl, hA.drewN _⟩
set_option maxRecDepth 100000 in
set_option maxHeartbeats 1000000 in
theorem may_enn (w : World) (v : Value) (q : Rq) (hv : RqV w v q) (hT : Tks w) (hk : 1 ≤ q.k ∧ q.k ≤ 12) (cA : ((q.ns.length : Int) = tkN q.k)) (cT : q.t.size = 0) (cZ : ¬ q.bs.length = 0) (cJ : ¬ q.k = 7) : Calls Tryd.prog 19 #[v] w fun e w' => e = .returned (.bool false) ∧ G w w' := by
  obtain ⟨⟨vn, vb, rfl, h1, h2⟩, hr, ln, lt, lb⟩ := hv
  obtain ⟨pn, cn, rfl⟩ := h1.form
  obtain ⟨pb, cb, rfl⟩ := h2.form
  obtain ⟨k, ns, t, bs⟩ := q
  simp only at *
  obtain ⟨kn, rfl⟩ : ∃ kn : Nat, k = kn := ⟨k.toNat, by omega⟩
  have x0 := hT kn (by omega)
  have hB := Blk.new w [I kn, .slice pn ns.length cn, .string t, .slice pb bs.length cb] 25
  have hA := (G.refl w).alloc (.cells #[I kn, .slice pn ns.length cn, .string t, .slice pb bs.length cb] 25)
  have x1 := (hA.cell (cell_lt x0)).trans x0
  have hc := hB.cell
  have i1 : (kn : Int) < 13 := by omega
  have i2 : 0 ≤ (kn : Int) := by omega
  obtain ⟨tk, htk⟩ : ∃ tk, tk = tkN kn := ⟨_, rfl⟩
  rw [← htk] at x1
  replace x1 : (w.alloc (.cells #[I kn, .slice pn ns.length cn, .string t, .slice pb bs.length cb] 25)).cell? ⟨0, kn, none⟩ = some (I ns.length) := by rw [x1, htk, cA]
  clear htk tk
  have b1 := str_em t cT
  have z1 : ((bs.length : Int) == 0) = false := beq_eq_false_iff_ne.2 (by omega)
  have z2 : ((kn : Int) == 7) = false := beq_eq_false_iff_ne.2 cJ
  clear h1 h2 hr ln lt lb hT x0 hB cA cT cZ cJ hk
  go_enter Tryd.func19, Tryd.ntmps19
  go_wp2_with fail
  go_quiet (fail)
  go_wp2_with fail
  go_ret
  exact ⟨rfl, hA.drewN _⟩
set_option maxRecDepth 100000 in
set_option maxHeartbeats 1000000 in
theorem may_n3z (w : World) (v : Value) (q : Rq) (hv : RqV w v q) (hT : Tks w) (hk : 1 ≤ q.k ∧ q.k ≤ 12) (cA : ((q.ns.length : Int) = tkN q.k)) (cT : ¬ q.t.size = 0) (cK : q.k = 3) (cZ : q.bs.length = 0) : Calls Tryd.prog 19 #[v] w fun e w' => e = .returned (.bool true) ∧ G w w' := by
  obtain ⟨⟨vn, vb, rfl, h1, h2⟩, hr, ln, lt, lb⟩ := hv
  obtain ⟨pn, cn, rfl⟩ := h1.form
  obtain ⟨pb, cb, rfl⟩ := h2.form
  obtain ⟨k, ns, t, bs⟩ := q
  simp only at *
  obtain ⟨kn, rfl⟩ : ∃ kn : Nat, k = kn := ⟨k.toNat, by omega⟩
  have x0 := hT kn (by omega)
  have hB := Blk.new w [I kn, .slice pn ns.length cn, .string t, .slice pb bs.length cb] 25
  have hA := (G.refl w).alloc (.cells #[I kn, .slice pn ns.length cn, .string t, .slice pb bs.length cb] 25)
  have x1 := (hA.cell (cell_lt x0)).trans x0
  have hc := hB.cell
  have i1 : (kn : Int) < 13 := by omega
  have i2 : 0 ≤ (kn : Int) := by omega
  obtain ⟨tk, htk⟩ : ∃ tk, tk = tkN kn := ⟨_, rfl⟩
  rw [← htk] at x1
  replace x1 : (w.alloc (.cells #[I kn, .slice pn ns.length cn, .string t, .slice pb bs.length cb] 25)).cell? ⟨0, kn, none⟩ = some (I ns.length) := by rw [x1, htk, cA]
  clear htk tk
  have b1 := str_ne t cT
  have b2 : ((kn : Int) == 3) = true := beq_iff_eq.2 cK
  have z1 : ((bs.length : Int) == 0) = true := beq_iff_eq.2 (by omega)
  have l1 : decide ((bs.length : Int) ≤ 4096) = true := decide_eq_true (by omega)
  clear h1 h2 hr ln lt lb hT x0 hB cA cT cK cZ hk
  go_enter Tryd.func19, Tryd.ntmps19
  go_wp2_with fail
  go_quiet (fail)
  go_wp2_with fail
  go_ret
  exact ⟨rfl, hA.drewN _⟩
set_option maxRecDepth 100000 in
set_option maxHeartbeats 1000000 in
theorem may_n3nn (w : World) (v : Value) (q : Rq) (hv : RqV w v q) (hT : Tks w) (hk : 1 ≤ q.k ∧ q.k ≤ 12) (cA : ((q.ns.length : Int) = tkN q.k)) (cT : ¬ q.t.size = 0) (cK : q.k = 3) (cZ : ¬ q.bs.length = 0) (cJ : ¬ q.k = 7) : Calls Tryd.prog 19 #[v] w fun e w' => e = .returned (.bool false) ∧ G w w' := by
  obtain ⟨⟨vn, vb, rfl, h1, h2⟩, hr, ln, lt, lb⟩ := hv
  obtain ⟨pn, cn, rfl⟩ := h1.form
  obtain ⟨pb, cb, rfl⟩ := h2.form
  obtain ⟨k, ns, t, bs⟩ := q
  simp only at *
  obtain ⟨kn, rfl⟩ : ∃ kn : Nat, k = kn := ⟨k.toNat, by omega⟩
  have x0 := hT kn (by omega)
  have hB := Blk.new w [I kn, .slice pn ns.length cn, .string t, .slice pb bs.length cb] 25
  have hA := (G.refl w).alloc (.cells #[I kn, .slice pn ns.length cn, .string t, .slice pb bs.length cb] 25)
  have x1 := (hA.cell (cell_lt x0)).trans x0
  have hc := hB.cell
  have i1 : (kn : Int) < 13 := by omega
  have i2 : 0 ≤ (kn : Int) := by omega
  obtain ⟨tk, htk⟩ : ∃ tk, tk = tkN kn := ⟨_, rfl⟩
  rw [← htk] at x1
  replace x1 : (w.alloc (.cells #[I kn, .slice pn ns.length cn, .string t, .slice pb bs.length cb] 25)).cell? ⟨0, kn, none⟩ = some (I ns.length) := by rw [x1, htk, cA]
  clear htk tk
  have b1 := str_ne t cT
  have b2 : ((kn : Int) == 3) = true := beq_iff_eq.2 cK
  have z1 : ((bs.length : Int) == 0) = false := beq_eq_false_iff_ne.2 (by omega)
  have z2 : ((kn : Int) == 7) = false := beq_eq_false_iff_ne.2 cJ
  clear h1 h2 hr ln lt lb hT x0 hB cA cT cK cZ cJ hk
  go_enter Tryd.func19, Tryd.ntmps19
  go_wp2_with fail
  go_quiet (fail)
  go_wp2_with fail
  go_ret
  exact ⟨rfl, hA.drewN _⟩
set_option maxRecDepth 100000 in
set_option maxHeartbeats 1000000 in
theorem may_nn (w : World) (v : Value) (q : Rq) (hv : RqV w v q) (hT : Tks w) (hk : 1 ≤ q.k ∧ q.k ≤ 12) (cA : ((q.ns.length : Int) = tkN q.k)) (cT : ¬ q.t.size = 0) (cK : ¬ q.k = 3) : Calls Tryd.prog 19 #[v] w fun e w' => e = .returned (.bool false) ∧ G w w' := by
  obtain ⟨⟨vn, vb, rfl, h1, h2⟩, hr, ln, lt, lb⟩ := hv
  obtain ⟨pn, cn, rfl⟩ := h1.form
  obtain ⟨pb, cb, rfl⟩ := h2.form
  obtain ⟨k, ns, t, bs⟩ := q
  simp only at *
  obtain ⟨kn, rfl⟩ : ∃ kn : Nat, k = kn := ⟨k.toNat, by omega⟩
  have x0 := hT kn (by omega)
  have hB := Blk.new w [I kn, .slice pn ns.length cn, .string t, .slice pb bs.length cb] 25
  have hA := (G.refl w).alloc (.cells #[I kn, .slice pn ns.length cn, .string t, .slice pb bs.length cb] 25)
  have x1 := (hA.cell (cell_lt x0)).trans x0
  have hc := hB.cell
  have i1 : (kn : Int) < 13 := by omega
  have i2 : 0 ≤ (kn : Int) := by omega
  obtain ⟨tk, htk⟩ : ∃ tk, tk = tkN kn := ⟨_, rfl⟩
  rw [← htk] at x1
  replace x1 : (w.alloc (.cells #[I kn, .slice pn ns.length cn, .string t, .slice pb bs.length cb] 25)).cell? ⟨0, kn, none⟩ = some (I ns.length) := by rw [x1, htk, cA]
  clear htk tk
  have b1 := str_ne t cT
  have b2 : ((kn : Int) == 3) = false := beq_eq_false_iff_ne.2 cK
  clear h1 h2 hr ln lt lb hT x0 hB cA cT cK hk
  go_enter Tryd.func19, Tryd.ntmps19
  go_wp2_with fail
  go_quiet (fail)
  go_wp2_with fail
  go_ret
  exact ⟨rfl, hA.drewN _⟩
theorem may_any (w : World) (v : Value) (q : Rq) (hv : RqV w v q) (hT : Tks w) (hk : 1 ≤ q.k ∧ q.k ≤ 12) : Calls Tryd.prog 19 #[v] w fun e w' => e = .returned (.bool q.may) ∧ G w w' := by
  unfold Rq.may
  by_cases cA : (q.ns.length : Int) = tkN q.k
  · by_cases cT : q.t.size = 0
    · by_cases cZ : q.bs.length = 0
      · have := may_ez w v q hv hT hk cA cT cZ
        simpa [cA, cT, cZ] using this
      · by_cases cJ : q.k = 7
        · by_cases cL : q.bs.length ≤ 4096
          · have := may_en7True w v q hv hT hk cA cT cZ cJ cL
            simp only [decide_eq_true cA, decide_eq_true cT, decide_eq_true cJ, decide_eq_true cL, Bool.true_or, Bool.or_true, Bool.and_true]
            exact this
          · have := may_en7False w v q hv hT hk cA cT cZ cJ cL
            simp only [decide_eq_false cL, Bool.and_false]
            exact this
        · have := may_enn w v q hv hT hk cA cT cZ cJ
          simp only [decide_eq_false cZ, decide_eq_false cJ, Bool.or_false, Bool.and_false, Bool.false_and]
          exact this
    · by_cases cK : q.k = 3
      · by_cases cZ : q.bs.length = 0
        · have := may_n3z w v q hv hT hk cA cT cK cZ
          have cL : q.bs.length ≤ 4096 := by omega
          simp only [decide_eq_true cA, decide_eq_true cK, decide_eq_true cZ, decide_eq_true cL, Bool.true_or, Bool.or_true, Bool.and_true]
          exact this
        · by_cases cJ : q.k = 7
          · omega
          · have := may_n3nn w v q hv hT hk cA cT cK cZ cJ
            simp only [decide_eq_false cZ, decide_eq_false cJ, Bool.or_false, Bool.and_false, Bool.false_and]
            exact this
      · have := may_nn w v q hv hT hk cA cT cK
        simp only [decide_eq_false cT, decide_eq_false cK, Bool.or_false, Bool.and_false, Bool.false_and]
        exact this
  · have := may_a w v q hv hT hk cA
    simp only [decide_eq_false cA, Bool.false_and]
    exact this
end Go.Proofs.YtnjeingpjoadjaaDoor
