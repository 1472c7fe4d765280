/- The reader: caught. -/
import Derived.Test.YthpflfkgbapbnaaGreatDoorRd7
namespace Go.Proofs.YthpflfkgbapbnaaGreatDoor
open Go.RowKit

/-- The three results, while a text is read. -/
structure Cz (n : Nat) (vs : List Value) (x y : Int) (W : World) : Prop where
  c0 : ∀ o, W.cell? ⟨n, o, none⟩ = vs[o]?
  f0 : ∀ o, W.frozen? ⟨n, o, none⟩ = false
  c1 : W.cell? ⟨n + 1, 0, none⟩ = some (I x)
  f1 : W.frozen? ⟨n + 1, 0, none⟩ = false
  c2 : W.cell? ⟨n + 2, 0, none⟩ = some (I y)
  f2 : W.frozen? ⟨n + 2, 0, none⟩ = false
  z : n + 2 < W.heap.size
theorem Cz.keep {n : Nat} {vs : List Value} {x y : Int} {W W' : World} (h : Cz n vs x y W) (hs : W.heap.size ≤ W'.heap.size) (hb : ∀ k, n ≤ k → k ≤ n + 2 → W'.heap[k]? = W.heap[k]?) : Cz n vs x y W' :=
  ⟨fun o => (World.cell?_of_block (hb n (by omega) (by omega))).trans (h.c0 o), fun o => (World.frozen?_of_block (hb n (by omega) (by omega))).trans (h.f0 o), (World.cell?_of_block (hb (n + 1) (by omega) (by omega))).trans h.c1, (World.frozen?_of_block (hb (n + 1) (by omega) (by omega))).trans h.f1, (World.cell?_of_block (hb (n + 2) (by omega) (by omega))).trans h.c2, (World.frozen?_of_block (hb (n + 2) (by omega) (by omega))).trans h.f2, Nat.lt_of_lt_of_le h.z hs⟩
theorem Cz.G {n : Nat} {vs : List Value} {x y : Int} {W W' : World} (h : Cz n vs x y W) (g : G W W') : Cz n vs x y W' := h.keep g.size (fun k _ h2 => g.block k (by have := h.z; omega))
theorem Cz.Q {n rb : Nat} {vs : List Value} {x y : Int} {W W' : World} (h : Cz n vs x y W) (q : Qr rb W W') (hr : n + 2 < rb) : Cz n vs x y W' := h.keep q.size (fun k _ h2 => q.block k (by have := h.z; omega) (by omega))
theorem Cz.new (w : World) (t0 t1 t2 : Nat) (vs : List Value) (x y : Int) : Cz w.heap.size vs x y (((w.alloc (.cells vs.toArray t0)).alloc (.cells #[I x] t1)).alloc (.cells #[I y] t2)) := by
  have e1 := World.size_alloc w (.cells vs.toArray t0)
  have e2 := World.size_alloc (w.alloc (.cells vs.toArray t0)) (.cells #[I x] t1)
  have g1 : Go.Proofs.YthpflfkgbapbnaaGreatDoor.G (w.alloc (.cells vs.toArray t0)) (((w.alloc (.cells vs.toArray t0)).alloc (.cells #[I x] t1)).alloc (.cells #[I y] t2)) := ((G.refl _).alloc _).alloc _
  have g2 : Go.Proofs.YthpflfkgbapbnaaGreatDoor.G ((w.alloc (.cells vs.toArray t0)).alloc (.cells #[I x] t1)) (((w.alloc (.cells vs.toArray t0)).alloc (.cells #[I x] t1)).alloc (.cells #[I y] t2)) := (G.refl _).alloc _
  refine ⟨G.cells g1 (fun o => by simp) (by simp), G.frozens g1 (fun o => by simp) (by simp), ?_, ?_, ?_, ?_, by simp⟩
  · rw [← e1]
    exact (G.cells g2 (b := (w.alloc (.cells vs.toArray t0)).heap.size) (f := fun o => [I x][o]?) (fun o => by simp) (by simp) 0)
  · rw [← e1]
    exact (G.frozens g2 (b := (w.alloc (.cells vs.toArray t0)).heap.size) (f := fun _ => false) (fun o => by simp) (by simp) 0)
  · have h3 : ∀ W' : World, (W'.alloc (.cells #[I y] t2)).cell? ⟨W'.heap.size, 0, none⟩ = some (I y) := fun W' => by simp
    have h4 := h3 ((w.alloc (.cells vs.toArray t0)).alloc (.cells #[I x] t1))
    rwa [e2, e1] at h4
  · have h3 : ∀ W' : World, (W'.alloc (.cells #[I y] t2)).frozen? ⟨W'.heap.size, 0, none⟩ = false := fun W' => by simp
    have h4 := h3 ((w.alloc (.cells vs.toArray t0)).alloc (.cells #[I x] t1))
    rwa [e2, e1] at h4
theorem Cz.set1 {n : Nat} {vs : List Value} {x y : Int} {W : World} (h : Cz n vs x y W) (x' : Int) : Cz n vs x' y (W.setCell ⟨n + 1, 0, none⟩ (I x')) :=
  ⟨fun o => (World.cell?_of_block (set_other W (n + 1) 0 n _ (by omega))).trans (h.c0 o), fun o => by rw [World.frozen?_setCell]; exact h.f0 o, World.cell?_setCell_same' W _ _ (by rw [h.c1]; rfl), by rw [World.frozen?_setCell]; exact h.f1, (World.cell?_of_block (set_other W (n + 1) 0 (n + 2) _ (by omega))).trans h.c2, by rw [World.frozen?_setCell]; exact h.f2, by simp [World.setCell]; exact h.z⟩
theorem Cz.set2 {n : Nat} {vs : List Value} {x y : Int} {W : World} (h : Cz n vs x y W) (y' : Int) : Cz n vs x y' (W.setCell ⟨n + 2, 0, none⟩ (I y')) :=
  ⟨fun o => (World.cell?_of_block (set_other W (n + 2) 0 n _ (by omega))).trans (h.c0 o), fun o => by rw [World.frozen?_setCell]; exact h.f0 o, (World.cell?_of_block (set_other W (n + 2) 0 (n + 1) _ (by omega))).trans h.c1, by rw [World.frozen?_setCell]; exact h.f1, World.cell?_setCell_same' W _ _ (by rw [h.c2]; rfl), by rw [World.frozen?_setCell]; exact h.f2, by simp [World.setCell]; exact h.z⟩
theorem G.set1 {a w : World} (g : G a w) (v : Value) (k : Nat) : G a (w.setCell ⟨a.heap.size + k, 0, none⟩ v) := g.setCell (by show a.heap.size ≤ a.heap.size + k; omega) _
theorem G.ten {a w : World} (g : G a w) (v0 v1 v2 v3 v4 v5 v6 v7 v8 v9 : Value) : G a ((((((((((w.setCell ⟨a.heap.size, 0, none⟩ v0).setCell ⟨a.heap.size, 1, none⟩ v1).setCell ⟨a.heap.size, 2, none⟩ v2).setCell ⟨a.heap.size, 3, none⟩ v3).setCell ⟨a.heap.size, 4, none⟩ v4).setCell ⟨a.heap.size, 5, none⟩ v5).setCell ⟨a.heap.size, 6, none⟩ v6).setCell ⟨a.heap.size, 7, none⟩ v7).setCell ⟨a.heap.size, 8, none⟩ v8).setCell ⟨a.heap.size, 9, none⟩ v9) :=
  ((((((((((g.setCell (Nat.le_refl _) _).setCell (Nat.le_refl _) _).setCell (Nat.le_refl _) _).setCell (Nat.le_refl _) _).setCell (Nat.le_refl _) _).setCell (Nat.le_refl _) _).setCell (Nat.le_refl _) _).setCell (Nat.le_refl _) _).setCell (Nat.le_refl _) _).setCell (Nat.le_refl _) _)
/-- Tokens in memory. -/
def TkM (g : Nat) (ts : List Tok) (W : World) : Prop := ∀ j x, ts[j]? = some x → W.cell? ⟨g, j * 3, none⟩ = some (I x.k) ∧ W.cell? ⟨g, j * 3 + 1, none⟩ = some (.string x.t) ∧ W.cell? ⟨g, j * 3 + 2, none⟩ = some (I x.p)
/-- What Lex answers for a text that has these tokens. -/
theorem TkM.keep {g : Nat} {ts : List Tok} {W W' : World} (h : TkM g ts W) (hb : W'.heap[g]? = W.heap[g]?) : TkM g ts W' := fun j x hx => by
  obtain ⟨h1, h2, h3⟩ := h j x hx
  exact ⟨(World.cell?_of_block hb).trans h1, (World.cell?_of_block hb).trans h2, (World.cell?_of_block hb).trans h3⟩
theorem Rd.new {g : Nat} {ts : List Tok} {W : World} (h : TkM g ts W) (hg : g < W.heap.size) (h0 : 0 < ts.length) (h5 : ts.length ≤ 5000) : Rd W.heap.size g ts 0 (W.alloc (.cells #[.slice (some ⟨g, 0, none⟩) ts.length ts.length] 58)) := by
  refine ⟨?_, h.keep (((G.refl W).alloc _).block g hg), by omega, h0, h5⟩
  rw [Nat.zero_mul, Nat.sub_zero]
  exact Array.getElem?_push_size
def LexOk (u : ByteArray) (ts : List Tok) (w0 : World) : Prop := ∀ W, G w0 W → Calls Tryz.prog 13 #[.string u] W fun e W' => ∃ g cap, e = .returned (.tuple #[.slice (some ⟨g, 0, none⟩) ts.length cap, I 0, I 0]) ∧ ts.length ≤ cap ∧ TkM g ts W' ∧ W.heap.size ≤ g ∧ G W W'
def LexBad (u : ByteArray) (c p : Int) (w0 : World) : Prop := ∀ W, G w0 W → Calls Tryz.prog 13 #[.string u] W fun e W' => e = .returned (.tuple #[.slice none 0 0, I c, I p]) ∧ G W W'
set_option maxRecDepth 100000 in
set_option maxHeartbeats 1000000 in
theorem caught_ok {u : ByteArray} {ts : List Tok} {w0 w : World} (g0 : G w0 w) (hlx : LexOk u ts w0) (hl0 : 0 < ts.length) (hl5 : ts.length ≤ 5000) {j : Nat} {k a b : Int} {x : Tok} (hx : ts[j]? = some x) (hk : x.k = 7)
    (HW : ∀ rb g W, w0.heap.size ≤ rb → Rd rb g ts 0 W → G w0 W → Calls Tryz.prog 9 #[ptr rb] W fun e W' => e = .returned (litE k a b E0) ∧ Rd rb g ts j W' ∧ Qr rb W W') :
    Calls Tryz.prog 8 #[.string u, .func (.func 9) #[] #[]] w fun e W' => e = .returned (.tuple #[litE k a b E0, I 0, I 0]) ∧ G w W' := by
  have hmf : ∀ (fn : Fn) (first cap : Array Value) (w : World), (Instr.makeFunc fn first cap).run Tryz.prog w = .ok (.func fn first cap) w := fun _ _ _ _ => rfl
  have HCZ := xh (Cz.new w 26 27 3 [I 0, I 0, I 0, I 0, I 0, .string E0, .string E0, .string E0, .bool false, .slice none 0 0] 0 0)
  have HGW := xh ((((G.refl w).alloc (.cells #[I 0, I 0, I 0, I 0, I 0, .string E0, .string E0, .string E0, .bool false, .slice none 0 0] 26)).alloc (.cells #[I 0] 27)).alloc (.cells #[I 0] 3))
  have HLX := xh hlx
  have HWW := xh HW
  have HXX := xh hx
  have HK := xh hk
  have HG0 := xh g0
  clear hlx HW hx hk g0
  go_enter_defers Tryz.func8, Tryz.ntmps8
  go_wp2_with (first | (go_at_call 13; refine Hid.out ?_) | fail)
  unfold Hid
  generalize (((w.alloc (.cells #[I 0, I 0, I 0, I 0, I 0, .string E0, .string E0, .string E0, .bool false, .slice none 0 0] 26)).alloc (.cells #[I 0] 27)).alloc (.cells #[I 0] 3)) = wa at HCZ HGW ⊢
  refine (HLX.out wa (HG0.out.trans HGW.out)).mono ?_
  rintro e w1 ⟨g, cap, rfl, hcap, htk, hgl, hg⟩
  have HC1 := xh (HCZ.out.G hg)
  have HG1 := xh (HGW.out.trans hg)
  have HTK := xh htk
  have hc1 := HC1.out.c1
  have hf1 := HC1.out.f1
  have hc2 := HC1.out.c2
  have hf2 := HC1.out.f2
  have hlI : (0 : Int) < (ts.length : Int) := by omega
  have hcI : (ts.length : Int) ≤ (cap : Int) := by omega
  have hz0 := HCZ.out.z
  clear hg htk HCZ HGW HLX
  go_wp2_with (first | (go_at_call 15; refine Hid.out ?_) | fail)
  unfold Hid
  have HC2 := xh ((HC1.out.set1 0).set2 0)
  have HG2 := xh ((HG1.out.set1 (I 0) 1).set1 (I 0) 2)
  have hz1 := HC1.out.z
  have HT2 : Hid (TkM g ts ((w1.setCell ⟨w.heap.size + 1, 0, none⟩ (I 0)).setCell ⟨w.heap.size + 2, 0, none⟩ (I 0))) := HTK.out.keep ((set_other _ _ _ _ _ (by omega)).trans (set_other _ _ _ _ _ (by omega)))
  have hsz : ((w1.setCell ⟨w.heap.size + 1, 0, none⟩ (I 0)).setCell ⟨w.heap.size + 2, 0, none⟩ (I 0)).heap.size = w1.heap.size := by simp [World.setCell]
  have hgl2 : g < w1.heap.size := by
    obtain ⟨y, hy⟩ : ∃ y, ts[0]? = some y := ⟨_, List.getElem?_eq_getElem hl0⟩
    exact cell_lt (HTK.out 0 y hy).1
  rw [show w.heap.size + 1 + 1 = w.heap.size + 2 from rfl, ← hsz]
  have HSZ : Hid (w.heap.size + 2 < ((w1.setCell ⟨w.heap.size + 1, 0, none⟩ (I 0)).setCell ⟨w.heap.size + 2, 0, none⟩ (I 0)).heap.size) := by rw [hsz]; exact hz1
  have HGL : Hid (g < ((w1.setCell ⟨w.heap.size + 1, 0, none⟩ (I 0)).setCell ⟨w.heap.size + 2, 0, none⟩ (I 0)).heap.size) := by rw [hsz]; exact hgl2
  clear HC1 HG1 HTK hc1 hf1 hc2 hf2 hsz hz1 hgl2
  generalize (w1.setCell ⟨w.heap.size + 1, 0, none⟩ (I 0)).setCell ⟨w.heap.size + 2, 0, none⟩ (I 0) = w2 at HC2 HG2 HT2 HSZ HGL ⊢
  have HRD := xh (Rd.new HT2.out HGL.out hl0 hl5)
  have HG3 := xh (HG2.out.trans ((G.refl w2).alloc (.cells #[.slice (some ⟨g, 0, none⟩) ts.length ts.length] 58)))
  have HC3 := xh (HC2.out.G ((G.refl w2).alloc (.cells #[.slice (some ⟨g, 0, none⟩) ts.length ts.length] 58)))
  have HWR : Hid (w0.heap.size ≤ w2.heap.size) := Nat.le_trans HG0.out.size HG2.out.size
  obtain ⟨rb, hrb⟩ : ∃ rb, rb = w2.heap.size := ⟨_, rfl⟩
  rw [← hrb] at HRD HSZ HWR ⊢
  generalize w2.alloc (.cells #[.slice (some ⟨g, 0, none⟩) ts.length ts.length] 58) = w3 at HRD HG3 HC3 ⊢
  clear HC2 HG2 HT2 HGL hrb
  refine (ended_num HXX.out HK.out HRD.out (HG0.out.trans HG3.out) (fun W h g0 => HWW.out rb g W HWR.out h g0)).mono ?_
  rintro e w4 ⟨rfl, hrd, hq⟩
  have HC4 := xh (HC3.out.Q hq HSZ.out)
  have HG4 := xh (hq.G HG3.out (by have := HSZ.out; omega))
  clear hrd hq HRD HG3 HC3 HWW
  have hc0 := HC4.out.c0
  have hf0 := HC4.out.f0
  have hc1 := HC4.out.c1
  have hf1 := HC4.out.f1
  have hc2 := HC4.out.c2
  have hf2 := HC4.out.f2
  simp only [litE]
  go_wp2
  refine leaves_cons (f := 14) (args := #[ptr (w.heap.size + 1), ptr (w.heap.size + 2)]) (by simp) (by simp [go_sem]) ?_
  refine (clE_idle _ _ _).mono ?_
  rintro e u' w'' ⟨rfl, rfl, rfl⟩
  simp [Leaves, settle, results, Tryz.results8, go_sem, hc0, hc1, hc2]
  exact ⟨rfl, ((HG4.out.ten _ _ _ _ _ _ _ _ _ _).set1 _ 1).set1 _ 2⟩
set_option maxRecDepth 100000 in
set_option maxHeartbeats 1000000 in
theorem caught_bad {u : ByteArray} {c p : Int} (hc : ¬ c = 0) {w0 w : World} (g0 : G w0 w) (hlx : LexBad u c p w0) (rule : Value) :
    Calls Tryz.prog 8 #[.string u, rule] w fun e W' => e = .returned (.tuple #[.agg #[I 0, I 0, I 0, I 0, I 0, .string E0, .string E0, .string E0, .bool false, .slice none 0 0], I c, I p]) ∧ G w W' := by
  have hcb : (c == 0) = false := beq_false_of_ne hc
  have hcn : (c != 0) = true := by simp [bne, hcb]
  have HCZ := xh (Cz.new w 26 27 3 [I 0, I 0, I 0, I 0, I 0, .string E0, .string E0, .string E0, .bool false, .slice none 0 0] 0 0)
  have HGW := xh ((((G.refl w).alloc (.cells #[I 0, I 0, I 0, I 0, I 0, .string E0, .string E0, .string E0, .bool false, .slice none 0 0] 26)).alloc (.cells #[I 0] 27)).alloc (.cells #[I 0] 3))
  have HLX := xh hlx
  have HG0 := xh g0
  clear hlx g0 hc
  go_enter_defers Tryz.func8, Tryz.ntmps8
  go_wp2_with (first | (go_at_call 13; refine Hid.out ?_) | fail)
  unfold Hid
  generalize (((w.alloc (.cells #[I 0, I 0, I 0, I 0, I 0, .string E0, .string E0, .string E0, .bool false, .slice none 0 0] 26)).alloc (.cells #[I 0] 27)).alloc (.cells #[I 0] 3)) = wa at HCZ HGW ⊢
  refine (HLX.out wa (HG0.out.trans HGW.out)).mono ?_
  rintro e w1 ⟨rfl, hg⟩
  have HC1 := xh (HCZ.out.G hg)
  have HG1 := xh (HGW.out.trans hg)
  have hc1 := HC1.out.c1
  have hf1 := HC1.out.f1
  have hc2 := HC1.out.c2
  have hf2 := HC1.out.f2
  have hc0 := HC1.out.c0
  have hf0 := HC1.out.f0
  have HC2 := xh ((HC1.out.set1 c).set2 p)
  have HG2 := xh ((HG1.out.set1 (I c) 1).set1 (I p) 2)
  clear hg HCZ HGW HLX
  go_wp2_with fail
  rw [show w.heap.size + 1 + 1 = w.heap.size + 2 from rfl]
  clear hc0 hf0 hc1 hf1 hc2 hf2 HC1 HG1
  generalize (w1.setCell ⟨w.heap.size + 1, 0, none⟩ (I c)).setCell ⟨w.heap.size + 2, 0, none⟩ (I p) = w2 at HC2 HG2 ⊢
  have hc1 := HC2.out.c1
  have hf1 := HC2.out.f1
  have hc2 := HC2.out.c2
  have hf2 := HC2.out.f2
  have hc0 := HC2.out.c0
  have hf0 := HC2.out.f0
  go_region
  go_wp2
  simp [bodyPostD, Leaves, results, Tryz.results8, go_sem, hc0, hc1, hc2]
  exact G.drew (((HG2.out.ten _ _ _ _ _ _ _ _ _ _).set1 _ 1).set1 _ 2)
set_option maxRecDepth 100000 in
set_option maxHeartbeats 1000000 in
theorem pe_of {u : ByteArray} {w : World} (q k a b c p : Int) (hc : ∀ W, G w W → Calls Tryz.prog 8 #[.string u, .func (.func 9) #[] #[]] W fun e W' => e = .returned (.tuple #[.agg #[I q, I 0, I k, I a, I b, .string E0, .string E0, .string E0, .bool false, .slice none 0 0], I c, I p]) ∧ G W W') :
    Calls Tryz.prog 5 #[.string u] w fun e W' => e = .returned (.tuple #[.agg #[I q, I 0, I k, I a, I b, .string E0, .string E0, .string E0, .bool false, .slice none 0 0], I c, I p]) ∧ G w W' := by
  have HC := xh hc
  have HGW := xh ((G.refl w).alloc (.cells #[I 0, I 0, I 0, I 0, I 0, .string E0, .string E0, .string E0, .bool false, .slice none 0 0] 26))
  have HC0 : Hid (∀ o, (w.alloc (.cells #[I 0, I 0, I 0, I 0, I 0, .string E0, .string E0, .string E0, .bool false, .slice none 0 0] 26)).cell? ⟨w.heap.size, o, none⟩ = [I 0, I 0, I 0, I 0, I 0, .string E0, .string E0, .string E0, .bool false, .slice none 0 0][o]?) := fun o => by simp
  have HF0 : Hid (∀ o, (w.alloc (.cells #[I 0, I 0, I 0, I 0, I 0, .string E0, .string E0, .string E0, .bool false, .slice none 0 0] 26)).frozen? ⟨w.heap.size, o, none⟩ = false) := fun o => by simp
  have HZ0 : Hid (w.heap.size < (w.alloc (.cells #[I 0, I 0, I 0, I 0, I 0, .string E0, .string E0, .string E0, .bool false, .slice none 0 0] 26)).heap.size) := by unfold Hid; simp
  clear hc
  go_enter Tryz.func5, Tryz.ntmps5
  go_wp2_with (first | (go_at_call 8; refine Hid.out ?_) | fail)
  unfold Hid
  generalize w.alloc (.cells #[I 0, I 0, I 0, I 0, I 0, .string E0, .string E0, .string E0, .bool false, .slice none 0 0] 26) = wa at HGW HC0 HF0 HZ0 ⊢
  refine (HC.out wa HGW.out).mono ?_
  rintro e w1 ⟨rfl, hg⟩
  have hc0 := G.cells hg HC0.out HZ0.out
  have hf0 := G.frozens hg HF0.out HZ0.out
  have HG1 := xh (HGW.out.trans hg)
  clear hg HC0 HF0 HZ0 HGW HC
  go_wp2
  refine bodyPost_ret (v := .tuple #[.agg #[I q, I 0, I k, I a, I b, .string E0, .string E0, .string E0, .bool false, .slice none 0 0], I c, I p]) (by simp [results, Tryz.results5, go_sem, hc0]) rfl ⟨rfl, HG1.out.ten _ _ _ _ _ _ _ _ _ _⟩
end Go.Proofs.YthpflfkgbapbnaaGreatDoor
