/- Wire: WireReplies. -/
import Derived.Test.YtcdjjmjhdoanlaaGreatDoorWq
import Derived.Test.YtcdjjmjhdoanlaaGreatDoorW67
import Derived.Test.YtcdjjmjhdoanlaaGreatDoorW55
namespace Go.Proofs.YtcdjjmjhdoanlaaGreatDoor
section
open Go.ChangeShapes Go.WideShapes Go.ChangeAt Go.RowKit

abbrev oVl : Rel (List Vl) := ⟨1, fun w cs l => ∃ v, cs = [v] ∧ Row eV.rel w v l, fun ⟨_, h, _⟩ => by rw [h]; rfl, fun g ⟨v, h1, h2⟩ => ⟨v, h1, h2.G g⟩⟩
abbrev oNd : Rel Nd := ⟨3, fun w cs x => ∃ v, cs = [I x.id, .string x.lb, v] ∧ Row ePr.rel w v x.ps, fun ⟨_, h, _⟩ => by rw [h]; rfl, fun g ⟨v, h1, h2⟩ => ⟨v, h1, h2.G g⟩⟩
abbrev oEd : Rel Ed := ⟨5, fun w cs x => ∃ v, cs = [I x.id, .string x.ty, I x.fr, I x.dst, v] ∧ Row ePr.rel w v x.ps, fun ⟨_, h, _⟩ => by rw [h]; rfl, fun g ⟨v, h1, h2⟩ => ⟨v, h1, h2.G g⟩⟩
abbrev oTb : Rel Tb := ⟨5, fun w cs x => ∃ u v, cs = [u, v, I x.made, I x.gone, I x.set] ∧ Row eS.rel w u x.cols ∧ Row oVl w v x.rows, fun ⟨_, _, h, _⟩ => by rw [h]; rfl, fun g ⟨u, v, h1, h2, h3⟩ => ⟨u, v, h1, h2.G g, h3.G g⟩⟩
theorem Row.mono {α : Type} {R R' : Rel α} {w : World} {v : Value} {l : List α} (h : Row R w v l) (hs : R.s = R'.s) (hr : ∀ cs x, x ∈ l → R.r w cs x → R'.r w cs x) : Row R' w v l := by
  obtain ⟨p, cap, rfl, hc, hn, hx⟩ := h
  refine ⟨p, cap, rfl, hc, hn, fun i x e => ?_⟩
  obtain ⟨g, o, cs, h1, h2, h3⟩ := hx i x e
  exact ⟨g, o, cs, h1, hr cs x (List.mem_of_getElem? e) h2, by rw [← hs]; exact h3⟩
instance : Inhabited Vl := ⟨⟨0, 0, 0, E0⟩⟩
instance : Inhabited Pr := ⟨⟨E0, default⟩⟩
instance : Inhabited Nd := ⟨⟨0, E0, []⟩⟩
instance : Inhabited Ed := ⟨⟨0, E0, 0, 0, []⟩⟩
instance : Inhabited Tb := ⟨⟨[], [], 0, 0, 0⟩⟩
/-- Measures. -/
def mS (t : ByteArray) : Nat := t.size + 1
def mV (v : Vl) : Nat := v.s.size + 5
def mL {α : Type} (m : α → Nat) (l : List α) : Nat := (l.map m).sum + 1
def mP (p : Pr) : Nat := mS p.key + mV p.v + 1
def mN (n : Nd) : Nat := 1 + mS n.lb + mL mP n.ps + 1
def mE (n : Ed) : Nat := 1 + mS n.ty + 1 + 1 + mL mP n.ps + 1
def mT (t : Tb) : Nat := mL mS t.cols + mL (mL mV) t.rows + 1 + 1 + 1 + 1
theorem mem_sum {α : Type} (m : α → Nat) : ∀ (l : List α) (x : α), x ∈ l → m x ≤ (l.map m).sum
  | y :: l, x, h => by
    rw [List.map_cons, List.sum_cons]
    rcases List.mem_cons.1 h with rfl | h
    · omega
    · have := mem_sum m l x h; omega
theorem len_sum {α : Type} (m : α → Nat) (hm : ∀ x, 1 ≤ m x) : ∀ l : List α, l.length ≤ (l.map m).sum
  | [] => Nat.le_refl _
  | y :: l => by
    rw [List.map_cons, List.sum_cons, List.length_cons]
    have := len_sum m hm l; have := hm y; omega
theorem flat_sum {α : Type} (m : α → Nat) (f : α → List Nat) : ∀ l : List α, (∀ x ∈ l, (f x).length ≤ 40 * m x) → (l.flatMap f).length ≤ 40 * (l.map m).sum
  | [], _ => Nat.le_refl _
  | y :: l, h => by
    rw [List.map_cons, List.sum_cons, List.flatMap_cons, List.length_append]
    have h1 := flat_sum m f l (fun x hx => h x (List.mem_cons_of_mem _ hx)); have h2 := h y (List.mem_cons_self ..)
    omega
theorem lst_sum {α : Type} (m : α → Nat) (f : α → List Nat) (l : List α) (hl : l.length ≤ 1048576) (h : ∀ x ∈ l, (f x).length ≤ 40 * m x) : (lstB f l).length ≤ 40 * mL m l := by
  have h1 := flat_sum m f l h
  have h2 := (cnt_len l.length (by omega)).2
  unfold lstB mL
  rw [List.length_append]
  omega
section
variable {H : Type} {enc : TypeId × Value → H} {w : World}
theorem cells_v : Tryz.prog.cellsOf 137 = 4 := by kernel_rfl
theorem cells_p : Tryz.prog.cellsOf 156 = 5 := by kernel_rfl
theorem cells_n : Tryz.prog.cellsOf 114 = 3 := by kernel_rfl
theorem cells_e : Tryz.prog.cellsOf 119 = 5 := by kernel_rfl
theorem cells_t : Tryz.prog.cellsOf 74 = 5 := by kernel_rfl
theorem cells_g : Tryz.prog.cellsOf 39 = 2 := by kernel_rfl
theorem cells_r : Tryz.prog.cellsOf 41 = 7 := by kernel_rfl
theorem cells_er9 : Tryz.prog.cellsOf 22 = 1 := by kernel_rfl
theorem cells_vs : Tryz.prog.cellsOf 75 = 1 := by kernel_rfl
theorem cells_vss : Tryz.prog.cellsOf 72 = 1 := by kernel_rfl
theorem cells_ps : Tryz.prog.cellsOf 112 = 1 := by kernel_rfl
theorem cells_ns : Tryz.prog.cellsOf 36 = 1 := by kernel_rfl
theorem cells_es : Tryz.prog.cellsOf 37 = 1 := by kernel_rfl
theorem cells_ts : Tryz.prog.cellsOf 35 = 1 := by kernel_rfl
theorem cells_ss : Tryz.prog.cellsOf 34 = 1 := by kernel_rfl
set_option maxRecDepth 100000 in
theorem open_val9 {fuel : Nat} {cs : List Value} {x : DataW H × List MemPlace} (h : trodA enc w fuel 137 cs = some x) : ∃ y : Vl, cs = eV.e y ∧ (R64 y.a ∧ R64 y.b) ∧ mV y ≤ Rows.uptoBulk x.1 := by
  obtain ⟨xs, n, rfl, rfl, hl, hx, hf⟩ := DataW.trod_struct Tryz.underlying137 h
  rw [cells_v] at hl
  match cs, hl with
  | [c0, c1, c2, c3], _ =>
    have f0 : trodA enc w n 3 (([c0, c1, c2, c3].drop 0).take (Tryz.prog.cellsOf 3)) = xs[0]? := hf 0 _ rfl
    have f1 : trodA enc w n 2 (([c0, c1, c2, c3].drop 1).take (Tryz.prog.cellsOf 2)) = xs[1]? := hf 1 _ rfl
    have f2 : trodA enc w n 2 (([c0, c1, c2, c3].drop 2).take (Tryz.prog.cellsOf 2)) = xs[2]? := hf 2 _ rfl
    have f3 : trodA enc w n 9 (([c0, c1, c2, c3].drop 3).take (Tryz.prog.cellsOf 9)) = xs[3]? := hf 3 _ rfl
    simp only [cells_in, cells_64, cells_st, List.drop_zero, List.drop_succ_cons, List.take_succ_cons, List.take_zero] at f0 f1 f2 f3
    match xs, hx with
    | [y0, y1, y2, y3], _ =>
      simp only [List.getElem?_cons_zero, List.getElem?_cons_succ] at f0 f1 f2 f3
      obtain ⟨k, e0, _, hw0⟩ := DataW.trod_int Tryz.underlying3 f0
      clear hw0
      have b0 := bulk_pos y0.1
      obtain ⟨a, e1, _, hw1⟩ := DataW.trod_int Tryz.underlying2 f1
      have w1 := bounds_i64 hw1
      have b1 := bulk_pos y1.1
      obtain ⟨b, e2, _, hw2⟩ := DataW.trod_int Tryz.underlying2 f2
      have w2 := bounds_i64 hw2
      have b2 := bulk_pos y2.1
      obtain ⟨t, e3, e3', _⟩ := DataW.trod_string Tryz.underlying9 f3
      have l3 : t.data.toList.length = t.size := by rw [Array.length_toList]; rfl
      simp only [List.cons.injEq, and_true] at e0 e1 e2 e3
      subst e0 e1 e2 e3
      refine ⟨⟨k, a, b, t⟩, rfl, ⟨w1, w2⟩, ?_⟩
      simp only [List.map_cons, List.map_nil, Rows.uptoBulk, Rows.uptoBulkAll, e3']
      show t.size + 5 ≤ _
      omega
set_option maxRecDepth 100000 in
theorem open_pr9 {fuel : Nat} {cs : List Value} {x : DataW H × List MemPlace} (h : trodA enc w fuel 156 cs = some x) : ∃ y : Pr, cs = ePr.e y ∧ (R64 y.v.a ∧ R64 y.v.b) ∧ mP y ≤ Rows.uptoBulk x.1 := by
  obtain ⟨xs, n, rfl, rfl, hl, hx, hf⟩ := DataW.trod_struct Tryz.underlying156 h
  rw [cells_p] at hl
  match cs, hl with
  | [c0, c1, c2, c3, c4], _ =>
    have f0 : trodA enc w n 9 (([c0, c1, c2, c3, c4].drop 0).take (Tryz.prog.cellsOf 9)) = xs[0]? := hf 0 _ rfl
    have f1 : trodA enc w n 137 (([c0, c1, c2, c3, c4].drop 1).take (Tryz.prog.cellsOf 137)) = xs[1]? := hf 1 _ rfl
    simp only [cells_st, cells_v, List.drop_zero, List.drop_succ_cons, List.take_succ_cons, List.take_zero] at f0 f1
    match xs, hx with
    | [y0, y1], _ =>
      simp only [List.getElem?_cons_zero, List.getElem?_cons_succ] at f0 f1
      obtain ⟨t, e0, e0', _⟩ := DataW.trod_string Tryz.underlying9 f0
      have l0 : t.data.toList.length = t.size := by rw [Array.length_toList]; rfl
      obtain ⟨v, ev, wv, mv⟩ := open_val9 f1
      simp only [List.cons.injEq, and_true] at e0
      subst e0
      have ev : [c1, c2, c3, c4] = [I v.k, I v.a, I v.b, .string v.s] := ev
      simp only [List.cons.injEq, and_true] at ev
      obtain ⟨rfl, rfl, rfl, rfl⟩ := ev
      refine ⟨⟨t, v⟩, rfl, wv, ?_⟩
      simp only [List.map_cons, List.map_nil, Rows.uptoBulk, Rows.uptoBulkAll, e0']
      show t.size + 1 + mV v + 1 ≤ _
      omega
def qV (y : Vl) : Prop := R64 y.a ∧ R64 y.b
def qP (y : Pr) : Prop := R64 y.v.a ∧ R64 y.v.b
def qN (y : Nd) : Prop := R64 y.id ∧ ∀ p ∈ y.ps, qP p
def qE (y : Ed) : Prop := R64 y.id ∧ R64 y.fr ∧ R64 y.dst ∧ ∀ p ∈ y.ps, qP p
def qR (l : List Vl) : Prop := ∀ v ∈ l, qV v
def qS (_ : ByteArray) : Prop := True
def qT (t : Tb) : Prop := (∀ r ∈ t.rows, qR r) ∧ R64 t.made ∧ R64 t.gone ∧ R64 t.set
def m1 (_ : Int) : Nat := 1
theorem open_vs9 {fuel : Nat} {c : Value} {x : DataW H × List MemPlace} (h : trodA enc w fuel 75 [c] = some x) : ∃ l, Row eV.rel w c l ∧ (∀ y ∈ l, qV y) ∧ mL mV l ≤ Rows.uptoBulk x.1 :=
  open_row Tryz.underlying75 eV.rel cells_v (by decide) qV mV (fun _ _ _ hy => open_val9 hy) h
theorem open_ps9 {fuel : Nat} {c : Value} {x : DataW H × List MemPlace} (h : trodA enc w fuel 112 [c] = some x) : ∃ l, Row ePr.rel w c l ∧ (∀ y ∈ l, qP y) ∧ mL mP l ≤ Rows.uptoBulk x.1 :=
  open_row Tryz.underlying112 ePr.rel cells_p (by decide) qP mP (fun _ _ _ hy => open_pr9 hy) h
theorem open_str9 {fuel : Nat} {cs : List Value} {x : DataW H × List MemPlace} (h : trodA enc w fuel 9 cs = some x) : ∃ y : ByteArray, cs = eS.e y ∧ qS y ∧ mS y ≤ Rows.uptoBulk x.1 := by
  obtain ⟨t, e, e', _⟩ := DataW.trod_string Tryz.underlying9 h
  refine ⟨t, e, trivial, ?_⟩
  rw [e']
  simp only [Rows.uptoBulk]
  have : t.data.toList.length = t.size := by rw [Array.length_toList]; rfl
  show t.size + 1 ≤ _
  omega
theorem open_i9 {fuel : Nat} {cs : List Value} {x : DataW H × List MemPlace} (h : trodA enc w fuel 2 cs = some x) : ∃ y : Int, cs = eI.e y ∧ R64 y ∧ m1 y ≤ Rows.uptoBulk x.1 := by
  obtain ⟨q, e, _, hwf⟩ := DataW.trod_int Tryz.underlying2 h
  exact ⟨q, e, bounds_i64 hwf, bulk_pos _⟩
theorem open_rw9 {fuel : Nat} {cs : List Value} {x : DataW H × List MemPlace} (hl : cs.length = 1) (h : trodA enc w fuel 75 cs = some x) : ∃ y : List Vl, oVl.r w cs y ∧ qR y ∧ mL mV y ≤ Rows.uptoBulk x.1 := by
  match cs, hl with
  | [c], _ =>
    obtain ⟨l, h1, h2, h3⟩ := open_vs9 h
    exact ⟨l, ⟨c, rfl, h1⟩, h2, h3⟩
theorem open_ss9 {fuel : Nat} {c : Value} {x : DataW H × List MemPlace} (h : trodA enc w fuel 34 [c] = some x) : ∃ l, Row eS.rel w c l ∧ (∀ y ∈ l, qS y) ∧ mL mS l ≤ Rows.uptoBulk x.1 :=
  open_row Tryz.underlying34 eS.rel cells_st (by decide) qS mS (fun _ _ _ hy => open_str9 hy) h
theorem open_is9 {fuel : Nat} {c : Value} {x : DataW H × List MemPlace} (h : trodA enc w fuel 30 [c] = some x) : ∃ l, Row eI.rel w c l ∧ (∀ y ∈ l, R64 y) ∧ mL m1 l ≤ Rows.uptoBulk x.1 :=
  open_row Tryz.underlying30 eI.rel cells_64 (by decide) R64 m1 (fun _ _ _ hy => open_i9 hy) h
theorem one_len {fuel : Nat} {cs : List Value} {x : DataW H × List MemPlace} (h : trodA enc w fuel 75 cs = some x) : cs.length = 1 := by
  rcases Go.Deep.open_slice Tryz.underlying75 h with ⟨hc, _⟩ | ⟨a, len, cap', m, n, D, Pl, hc, _⟩
  · rw [hc]; rfl
  · rw [hc]; rfl
theorem open_rs9 {fuel : Nat} {c : Value} {x : DataW H × List MemPlace} (h : trodA enc w fuel 72 [c] = some x) : ∃ l, Row oVl w c l ∧ (∀ y ∈ l, qR y) ∧ mL (mL mV) l ≤ Rows.uptoBulk x.1 :=
  open_row Tryz.underlying72 oVl cells_vs (by decide) qR (mL mV) (fun _ _ _ hy => open_rw9 (one_len hy) hy) h
set_option maxRecDepth 100000 in
theorem open_nd9 {fuel : Nat} {cs : List Value} {x : DataW H × List MemPlace} (h : trodA enc w fuel 114 cs = some x) : ∃ y : Nd, oNd.r w cs y ∧ qN y ∧ mN y ≤ Rows.uptoBulk x.1 := by
  obtain ⟨xs, n, rfl, rfl, hl, hx, hf⟩ := DataW.trod_struct Tryz.underlying114 h
  rw [cells_n] at hl
  match cs, hl with
  | [c0, c1, c2], _ =>
    have f0 : trodA enc w n 2 (([c0, c1, c2].drop 0).take (Tryz.prog.cellsOf 2)) = xs[0]? := hf 0 _ rfl
    have f1 : trodA enc w n 9 (([c0, c1, c2].drop 1).take (Tryz.prog.cellsOf 9)) = xs[1]? := hf 1 _ rfl
    have f2 : trodA enc w n 112 (([c0, c1, c2].drop 2).take (Tryz.prog.cellsOf 112)) = xs[2]? := hf 2 _ rfl
    simp only [cells_64, cells_st, cells_ps, List.drop_zero, List.drop_succ_cons, List.take_succ_cons, List.take_zero] at f0 f1 f2
    match xs, hx with
    | [y0, y1, y2], _ =>
      simp only [List.getElem?_cons_zero, List.getElem?_cons_succ] at f0 f1 f2
      obtain ⟨k, e0, _, hw0⟩ := DataW.trod_int Tryz.underlying2 f0
      have w0 := bounds_i64 hw0
      have b0 := bulk_pos y0.1
      obtain ⟨t, e1, e1', _⟩ := DataW.trod_string Tryz.underlying9 f1
      have l1 : t.data.toList.length = t.size := by rw [Array.length_toList]; rfl
      obtain ⟨l, r1, r2, r3⟩ := open_ps9 f2
      simp only [List.cons.injEq, and_true] at e0 e1
      subst e0 e1
      refine ⟨⟨k, t, l⟩, ⟨c2, rfl, r1⟩, ⟨w0, r2⟩, ?_⟩
      simp only [List.map_cons, List.map_nil, Rows.uptoBulk, Rows.uptoBulkAll, e1']
      show 1 + (t.size + 1) + mL mP l + 1 ≤ _
      omega
set_option maxRecDepth 100000 in
theorem open_ed9 {fuel : Nat} {cs : List Value} {x : DataW H × List MemPlace} (h : trodA enc w fuel 119 cs = some x) : ∃ y : Ed, oEd.r w cs y ∧ qE y ∧ mE y ≤ Rows.uptoBulk x.1 := by
  obtain ⟨xs, n, rfl, rfl, hl, hx, hf⟩ := DataW.trod_struct Tryz.underlying119 h
  rw [cells_e] at hl
  match cs, hl with
  | [c0, c1, c2, c3, c4], _ =>
    have f0 : trodA enc w n 2 (([c0, c1, c2, c3, c4].drop 0).take (Tryz.prog.cellsOf 2)) = xs[0]? := hf 0 _ rfl
    have f1 : trodA enc w n 9 (([c0, c1, c2, c3, c4].drop 1).take (Tryz.prog.cellsOf 9)) = xs[1]? := hf 1 _ rfl
    have f2 : trodA enc w n 2 (([c0, c1, c2, c3, c4].drop 2).take (Tryz.prog.cellsOf 2)) = xs[2]? := hf 2 _ rfl
    have f3 : trodA enc w n 2 (([c0, c1, c2, c3, c4].drop 3).take (Tryz.prog.cellsOf 2)) = xs[3]? := hf 3 _ rfl
    have f4 : trodA enc w n 112 (([c0, c1, c2, c3, c4].drop 4).take (Tryz.prog.cellsOf 112)) = xs[4]? := hf 4 _ rfl
    simp only [cells_64, cells_st, cells_ps, List.drop_zero, List.drop_succ_cons, List.take_succ_cons, List.take_zero] at f0 f1 f2 f3 f4
    match xs, hx with
    | [y0, y1, y2, y3, y4], _ =>
      simp only [List.getElem?_cons_zero, List.getElem?_cons_succ] at f0 f1 f2 f3 f4
      obtain ⟨k, e0, _, hw0⟩ := DataW.trod_int Tryz.underlying2 f0
      have w0 := bounds_i64 hw0
      have b0 := bulk_pos y0.1
      obtain ⟨t, e1, e1', _⟩ := DataW.trod_string Tryz.underlying9 f1
      have l1 : t.data.toList.length = t.size := by rw [Array.length_toList]; rfl
      obtain ⟨a, e2, _, hw2⟩ := DataW.trod_int Tryz.underlying2 f2
      have w2 := bounds_i64 hw2
      have b2 := bulk_pos y2.1
      obtain ⟨b, e3, _, hw3⟩ := DataW.trod_int Tryz.underlying2 f3
      have w3 := bounds_i64 hw3
      have b3 := bulk_pos y3.1
      obtain ⟨l, r1, r2, r3⟩ := open_ps9 f4
      simp only [List.cons.injEq, and_true] at e0 e1 e2 e3
      subst e0 e1 e2 e3
      refine ⟨⟨k, t, a, b, l⟩, ⟨c4, rfl, r1⟩, ⟨w0, w2, w3, r2⟩, ?_⟩
      simp only [List.map_cons, List.map_nil, Rows.uptoBulk, Rows.uptoBulkAll, e1']
      show 1 + (t.size + 1) + 1 + 1 + mL mP l + 1 ≤ _
      omega
set_option maxRecDepth 100000 in
theorem open_tb9 {fuel : Nat} {cs : List Value} {x : DataW H × List MemPlace} (h : trodA enc w fuel 74 cs = some x) : ∃ y : Tb, oTb.r w cs y ∧ qT y ∧ mT y ≤ Rows.uptoBulk x.1 := by
  obtain ⟨xs, n, rfl, rfl, hl, hx, hf⟩ := DataW.trod_struct Tryz.underlying74 h
  rw [cells_t] at hl
  match cs, hl with
  | [c0, c1, c2, c3, c4], _ =>
    have f0 : trodA enc w n 34 (([c0, c1, c2, c3, c4].drop 0).take (Tryz.prog.cellsOf 34)) = xs[0]? := hf 0 _ rfl
    have f1 : trodA enc w n 72 (([c0, c1, c2, c3, c4].drop 1).take (Tryz.prog.cellsOf 72)) = xs[1]? := hf 1 _ rfl
    have f2 : trodA enc w n 3 (([c0, c1, c2, c3, c4].drop 2).take (Tryz.prog.cellsOf 3)) = xs[2]? := hf 2 _ rfl
    have f3 : trodA enc w n 3 (([c0, c1, c2, c3, c4].drop 3).take (Tryz.prog.cellsOf 3)) = xs[3]? := hf 3 _ rfl
    have f4 : trodA enc w n 3 (([c0, c1, c2, c3, c4].drop 4).take (Tryz.prog.cellsOf 3)) = xs[4]? := hf 4 _ rfl
    simp only [cells_ss, cells_vss, cells_in, List.drop_zero, List.drop_succ_cons, List.take_succ_cons, List.take_zero] at f0 f1 f2 f3 f4
    match xs, hx with
    | [y0, y1, y2, y3, y4], _ =>
      simp only [List.getElem?_cons_zero, List.getElem?_cons_succ] at f0 f1 f2 f3 f4
      obtain ⟨l, r1, r2, r3⟩ := open_ss9 f0
      obtain ⟨rs, s1, s2, s3⟩ := open_rs9 f1
      obtain ⟨a, e2, _, hw2⟩ := DataW.trod_int Tryz.underlying3 f2
      have w2 := bounds_i64 hw2
      have b2 := bulk_pos y2.1
      obtain ⟨b, e3, _, hw3⟩ := DataW.trod_int Tryz.underlying3 f3
      have w3 := bounds_i64 hw3
      have b3 := bulk_pos y3.1
      obtain ⟨k, e4, _, hw4⟩ := DataW.trod_int Tryz.underlying3 f4
      have w4 := bounds_i64 hw4
      have b4 := bulk_pos y4.1
      simp only [List.cons.injEq, and_true] at e2 e3 e4
      subst e2 e3 e4
      refine ⟨⟨l, rs, a, b, k⟩, ⟨c0, c1, rfl, r1, s1⟩, ⟨s2, w2, w3, w4⟩, ?_⟩
      simp only [List.map_cons, List.map_nil, Rows.uptoBulk, Rows.uptoBulkAll]
      show mL mS l + mL (mL mV) rs + 1 + 1 + 1 + 1 ≤ _
      omega
theorem open_ns9 {fuel : Nat} {c : Value} {x : DataW H × List MemPlace} (h : trodA enc w fuel 36 [c] = some x) : ∃ l, Row oNd w c l ∧ (∀ y ∈ l, qN y) ∧ mL mN l ≤ Rows.uptoBulk x.1 :=
  open_row Tryz.underlying36 oNd cells_n (by decide) qN mN (fun _ _ _ hy => open_nd9 hy) h
theorem open_es9 {fuel : Nat} {c : Value} {x : DataW H × List MemPlace} (h : trodA enc w fuel 37 [c] = some x) : ∃ l, Row oEd w c l ∧ (∀ y ∈ l, qE y) ∧ mL mE l ≤ Rows.uptoBulk x.1 :=
  open_row Tryz.underlying37 oEd cells_e (by decide) qE mE (fun _ _ _ hy => open_ed9 hy) h
theorem open_ts9 {fuel : Nat} {c : Value} {x : DataW H × List MemPlace} (h : trodA enc w fuel 35 [c] = some x) : ∃ l, Row oTb w c l ∧ (∀ y ∈ l, qT y) ∧ mL mT l ≤ Rows.uptoBulk x.1 :=
  open_row Tryz.underlying35 oTb cells_t (by decide) qT mT (fun _ _ _ hy => open_tb9 hy) h
set_option maxRecDepth 100000 in
theorem open_gr9 {fuel : Nat} {cs : List Value} {x : DataW H × List MemPlace} (h : trodA enc w fuel 39 cs = some x) : ∃ (ns : List Nd) (es : List Ed) (d e : Value), cs = [d, e] ∧ Row oNd w d ns ∧ Row oEd w e es ∧ (∀ n ∈ ns, qN n) ∧ (∀ n ∈ es, qE n) ∧ mL mN ns + mL mE es + 1 ≤ Rows.uptoBulk x.1 := by
  obtain ⟨xs, n, rfl, rfl, hl, hx, hf⟩ := DataW.trod_struct Tryz.underlying39 h
  rw [cells_g] at hl
  match cs, hl with
  | [c0, c1], _ =>
    have f0 : trodA enc w n 36 (([c0, c1].drop 0).take (Tryz.prog.cellsOf 36)) = xs[0]? := hf 0 _ rfl
    have f1 : trodA enc w n 37 (([c0, c1].drop 1).take (Tryz.prog.cellsOf 37)) = xs[1]? := hf 1 _ rfl
    simp only [cells_ns, cells_es, List.drop_zero, List.drop_succ_cons, List.take_succ_cons, List.take_zero] at f0 f1
    match xs, hx with
    | [y0, y1], _ =>
      simp only [List.getElem?_cons_zero, List.getElem?_cons_succ] at f0 f1
      obtain ⟨l, r1, r2, r3⟩ := open_ns9 f0
      obtain ⟨rs, s1, s2, s3⟩ := open_es9 f1
      refine ⟨l, rs, c0, c1, rfl, r1, s1, r2, s2, ?_⟩
      simp only [List.map_cons, List.map_nil, Rows.uptoBulk, Rows.uptoBulkAll]
      omega
/-- What came in. -/
structure RpO (w : World) (cs : List Value) (q : Rp) (va vb vc vd ve : Value) : Prop where
  e : cs = [I q.dst, I q.code, va, vb, vc, vd, ve]
  n : Row eI.rel w va q.nums
  t : Row eS.rel w vb q.texts
  b : Row oTb w vc q.tables
  d : Row oNd w vd q.nodes
  g : Row oEd w ve q.edges
  c : R64 q.code
  qn : ∀ x ∈ q.nums, R64 x
  qb : ∀ x ∈ q.tables, qT x
  qd : ∀ x ∈ q.nodes, qN x
  qe : ∀ x ∈ q.edges, qE x
set_option maxRecDepth 100000 in
theorem open_rp9 {fuel : Nat} {cs : List Value} {x : DataW H × List MemPlace} (h : trodA enc w fuel 41 cs = some x) : ∃ (q : Rp) (va vb vc vd ve : Value), RpO w cs q va vb vc vd ve ∧ mL m1 q.nums + mL mS q.texts + mL mT q.tables + (mL mN q.nodes + mL mE q.edges + 1) ≤ Rows.uptoBulk x.1 := by
  obtain ⟨xs, n, rfl, rfl, hl, hx, hf⟩ := DataW.trod_struct Tryz.underlying41 h
  rw [cells_r] at hl
  match cs, hl with
  | [c0, c1, c2, c3, c4, c5, c6], _ =>
    have f0 : trodA enc w n 3 (([c0, c1, c2, c3, c4, c5, c6].drop 0).take (Tryz.prog.cellsOf 3)) = xs[0]? := hf 0 _ rfl
    have f1 : trodA enc w n 22 (([c0, c1, c2, c3, c4, c5, c6].drop 1).take (Tryz.prog.cellsOf 22)) = xs[1]? := hf 1 _ rfl
    have f2 : trodA enc w n 30 (([c0, c1, c2, c3, c4, c5, c6].drop 2).take (Tryz.prog.cellsOf 30)) = xs[2]? := hf 2 _ rfl
    have f3 : trodA enc w n 34 (([c0, c1, c2, c3, c4, c5, c6].drop 3).take (Tryz.prog.cellsOf 34)) = xs[3]? := hf 3 _ rfl
    have f4 : trodA enc w n 35 (([c0, c1, c2, c3, c4, c5, c6].drop 4).take (Tryz.prog.cellsOf 35)) = xs[4]? := hf 4 _ rfl
    have f5 : trodA enc w n 39 (([c0, c1, c2, c3, c4, c5, c6].drop 5).take (Tryz.prog.cellsOf 39)) = xs[5]? := hf 5 _ rfl
    simp only [cells_in, cells_er9, cells_64s, cells_ss, cells_ts, cells_g, List.drop_zero, List.drop_succ_cons, List.take_succ_cons, List.take_zero] at f0 f1 f2 f3 f4 f5
    match xs, hx with
    | [y0, y1, y2, y3, y4, y5], _ =>
      simp only [List.getElem?_cons_zero, List.getElem?_cons_succ] at f0 f1 f2 f3 f4 f5
      obtain ⟨k, e0, _, hw0⟩ := DataW.trod_int Tryz.underlying3 f0
      clear hw0
      have b0 := bulk_pos y0.1
      obtain ⟨a, e1, _, hw1⟩ := DataW.trod_int Tryz.underlying22 f1
      have w1 := bounds_i64 hw1
      have b1 := bulk_pos y1.1
      obtain ⟨l2, r2, s2, t2⟩ := open_is9 f2
      obtain ⟨l3, r3, s3, t3⟩ := open_ss9 f3
      obtain ⟨l4, r4, s4, t4⟩ := open_ts9 f4
      obtain ⟨l5, l6, d, e, hde, r5, r6, s5, s6, t5⟩ := open_gr9 f5
      simp only [List.cons.injEq, and_true] at e0 e1
      subst e0 e1
      simp only [List.cons.injEq, and_true] at hde
      obtain ⟨rfl, rfl⟩ := hde
      refine ⟨⟨k, a, l2, l3, l4, l5, l6⟩, c2, c3, c4, c5, c6, ⟨rfl, r2, r3, r4, r5, r6, w1, s2, s4, s5, s6⟩, ?_⟩
      simp only [List.map_cons, List.map_nil, Rows.uptoBulk, Rows.uptoBulkAll]
      show mL m1 l2 + mL mS l3 + mL mT l4 + (mL mN l5 + mL mE l6 + 1) ≤ _
      omega
end
end
open Go.RowKit

theorem mV_pos (x : Vl) : 1 ≤ mV x := by unfold mV; omega
theorem mS_pos (x : ByteArray) : 1 ≤ mS x := by unfold mS; omega
theorem mV_size (x : Vl) : x.s.size < mV x := by unfold mV; omega
theorem mS_size (x : ByteArray) : x.size < mS x := by unfold mS; omega
theorem mP_size (x : Pr) : x.key.size < mP x ∧ x.v.s.size < mP x := by unfold mP mS mV; exact ⟨by omega, by omega⟩
theorem mL_pos {α : Type} (m : α → Nat) (l : List α) : 1 ≤ mL m l := by unfold mL; omega
theorem mP_pos (x : Pr) : 1 ≤ mP x := by unfold mP; omega
theorem mN_pos (x : Nd) : 1 ≤ mN x := by unfold mN; omega
theorem mE_pos (x : Ed) : 1 ≤ mE x := by unfold mE; omega
theorem mT_pos (x : Tb) : 1 ≤ mT x := by unfold mT; omega
theorem mL_mem {α : Type} {m : α → Nat} {l : List α} {x : α} (h : x ∈ l) : m x < mL m l := by have := mem_sum m l x h; unfold mL; omega
theorem mL_len {α : Type} {m : α → Nat} (hm : ∀ x, 1 ≤ m x) (l : List α) : l.length < mL m l := by have := len_sum m hm l; unfold mL; omega
theorem num_len (n : Int) (h : R64 n) : (numB n).length ≤ 10 := (cnt_len (zig n) (zig_lt n h)).2
theorem txt_le (t : ByteArray) (h : t.size ≤ 1048576) : (txtB t).length ≤ 40 * mS t := by
  have := (cnt_len t.size (by omega)).2
  unfold txtB mS
  rw [List.length_append, bys_len]
  omega
theorem val_le (v : Vl) (h : v.s.size ≤ 1048576) (hq : qV v) : (valB v).length ≤ 40 * mV v := by
  have h1 := num_len v.a hq.1
  have h2 := num_len v.b hq.2
  have h3 := (cnt_len v.s.size (by omega)).2
  have h4 := bys_len v.s
  unfold valB mV valR
  rw [List.length_cons]
  have h1 : (cnt (zig v.a)).length ≤ 10 := h1
  have h2 : (cnt (zig v.b)).length ≤ 10 := h2
  split
  · simp; omega
  split
  · omega
  split
  · rw [List.length_append]; omega
  split
  · rw [List.length_append]; omega
  · simp; omega
theorem pr_le (p : Pr) (h : mP p ≤ 1048576) (hq : qP p) : (prB p).length ≤ 40 * mP p := by
  unfold mP at h ⊢
  have h0 : p.v.s.size ≤ 1048576 := by unfold mV at h; omega
  have h1 := txt_le p.key (by unfold mS at h; omega)
  have h2 := val_le p.v h0 hq
  unfold prB
  rw [List.length_append]
  omega
theorem ps_le (l : List Pr) (h : mL mP l ≤ 1048576) (hq : ∀ p ∈ l, qP p) : (lstB prB l).length ≤ 40 * mL mP l :=
  lst_sum mP prB l (by have := mL_len mP_pos l; omega) (fun p hp => pr_le p (by have := mL_mem (m := mP) hp; omega) (hq p hp))
theorem nd_le (n : Nd) (h : mN n ≤ 1048576) (hq : qN n) : (ndB n).length ≤ 40 * mN n := by
  unfold mN at h ⊢
  have h1 := txt_le n.lb (by unfold mS at h; omega)
  have h2 := ps_le n.ps (by omega) hq.2
  have h3 := num_len n.id hq.1
  unfold ndB
  rw [List.length_append, List.length_append]
  omega
theorem ed_le (n : Ed) (h : mE n ≤ 1048576) (hq : qE n) : (edB n).length ≤ 40 * mE n := by
  unfold mE at h ⊢
  have h1 := txt_le n.ty (by unfold mS at h; omega)
  have h2 := ps_le n.ps (by omega) hq.2.2.2
  have h3 := num_len n.id hq.1
  have h4 := num_len n.fr hq.2.1
  have h5 := num_len n.dst hq.2.2.1
  unfold edB
  rw [List.length_append, List.length_append, List.length_append, List.length_append]
  omega
theorem rw_le (l : List Vl) (h : mL mV l ≤ 1048576) (hq : qR l) : (rwB l).length ≤ 40 * mL mV l :=
  lst_sum mV valB l (by have := mL_len mV_pos l; omega) (fun v hv => val_le v (by have := mL_mem (m := mV) hv; have := mV_size v; omega) (hq v hv))
theorem tb_le (t : Tb) (h : mT t ≤ 1048576) (hq : qT t) : (tbB t).length ≤ 40 * mT t := by
  unfold mT at h ⊢
  have h1 := lst_sum mS txtB t.cols (by have := mL_len mS_pos t.cols; omega) (fun c hc => txt_le c (by have := mL_mem (m := mS) hc; have := mS_size c; omega))
  have h2 := lst_sum (mL mV) rwB t.rows (by have := mL_len (mL_pos mV) t.rows; omega) (fun r hr => rw_le r (by have := mL_mem (m := mL mV) hr; omega) (hq.1 r hr))
  have h3 := num_len t.made hq.2.1
  have h4 := num_len t.gone hq.2.2.1
  have h5 := num_len t.set hq.2.2.2
  unfold tbB
  rw [List.length_append, List.length_append, List.length_append, List.length_append]
  omega
/-- What came in is of a size. -/
theorem rpo_all {w : World} {cs : List Value} {q : Rp} {va vb vc vd ve : Value} (h : RpO w cs q va vb vc vd ve) (hm : mL m1 q.nums + mL mS q.texts + mL mT q.tables + (mL mN q.nodes + mL mE q.edges + 1) ≤ 1048576) : RpL w va vb vc vd ve q ∧ RpW q ∧ RpB q ∧ (rpB q).length ≤ 1800000000000 := by
  have ln := mL_len (m := m1) (fun _ => Nat.le_refl _) q.nums
  have lt := mL_len mS_pos q.texts
  have lb := mL_len mT_pos q.tables
  have ld := mL_len mN_pos q.nodes
  have le := mL_len mE_pos q.edges
  have hS : ∀ x ∈ q.texts, x.size ≤ 1048576 := fun x hx => by have := mL_mem (m := mS) hx; have := mS_size x; omega
  have hTm : ∀ x ∈ q.tables, mT x ≤ 1048576 := fun x hx => by have := mL_mem (m := mT) hx; omega
  have hNm : ∀ x ∈ q.nodes, mN x ≤ 1048576 := fun x hx => by have := mL_mem (m := mN) hx; omega
  have hEm : ∀ x ∈ q.edges, mE x ≤ 1048576 := fun x hx => by have := mL_mem (m := mE) hx; omega
  have hPl : ∀ l : List Pr, mL mP l ≤ 1048576 → l.length ≤ 1048576 := fun l hl => by have := mL_len mP_pos l; omega
  have hPw : ∀ l : List Pr, mL mP l ≤ 1048576 → (∀ p ∈ l, qP p) → ∀ p ∈ l, PrW p := fun l hl hq p hp => by
    have h1 := mL_mem (m := mP) hp
    have h2 := mP_size p
    exact ⟨by omega, (hq p hp).1, (hq p hp).2, by omega⟩
  have hNp : ∀ x ∈ q.nodes, mL mP x.ps ≤ 1048576 ∧ x.lb.size ≤ 1048576 := fun x hx => by have := hNm x hx; unfold mN mS at this; exact ⟨by omega, by omega⟩
  have hEp : ∀ x ∈ q.edges, mL mP x.ps ≤ 1048576 ∧ x.ty.size ≤ 1048576 := fun x hx => by have := hEm x hx; unfold mE mS at this; exact ⟨by omega, by omega⟩
  have hTp : ∀ x ∈ q.tables, mL mS x.cols ≤ 1048576 ∧ mL (mL mV) x.rows ≤ 1048576 := fun x hx => by have := hTm x hx; unfold mT at this; exact ⟨by omega, by omega⟩
  have hTc : ∀ x ∈ q.tables, x.cols.length ≤ 1048576 := fun x hx => by have := mL_len mS_pos x.cols; have := (hTp x hx).1; omega
  have hTr : ∀ x ∈ q.tables, x.rows.length ≤ 1048576 := fun x hx => by have := mL_len (mL_pos mV) x.rows; have := (hTp x hx).2; omega
  have hTv : ∀ x ∈ q.tables, ∀ r ∈ x.rows, mL mV r ≤ 1048576 := fun x hx r hr => by have := mL_mem (m := mL mV) hr; have := (hTp x hx).2; omega
  have hTl : ∀ x ∈ q.tables, ∀ r ∈ x.rows, r.length ≤ 1048576 := fun x hx r hr => by have := mL_len mV_pos r; have := hTv x hx r hr; omega
  have c1 : (1048576 : Nat) ≤ 140737488355328 := by decide
  have c2 : (1048576 : Nat) ≤ 140737488351232 := by decide
  have c3 : (1048576 : Nat) ≤ 1099511627776 := by decide
  refine ⟨⟨h.n, h.t, ?_, ?_, ?_, by omega, by omega, by omega, by omega, by omega⟩, ⟨h.c, ⟨by omega, h.qn⟩, ⟨by omega, fun x hx => Nat.le_trans (hS x hx) c2⟩, ⟨by omega, fun x hx => ?_⟩, ⟨by omega, fun x hx => ?_⟩, ⟨by omega, fun x hx => ?_⟩⟩, ⟨by omega, by omega, ⟨by omega, fun x hx => ⟨Nat.le_trans (hTc x hx) c3, Nat.le_trans (hTr x hx) c3, fun r hr => Nat.le_trans (hTl x hx r hr) c3⟩⟩, ⟨by omega, fun x hx => Nat.le_trans (hPl _ (hNp x hx).1) c3⟩, ⟨by omega, fun x hx => Nat.le_trans (hPl _ (hEp x hx).1) c3⟩⟩, ?_⟩
  · refine h.b.mono rfl (fun cs x hx ⟨u, v, e, r1, r2⟩ => ⟨u, v, e, r1, r2.mono rfl (fun cs r hr ⟨z, e, s1⟩ => ⟨z, e, s1, Nat.le_trans (hTl x hx r hr) c1⟩), Nat.le_trans (hTc x hx) c1, Nat.le_trans (hTr x hx) c1⟩)
  · exact h.d.mono rfl (fun cs x hx ⟨v, e, r1⟩ => ⟨v, e, r1, Nat.le_trans (hPl _ (hNp x hx).1) c1⟩)
  · exact h.g.mono rfl (fun cs x hx ⟨v, e, r1⟩ => ⟨v, e, r1, Nat.le_trans (hPl _ (hEp x hx).1) c1⟩)
  · have hq := h.qb x hx
    refine ⟨Nat.le_trans (hTc x hx) c2, fun c hc => ?_, Nat.le_trans (hTr x hx) c2, fun r hr => ⟨Nat.le_trans (hTl x hx r hr) c2, fun v hv => ⟨(hq.1 r hr v hv).1, (hq.1 r hr v hv).2, ?_⟩⟩, hq.2⟩
    · have h1 := mL_mem (m := mS) hc; have h2 := (hTp x hx).1; have := mS_size c; omega
    · have h1 := mL_mem (m := mV) hv; have h2 := hTv x hx r hr; have := mV_size v; omega
  · exact ⟨(h.qd x hx).1, Nat.le_trans (hNp x hx).2 c2, Nat.le_trans (hPl _ (hNp x hx).1) c2, hPw _ (hNp x hx).1 (h.qd x hx).2⟩
  · exact ⟨(h.qe x hx).1, Nat.le_trans (hEp x hx).2 c2, (h.qe x hx).2.1, (h.qe x hx).2.2.1, Nat.le_trans (hPl _ (hEp x hx).1) c2, hPw _ (hEp x hx).1 (h.qe x hx).2.2.2⟩
  · have b1 := lst_sum m1 numB q.nums (by omega) (fun x hx => by have := num_len x (h.qn x hx); unfold m1; omega)
    have b2 := lst_sum mS txtB q.texts (by omega) (fun x hx => txt_le x (hS x hx))
    have b3 := lst_sum mT tbB q.tables (by omega) (fun x hx => tb_le x (hTm x hx) (h.qb x hx))
    have b4 := lst_sum mN ndB q.nodes (by omega) (fun x hx => nd_le x (hNm x hx) (h.qd x hx))
    have b5 := lst_sum mE edB q.edges (by omega) (fun x hx => ed_le x (hEm x hx) (h.qe x hx))
    have b6 := num_len q.code h.c
    unfold rpB grB9
    rw [List.length_append, List.length_append, List.length_append, List.length_append, List.length_append]
    omega
/-- Own rows are rows. -/
theorem RpB.lists {w : World} {q : Rp} (h : RpB q) {i0 i1 a b c d e : Value} (hv : dQ.r w [i0, i1, a, b, c, d, e] q) : RpL w a b c d e q := by
  obtain ⟨a', b', c', d', e', h0, h1, h2, h3, h4, h5⟩ := hv
  simp only [List.cons.injEq, and_true] at h0
  obtain ⟨_, _, rfl, rfl, rfl, rfl, rfl⟩ := h0
  have hB : (1099511627776 : Nat) ≤ 140737488355328 := by decide
  have hP : ∀ {w : World} {v : Value} {l : List Pr}, NRow dP 156 w v l → Row ePr.rel w v l := fun h => h.toRow rfl (fun cs x _ h => h)
  refine ⟨h1.toRow, h2.toRow, h3.toRow rfl (fun cs x hx ⟨u, v, q0, q1, q2⟩ => ?_), h4.toRow rfl (fun cs x hx ⟨v, q0, q1⟩ => ⟨v, q0, hP q1, Nat.le_trans (h.d.2 x hx) hB⟩), h5.toRow rfl (fun cs x hx ⟨v, q0, q1⟩ => ⟨v, q0, hP q1, Nat.le_trans (h.e.2 x hx) hB⟩), Nat.le_trans h.n hB, Nat.le_trans h.t hB, Nat.le_trans h.b.1 hB, Nat.le_trans h.d.1 hB, Nat.le_trans h.e.1 hB⟩
  have ht := h.b.2 x hx
  refine ⟨u, v, q0, q1.toRow, q2.toRow rfl (fun cs y hy ⟨z, r0, r1⟩ => ⟨z, r0, r1.toRow rfl (fun cs x _ h => h), Nat.le_trans (ht.2.2 y hy) hB⟩), Nat.le_trans ht.1 hB, Nat.le_trans ht.2.1 hB⟩
theorem frame9_len (q : Rp) : q.frame9.length ≤ 140737488355328 := by
  unfold Rp.frame9
  split
  · rename_i h0
    rw [frB_len]
    have : ((rpF q).getD []).length ≤ 2097152 := by
      unfold Rp.code9 at h0
      split at h0
      · cases h0
      split at h0
      · cases h0
      split at h0
      · cases h0
      · rename_i l hl
        split at h0
        · cases h0
        · rw [hl]; show l.length ≤ _; omega
    omega
  · simp
set_option maxRecDepth 100000 in
set_option maxHeartbeats 1000000 in
theorem wireReplies (q : Rp) (va vb vc vd ve : Value) (W : World) (hv : RpL W va vb vc vd ve q) (hx : RpW q) (hb : RpB q) (hl : (rpB q).length ≤ 1800000000000) (hT : Tabs W) :
    Calls Tryz.prog 4 #[.agg #[I q.dst, I q.code, va, vb, vc, vd, ve]] W fun e W' => e = .returned (.bool true) ∧ G W W' := by
  have hv0 := hv
  obtain ⟨na, nc, rfl⟩ := hv.nums.form
  obtain ⟨ta, tc, rfl⟩ := hv.texts.form
  obtain ⟨ba, bc, rfl⟩ := hv.tables.form
  obtain ⟨da, dc, rfl⟩ := hv.nodes.form
  obtain ⟨ea, ec, rfl⟩ := hv.edges.form
  have hB := Blk.new W [I q.dst, I q.code, .slice na q.nums.length nc, .slice ta q.texts.length tc, .slice ba q.tables.length bc, .slice da q.nodes.length dc, .slice ea q.edges.length ec] 41
  have hA := (G.refl W).alloc (.cells #[I q.dst, I q.code, .slice na q.nums.length nc, .slice ta q.texts.length tc, .slice ba q.tables.length bc, .slice da q.nodes.length dc, .slice ea q.edges.length ec] 41)
  have hc := hB.cell
  have K1 := hide (ownr_any q _ _ _ _ _ (W.alloc (.cells #[I q.dst, I q.code, .slice na q.nums.length nc, .slice ta q.texts.length tc, .slice ba q.tables.length bc, .slice da q.nodes.length dc, .slice ea q.edges.length ec] 41)) (hv0.G hA) hb)
  have HH := hide (hv0.G hA)
  have HX := hide (And.intro hx (And.intro hb hl))
  have HT := hide (hT.G hA)
  have HB := hide hB
  have HA := hide hA
  clear hv hv0 hx hb hl hT hB hA
  go_enter Tryz.func4, Tryz.ntmps4
  go_wp2_with fail
  generalize W.alloc (.cells #[I q.dst, I q.code, .slice na q.nums.length nc, .slice ta q.texts.length tc, .slice ba q.tables.length bc, .slice da q.nodes.length dc, .slice ea q.edges.length ec] 41) = w1 at K1 HH HT HB HA hc ⊢
  refine K1.out.mono ?_
  rintro e w2 ⟨xa, xn, xc, ya, yn, yc, oa, on, oc, ga, gn, gc, ha, hn9, hc9, rfl, hq2, hg2⟩
  have hA3 := (G.refl w2).alloc (.cells #[I q.dst, I q.code, .slice xa xn xc, .slice ya yn yc, .slice oa on oc, .slice ga gn gc, .slice ha hn9 hc9] 41)
  have hO := Blk.new w2 [I q.dst, I q.code, .slice xa xn xc, .slice ya yn yc, .slice oa on oc, .slice ga gn gc, .slice ha hn9 hc9] 41
  have hg3 := hg2.trans hA3
  have hb3 := HB.out.G hg3
  have c3 := hb3.cell
  have d3 := hO.cell
  have z3 := Blk.new w2 [I 0, I 0, .slice none 0 0, .slice none 0 0, .slice none 0 0, .slice none 0 0, .slice none 0 0] 41
  have z4 := z3.cell
  have z5 := z3.frozen
  have hq3 := (HX.out.2.1.lists hq2).G hA3
  have K2 := hide (putr_any (w2.alloc (.cells #[I q.dst, I q.code, .slice xa xn xc, .slice ya yn yc, .slice oa on oc, .slice ga gn gc, .slice ha hn9 hc9] 41)) q _ _ _ _ _ hq3 HX.out.1 (HT.out.G hg3))
  have HQ := hide hq3
  have HO := hide hO
  have HG3 := hide hg3
  clear hq2 hg2 hA3 hO hg3 hb3 z3 K1 hq3
  go_wp2_with fail
  generalize w2.alloc (.cells #[I q.dst, I q.code, .slice xa xn xc, .slice ya yn yc, .slice oa on oc, .slice ga gn gc, .slice ha hn9 hc9] 41) = w3 at K2 HQ HO HG3 c3 d3 ⊢
  refine K2.out.mono ?_
  rintro e w4 ⟨x4, rfl, hs4, hg4, -⟩
  have hb4 := (HB.out.G HG3.out).G hg4
  have c4 := hb4.cell
  have K3 := hide (rputr_any w4 q _ _ _ _ _ ((HH.out.G HG3.out).G hg4) HX.out.1 HX.out.2.1 HX.out.2.2)
  have HS4 := hide hs4
  have HG4 := hide hg4
  clear hs4 hg4 hb4 K2 c3 d3
  go_wp2_with fail
  refine K3.out.mono ?_
  rintro e w5 ⟨y5, rfl, hs5, hg5, -⟩
  have KB := hide (bytes_any q.frame9 x4 y5 w5 (HS4.out.G hg5).toRow hs5.toRow (frame9_len q))
  have HG5 := hide (HG4.out.trans hg5)
  generalize q.code9 = cd
  clear hs5 hg5 K3 HS4 HG4 c4
  go_wp2_with fail
  refine KB.out.mono ?_
  rintro e w6 ⟨rfl, hg6⟩
  have hg36 := HG5.out.trans hg6
  have hb6 := (HB.out.G HG3.out).G hg36
  have ho6 := HO.out.G hg36
  have c6 := hb6.cell
  have d6 := ho6.cell
  have KS := hide (sreply_any q _ _ _ _ _ _ _ _ _ _ w6 (HQ.out.G hg36) ((HH.out.G HG3.out).G hg36))
  have HG6 := hide (HA.out.trans (HG3.out.trans hg36))
  clear hg6 hg36 hb6 ho6 KB HG5
  go_wp2_with fail
  refine KS.out.mono ?_
  rintro e w7 ⟨rfl, hg7⟩
  have HG7 := hide hg7
  clear hg7 KS
  go_wp2_with fail
  go_ret
  exact ⟨rfl, HG6.out.trans HG7.out⟩
theorem open_reply {H : Type} {enc : TypeId × Value → H} {w : World} {fuel : Nat} {cs : List Value} {x : DataW H × List MemPlace} (h : trodA enc w fuel 41 cs = some x) (hb : Rows.uptoBulk x.1 ≤ 1048576) : ∃ q : Rp × Value × Value × Value × Value × Value, Value.agg cs.toArray = .agg #[I q.1.dst, I q.1.code, q.2.1, q.2.2.1, q.2.2.2.1, q.2.2.2.2.1, q.2.2.2.2.2] ∧ RpL w q.2.1 q.2.2.1 q.2.2.2.1 q.2.2.2.2.1 q.2.2.2.2.2 q.1 ∧ RpW q.1 ∧ RpB q.1 ∧ (rpB q.1).length ≤ 1800000000000 := by
  obtain ⟨q, va, vb, vc, vd, ve, h1, h2⟩ := open_rp9 h
  obtain ⟨r1, r2, r3, r4⟩ := rpo_all h1 (by omega)
  exact ⟨(q, va, vb, vc, vd, ve), by rw [h1.e], r1, r2, r3, r4⟩
end Go.Proofs.YtcdjjmjhdoanlaaGreatDoor
