/- Wire: WireOne. -/
import Derived.Test.YtcdjjmjhdoanlaaGreatDoorWq
import Derived.SizedLaws
import Derived.Test.YtcdjjmjhdoanlaaGreatDoorW17
import Derived.Test.YtcdjjmjhdoanlaaGreatDoorW61
import Derived.Test.YtcdjjmjhdoanlaaGreatDoorW26
import Derived.Test.YtcdjjmjhdoanlaaGreatDoorW70
namespace Go.Proofs.YtcdjjmjhdoanlaaGreatDoor
section
section
section
open Go.ChangeShapes Go.WideShapes Go.ChangeAt Go.RowKit

section
variable {H : Type} {enc : TypeId × Value → H} {w : World}
theorem cells_er : Tryz.prog.cellsOf 22 = 1 := by kernel_rfl
theorem cells_fr : Tryz.prog.cellsOf 25 = 3 := by kernel_rfl
set_option maxRecDepth 100000 in
theorem open_frame {fuel : Nat} {cs : List Value} {x : DataW H × List MemPlace} (h : trodA enc w fuel 25 cs = some x) (hb : Rows.uptoBulk x.1 ≤ 1048576) : ∃ f : Int × Int × Value × List Nat, (Value.agg cs.toArray = .agg #[I f.1, I f.2.1, f.2.2.1] ∧ Rb w f.2.2.1 f.2.2.2 ∧ By f.2.2.2) ∧ f.2.2.2.length ≤ 1048576 := by
  obtain ⟨xs, n, rfl, rfl, hl, hx, hf⟩ := DataW.trod_struct Tryz.underlying25 h
  rw [cells_fr] at hl
  match cs, hl with
  | [c0, c1, c2], _ =>
    have f0 : trodA enc w n 22 (([c0, c1, c2].drop 0).take (Tryz.prog.cellsOf 22)) = xs[0]? := hf 0 _ rfl
    have f1 : trodA enc w n 3 (([c0, c1, c2].drop 1).take (Tryz.prog.cellsOf 3)) = xs[1]? := hf 1 _ rfl
    have f2 : trodA enc w n 23 (([c0, c1, c2].drop 2).take (Tryz.prog.cellsOf 23)) = xs[2]? := hf 2 _ rfl
    simp only [cells_er, cells_in, cells_bs, List.drop_zero, List.drop_succ_cons, List.take_succ_cons, List.take_zero] at f0 f1 f2
    match xs, hx with
    | [y0, y1, y2], _ =>
      simp only [List.getElem?_cons_zero, List.getElem?_cons_succ] at f0 f1 f2
      obtain ⟨c, e0, _, _⟩ := DataW.trod_int Tryz.underlying22 f0
      obtain ⟨k, e1, _, _⟩ := DataW.trod_int Tryz.underlying3 f1
      obtain ⟨l, r1, r2, r3⟩ := open_bytes f2
      simp only [List.cons.injEq, and_true] at e0 e1
      subst e0 e1
      simp only [List.map_cons, List.map_nil, Rows.uptoBulk, Rows.uptoBulkAll] at hb
      refine ⟨(c, k, c2, l), ⟨rfl, r1, r2⟩, ?_⟩
      show l.length ≤ _; omega
end
end
open Go.ChangeShapes Go.WideShapes Go.ChangeAt Go.RowKit

section
variable {H : Type} {enc : TypeId × Value → H} {w : World}
theorem bytes_u : Tryz.prog.bytesOf 5 = 1 := by kernel_rfl
theorem open_bytes2 {fuel : Nat} {c : Value} {x : DataW H × List MemPlace} (h : trodA enc w fuel 23 [c] = some x) : ∃ l, Rb w c l ∧ By l ∧ (l = [] ∨ ∃ es ss, x.1 = .slice es ss ∧ es.length = l.length) := by
  obtain ⟨l, r1, r2, _⟩ := open_bytes h
  obtain ⟨p, cap, e⟩ := r1.form
  refine ⟨l, r1, r2, ?_⟩
  rcases Go.Deep.open_slice Tryz.underlying23 h with ⟨hc, rfl⟩ | ⟨a, len, cap', m, n, D, Pl, hc, _, hl, hm, rfl, rfl, hx⟩
  · have hc : c = .slice none 0 0 := by simpa using hc
    rw [e] at hc
    injection hc with _ h2 _
    exact .inl (List.length_eq_zero_iff.1 h2)
  · have hc : c = .slice (some a) len m := by simpa using hc
    rw [e] at hc
    injection hc with _ h2 _
    exact .inr ⟨_, _, rfl, by simp; omega⟩
set_option maxRecDepth 100000 in
theorem open_frame2 {fuel : Nat} {cs : List Value} {x : DataW H × List MemPlace} (h : trodA enc w fuel 25 cs = some x) : ∃ f : Int × Int × Value × List Nat, (Value.agg cs.toArray = .agg #[I f.1, I f.2.1, f.2.2.1] ∧ Rb w f.2.2.1 f.2.2.2 ∧ By f.2.2.2) ∧ (f.2.2.2 = [] ∨ ∃ d0 d1 es ss, x.1 = .agg [d0, d1, .slice es ss] ∧ es.length = f.2.2.2.length) := by
  obtain ⟨xs, n, rfl, rfl, hl, hx, hf⟩ := DataW.trod_struct Tryz.underlying25 h
  rw [cells_fr] at hl
  match cs, hl with
  | [c0, c1, c2], _ =>
    have f0 : trodA enc w n 22 (([c0, c1, c2].drop 0).take (Tryz.prog.cellsOf 22)) = xs[0]? := hf 0 _ rfl
    have f1 : trodA enc w n 3 (([c0, c1, c2].drop 1).take (Tryz.prog.cellsOf 3)) = xs[1]? := hf 1 _ rfl
    have f2 : trodA enc w n 23 (([c0, c1, c2].drop 2).take (Tryz.prog.cellsOf 23)) = xs[2]? := hf 2 _ rfl
    simp only [cells_er, cells_in, cells_bs, List.drop_zero, List.drop_succ_cons, List.take_succ_cons, List.take_zero] at f0 f1 f2
    match xs, hx with
    | [y0, y1, y2], _ =>
      simp only [List.getElem?_cons_zero, List.getElem?_cons_succ] at f0 f1 f2
      obtain ⟨c, e0, _, _⟩ := DataW.trod_int Tryz.underlying22 f0
      obtain ⟨k, e1, _, _⟩ := DataW.trod_int Tryz.underlying3 f1
      obtain ⟨l, r1, r2, r3⟩ := open_bytes2 f2
      simp only [List.cons.injEq, and_true] at e0 e1
      subst e0 e1
      refine ⟨(c, k, c2, l), ⟨rfl, r1, r2⟩, ?_⟩
      rcases r3 with r3 | ⟨es, ss, r3, r4⟩
      · exact .inl r3
      · exact .inr ⟨y0.1, y1.1, es, ss, by rw [← r3]; rfl, r4⟩
end
end
open Go.ChangeShapes Go.WideShapes Go.ChangeAt Go.RowKit

section
variable {H : Type} {enc : TypeId × Value → H} {w : World}
set_option maxRecDepth 100000 in
theorem open_frame3 {fuel : Nat} {cs : List Value} {x : DataW H × List MemPlace} (h : trodA enc w fuel 25 cs = some x) : ∃ f : Int × Int × Value × List Nat, (Value.agg cs.toArray = .agg #[I f.1, I f.2.1, f.2.2.1] ∧ Rb w f.2.2.1 f.2.2.2 ∧ By f.2.2.2 ∧ R64 f.2.1) ∧ (f.2.2.2 = [] ∨ ∃ d0 d1 es ss, x.1 = .agg [d0, d1, .slice es ss] ∧ es.length = f.2.2.2.length) := by
  obtain ⟨xs, n, rfl, rfl, hl, hx, hf⟩ := DataW.trod_struct Tryz.underlying25 h
  rw [cells_fr] at hl
  match cs, hl with
  | [c0, c1, c2], _ =>
    have f0 : trodA enc w n 22 (([c0, c1, c2].drop 0).take (Tryz.prog.cellsOf 22)) = xs[0]? := hf 0 _ rfl
    have f1 : trodA enc w n 3 (([c0, c1, c2].drop 1).take (Tryz.prog.cellsOf 3)) = xs[1]? := hf 1 _ rfl
    have f2 : trodA enc w n 23 (([c0, c1, c2].drop 2).take (Tryz.prog.cellsOf 23)) = xs[2]? := hf 2 _ rfl
    simp only [cells_er, cells_in, cells_bs, List.drop_zero, List.drop_succ_cons, List.take_succ_cons, List.take_zero] at f0 f1 f2
    match xs, hx with
    | [y0, y1, y2], _ =>
      simp only [List.getElem?_cons_zero, List.getElem?_cons_succ] at f0 f1 f2
      obtain ⟨c, e0, _, _⟩ := DataW.trod_int Tryz.underlying22 f0
      obtain ⟨k, e1, _, hw1⟩ := DataW.trod_int Tryz.underlying3 f1
      obtain ⟨l, r1, r2, r3⟩ := open_bytes2 f2
      simp only [List.cons.injEq, and_true] at e0 e1
      subst e0 e1
      refine ⟨(c, k, c2, l), ⟨rfl, r1, r2, bounds_i64 hw1⟩, ?_⟩
      rcases r3 with r3 | ⟨es, ss, r3, r4⟩
      · exact .inl r3
      · exact .inr ⟨y0.1, y1.1, es, ss, by rw [← r3]; rfl, r4⟩
end
end
section
section
section
section
open Go.RowKit

theorem By.tail {a b : List Nat} (h : By (a ++ b)) : By b := fun x hx => h x (List.mem_append_right _ hx)
theorem pcG_inv : ∀ (l : List Nat) (f : Bool) (n m : Nat) (r : List Nat), By l → (f = true → n = 0) → (f = false → 0 < n) → pcG f n l = some (m, r) → cntH n ++ l = cnt m ++ r
  | [], f, n, m, r, _, _, _, h => by simp [pcG] at h
  | x :: l, f, n, m, r, hb, h1, h0, h => by
    have hx := hb x (by simp)
    unfold pcG at h
    split at h
    · cases h
    · rename_i hc
      simp only [Bool.or_eq_true, Bool.and_eq_true, beq_iff_eq, decide_eq_true_eq, not_or, not_and] at hc
      split at h
      · injection h with h
        injection h with e1 e2
        subst e1 e2
        have a1 : (n * 128 + x % 128) / 128 = n := by omega
        have a2 : (n * 128 + x % 128) % 128 = x := by omega
        rw [cnt, a1, a2, List.append_assoc]; rfl
      · have hp : 0 < n * 128 + x % 128 := by
          cases f with
          | true => have := hc.1 rfl; omega
          | false => have := h0 rfl; omega
        have ih := pcG_inv l false _ m r (fun y hy => hb y (List.mem_cons_of_mem _ hy)) (fun e => by cases e) (fun _ => hp) h
        rw [cntH_pos _ hp] at ih
        have a1 : (n * 128 + x % 128) / 128 = n := by omega
        have a2 : (n * 128 + x % 128) % 128 + 128 = x := by omega
        rw [a1, a2, List.append_assoc] at ih
        exact ih
theorem pc_inv {l r : List Nat} {n : Nat} (hb : By l) (h : pc l = some (n, r)) : l = cnt n ++ r := by
  have := pcG_inv l true 0 n r hb (fun _ => rfl) (fun e => by cases e) h
  rw [cntH_zero] at this
  exact this
/-- Put again, it is what was read. -/
def Inv {α : Type} (p : List Nat → Option (α × List Nat)) (f : α → Option (List Nat)) : Prop := ∀ l x r, By l → p l = some (x, r) → ∃ bs, f x = some bs ∧ l = bs ++ r
theorem zig_zag (n : Nat) : zig (zag n) = n := by unfold zig zag; split <;> split <;> omega
theorem Inv.pz : Inv pz numF := fun l x r hb h => by
  unfold Go.Proofs.YtcdjjmjhdoanlaaGreatDoor.pz at h
  cases e : pc l with
  | none => rw [e] at h; cases h
  | some y =>
    rw [e] at h
    cases h
    refine ⟨_, rfl, ?_⟩
    rw [zig_zag]
    exact pc_inv hb e
theorem Inv.pt : Inv pt txtF := fun l x r hb h => by
  unfold Go.Proofs.YtcdjjmjhdoanlaaGreatDoor.pt px at h
  cases e : pc l with
  | none => rw [e] at h; cases h
  | some y =>
    rw [e] at h
    have h : (ptk y.1 y.2).map (fun x => (strOf x.1, x.2)) = some (x, r) := h
    unfold ptk at h
    split at h
    · rename_i hl
      cases h
      have hi := pc_inv hb e
      have hby : By y.2 := by rw [hi] at hb; exact hb.tail
      have ht : By (y.2.take y.1) := fun z hz => hby z (List.mem_of_mem_take hz)
      refine ⟨_, rfl, ?_⟩
      have e1 := bys_strOf _ ht
      have e2 : (strOf (y.2.take y.1)).size = y.1 := by rw [← bys_len, e1, List.length_take]; omega
      show l = (cnt (strOf (y.2.take y.1)).size ++ bys (strOf (y.2.take y.1))) ++ y.2.drop y.1
      rw [e1, e2, List.append_assoc, List.take_append_drop]
      exact hi
    · cases h
theorem Inv.prep {α : Type} {p : List Nat → Option (α × List Nat)} {f : α → Option (List Nat)} (h : Inv p f) : ∀ n l xs r, By l → prep p n l = some (xs, r) → xs.length = n ∧ ∃ bs, catL f xs = some bs ∧ l = bs ++ r
  | 0, l, xs, r, _, e => by
    rw [Go.Proofs.YtcdjjmjhdoanlaaGreatDoor.prep] at e; cases e; exact ⟨rfl, [], rfl, rfl⟩
  | n + 1, l, xs, r, hb, e => by
    rw [Go.Proofs.YtcdjjmjhdoanlaaGreatDoor.prep] at e
    cases e1 : p l with
    | none => rw [e1] at e; cases e
    | some y =>
      rw [e1] at e
      obtain ⟨b1, q1, q2⟩ := h l y.1 y.2 hb e1
      cases e2 : Go.Proofs.YtcdjjmjhdoanlaaGreatDoor.prep p n y.2 with
      | none => simp [e2] at e
      | some z =>
        simp [e2] at e
        obtain ⟨rfl, rfl⟩ := e
        obtain ⟨r1, b2, r2, r3⟩ := Inv.prep h n y.2 z.1 z.2 (by rw [q2] at hb; exact hb.tail) e2
        refine ⟨by simp [r1], b1 ++ b2, ?_, by rw [q2, r3, List.append_assoc]⟩
        rw [catL, q1, r2]; rfl
theorem Inv.pl {α : Type} {p : List Nat → Option (α × List Nat)} {f : α → Option (List Nat)} (h : Inv p f) : Inv (pl p) (lstF f) := fun l xs r hb e => by
  unfold Go.Proofs.YtcdjjmjhdoanlaaGreatDoor.pl at e
  cases e1 : pc l with
  | none => rw [e1] at e; cases e
  | some y =>
    rw [e1] at e
    have e : (if y.2.length < y.1 then none else Go.Proofs.YtcdjjmjhdoanlaaGreatDoor.prep p y.1 y.2) = some (xs, r) := e
    split at e
    · cases e
    · have hi := pc_inv hb e1
      obtain ⟨q1, bs, q2, q3⟩ := Inv.prep h _ _ _ _ (by rw [hi] at hb; exact hb.tail) e
      refine ⟨cnt xs.length ++ bs, by unfold lstF; rw [q2]; rfl, ?_⟩
      rw [q1, List.append_assoc, ← q3]; exact hi
theorem Inv.bind {α β : Type} {p : List Nat → Option (α × List Nat)} {f : α → Option (List Nat)} (h : Inv p f) {K : α → List Nat → Option (β × List Nat)} {g : α → β → Option (List Nat)} {F : β → Option (List Nat)} (k : ∀ a, Inv (K a) (g a)) (hF : ∀ a b, (∃ l r, K a l = some (b, r)) → F b = cat (f a) (g a b)) : Inv (fun l => (p l).bind fun y => K y.1 y.2) F := fun l x r hb e => by
  have e : (p l).bind (fun y => K y.1 y.2) = some (x, r) := e
  cases e1 : p l with
  | none => rw [e1] at e; cases e
  | some y =>
    rw [e1] at e
    have e : K y.1 y.2 = some (x, r) := e
    obtain ⟨b1, q1, q2⟩ := h l y.1 y.2 hb e1
    obtain ⟨b2, r1, r2⟩ := k y.1 y.2 x r (by rw [q2] at hb; exact hb.tail) e
    exact ⟨b1 ++ b2, by rw [hF y.1 x ⟨_, _, e⟩, q1, r1]; rfl, by rw [q2, r2, List.append_assoc]⟩
theorem Inv.ret {α : Type} (a : α) {f : α → Option (List Nat)} (h : f a = some []) : Inv (fun l => some (a, l)) f := fun l x r _ e => by cases e; exact ⟨[], h, rfl⟩
theorem chk_inv {k a b : Int} {s : ByteArray} {l r : List Nat} {x : Vl} (h : chkV k a b s l = some (x, r)) : x = ⟨k, a, b, s⟩ ∧ l = r ∧ valF x = some (k.toNat :: valR k a b s) := by
  unfold chkV at h
  split at h
  · rename_i ok
    cases h
    exact ⟨rfl, rfl, by unfold valF vOk; rw [if_pos ok]⟩
  · cases h
theorem Inv.pvl : Inv pvl valF := fun l x r hb h => by
  unfold Go.Proofs.YtcdjjmjhdoanlaaGreatDoor.pvl at h
  cases l with
  | nil => cases h
  | cons k l =>
    have h : pvK k l = some (x, r) := h
    have hb2 : By l := fun y hy => hb y (List.mem_cons_of_mem _ hy)
    unfold pvK at h
    by_cases h1 : k = 1
    · subst h1
      rw [if_pos rfl] at h
      cases l with
      | nil => cases h
      | cons z l =>
        obtain ⟨_, e2, e3⟩ := chk_inv (show chkV 1 z 0 E0 l = some (x, r) from h)
        refine ⟨_, e3, ?_⟩
        rw [e2]; simp [valR]
    rw [if_neg h1] at h
    by_cases h2 : k = 2 ∨ k = 5 ∨ k = 6
    · rw [if_pos h2] at h
      cases e : Go.Proofs.YtcdjjmjhdoanlaaGreatDoor.pz l with
      | none => rw [e] at h; cases h
      | some y =>
        rw [e] at h
        obtain ⟨b1, q1, q2⟩ := Inv.pz l y.1 y.2 hb2 e
        obtain ⟨_, e2, e3⟩ := chk_inv (show chkV k y.1 0 E0 y.2 = some (x, r) from h)
        refine ⟨_, e3, ?_⟩
        cases q1
        rw [q2, e2]
        rcases h2 with rfl | rfl | rfl <;> simp [valR]
    rw [if_neg h2] at h
    by_cases h3 : k = 3
    · subst h3
      rw [if_pos rfl] at h
      cases e : Go.Proofs.YtcdjjmjhdoanlaaGreatDoor.pz l with
      | none => rw [e] at h; cases h
      | some y =>
        rw [e] at h
        have h : (Go.Proofs.YtcdjjmjhdoanlaaGreatDoor.pz y.2).bind (fun v => chkV 3 y.1 v.1 E0 v.2) = some (x, r) := h
        obtain ⟨b1, q1, q2⟩ := Inv.pz l y.1 y.2 hb2 e
        cases e' : Go.Proofs.YtcdjjmjhdoanlaaGreatDoor.pz y.2 with
        | none => rw [e'] at h; cases h
        | some v =>
          rw [e'] at h
          obtain ⟨b2, r1, r2⟩ := Inv.pz y.2 v.1 v.2 (by rw [q2] at hb2; exact hb2.tail) e'
          obtain ⟨_, e2, e3⟩ := chk_inv (show chkV 3 y.1 v.1 E0 v.2 = some (x, r) from h)
          refine ⟨_, e3, ?_⟩
          cases q1
          cases r1
          rw [q2, r2, e2]
          simp [valR]
    rw [if_neg h3] at h
    by_cases h4 : k = 4
    · subst h4
      rw [if_pos rfl] at h
      cases e : Go.Proofs.YtcdjjmjhdoanlaaGreatDoor.pt l with
      | none => rw [e] at h; cases h
      | some y =>
        rw [e] at h
        obtain ⟨b1, q1, q2⟩ := Inv.pt l y.1 y.2 hb2 e
        obtain ⟨_, e2, e3⟩ := chk_inv (show chkV 4 0 0 y.1 y.2 = some (x, r) from h)
        refine ⟨_, e3, ?_⟩
        cases q1
        rw [q2, e2]
        simp [valR]
    rw [if_neg h4] at h
    obtain ⟨_, e2, e3⟩ := chk_inv h
    refine ⟨_, e3, ?_⟩
    rw [e2]
    have c1 : ¬ (k : Int) = 1 := by omega
    have c2 : ¬ ((k : Int) = 2 ∨ (k : Int) = 5 ∨ (k : Int) = 6) := by omega
    have c3 : ¬ (k : Int) = 3 := by omega
    have c4 : ¬ (k : Int) = 4 := by omega
    simp [valR, c1, c2, c3, c4]
theorem cat_none9 (a : Option (List Nat)) : cat a (some []) = a := cat_nil a
end
open Go.RowKit

theorem bit_sum (v : Nat) (h : v < 256) : (if v / 128 % 2 = 1 then 1 else 0) * 128 + (if v / 64 % 2 = 1 then 1 else 0) * 64 + (if v / 32 % 2 = 1 then 1 else 0) * 32 + (if v / 16 % 2 = 1 then 1 else 0) * 16 + (if v / 8 % 2 = 1 then 1 else 0) * 8 + (if v / 4 % 2 = 1 then 1 else 0) * 4 + (if v / 2 % 2 = 1 then 1 else 0) * 2 + (if v % 2 = 1 then 1 else 0) = v :=
  (by decide +kernel : ∀ v : Fin 256, (if v.val / 128 % 2 = 1 then 1 else 0) * 128 + (if v.val / 64 % 2 = 1 then 1 else 0) * 64 + (if v.val / 32 % 2 = 1 then 1 else 0) * 32 + (if v.val / 16 % 2 = 1 then 1 else 0) * 16 + (if v.val / 8 % 2 = 1 then 1 else 0) * 8 + (if v.val / 4 % 2 = 1 then 1 else 0) * 4 + (if v.val / 2 % 2 = 1 then 1 else 0) * 2 + (if v.val % 2 = 1 then 1 else 0) = v.val) ⟨v, h⟩
theorem bt_bits {y : List Nat} {n t : Nat} (hk : okk y n (8 * y.length) = true) (ht : t < 8 * y.length) : bt (bitsL y n) t = if bitOf y t = true then 1 else 0 := by
  unfold bt bitsL
  rw [List.getElem?_map]
  by_cases h : t < n
  · rw [List.getElem?_range h]
    cases h9 : bitOf y t <;> simp [h9]
  · rw [List.getElem?_eq_none (by simpa using h)]
    have := List.all_eq_true.1 hk (t - n) (List.mem_range.2 (by omega))
    rw [show n + (t - n) = t by omega] at this
    simp at this
    simp [this]
theorem byt_bits {y : List Nat} {n j v : Nat} (hk : okk y n (8 * y.length) = true) (hj : y[j]? = some v) (hv : v < 256) : byt (bitsL y n) j = v := by
  have hjl : j < y.length := (List.getElem?_eq_some_iff.1 hj).1
  have hb : ∀ i, i < 8 → bt (bitsL y n) (8 * j + i) = if v / 2 ^ (7 - i) % 2 = 1 then 1 else 0 := fun i hi => by
    rw [bt_bits hk (by omega)]
    have e1 : (8 * j + i) / 8 = j := by omega
    have e2 : (8 * j + i) % 8 = i := by omega
    unfold bitOf
    rw [e1, e2, List.getD_eq_getElem?_getD, hj]
    simp
  have h0 := hb 0 (by omega); have h1 := hb 1 (by omega); have h2 := hb 2 (by omega); have h3 := hb 3 (by omega)
  have h4 := hb 4 (by omega); have h5 := hb 5 (by omega); have h6 := hb 6 (by omega); have h7 := hb 7 (by omega)
  simp only [Nat.add_zero, Nat.sub_zero, Nat.reduceSub, Nat.reducePow, Nat.div_one, Nat.sub_self, Nat.pow_zero] at h0 h1 h2 h3 h4 h5 h6 h7
  unfold byt
  rw [h0, h1, h2, h3, h4, h5, h6, h7]
  exact bit_sum v hv
def bitF (l : List Bool) : Option (List Nat) := some (cnt l.length ++ pk l)
theorem Inv.pb : Inv pb bitF := fun l x r hb h => by
  unfold Go.Proofs.YtcdjjmjhdoanlaaGreatDoor.pb at h
  cases e : pc l with
  | none => rw [e] at h; cases h
  | some y =>
    rw [e] at h
    have h : (if 4096 < y.1 then none else (ptk ((y.1 + 7) / 8) y.2).bind fun z => if okk z.1 y.1 (8 * z.1.length) then some (bitsL z.1 y.1, z.2) else none) = some (x, r) := h
    split at h
    · cases h
    unfold ptk at h
    split at h
    · rename_i hl
      have h : (if okk (y.2.take ((y.1 + 7) / 8)) y.1 (8 * (y.2.take ((y.1 + 7) / 8)).length) then some (bitsL (y.2.take ((y.1 + 7) / 8)) y.1, y.2.drop ((y.1 + 7) / 8)) else none) = some (x, r) := h
      split at h
      · rename_i hk
        cases h
        have hi := pc_inv hb e
        have hby : By y.2 := by rw [hi] at hb; exact hb.tail
        have hl2 : (y.2.take ((y.1 + 7) / 8)).length = (y.1 + 7) / 8 := by rw [List.length_take]; omega
        have hbl : (bitsL (y.2.take ((y.1 + 7) / 8)) y.1).length = y.1 := by simp [bitsL]
        have hpk : pk (bitsL (y.2.take ((y.1 + 7) / 8)) y.1) = y.2.take ((y.1 + 7) / 8) := by
          unfold pk
          rw [hbl]
          apply List.ext_getElem?
          intro j
          rw [List.getElem?_map]
          by_cases hj : j < (y.1 + 7) / 8
          · rw [List.getElem?_range hj]
            obtain ⟨v, hv⟩ : ∃ v, (y.2.take ((y.1 + 7) / 8))[j]? = some v := ⟨_, List.getElem?_eq_getElem (by omega)⟩
            rw [hv]
            exact congrArg some (byt_bits hk hv (hby v (List.mem_of_mem_take (List.mem_of_getElem? hv))))
          · rw [List.getElem?_eq_none (by simpa using hj), List.getElem?_eq_none (by omega)]; rfl
        refine ⟨_, rfl, ?_⟩
        rw [hbl, hpk, List.append_assoc, List.take_append_drop]
        exact hi
      · cases h
    · cases h
theorem Inv.ppr : Inv (Go.Proofs.YtcdjjmjhdoanlaaGreatDoor.ppr) prF := fun l x r hb h => by
  unfold Go.Proofs.YtcdjjmjhdoanlaaGreatDoor.ppr at h
  obtain ⟨y0, e0⟩ : ∃ y, Go.Proofs.YtcdjjmjhdoanlaaGreatDoor.pt l = some y := by
    cases e : Go.Proofs.YtcdjjmjhdoanlaaGreatDoor.pt l with
    | none => rw [e] at h; cases h
    | some y => exact ⟨y, rfl⟩
  rw [e0] at h
  simp only [Option.bind_some] at h
  obtain ⟨b0, q0, t0⟩ := Inv.pt l y0.1 y0.2 hb e0
  have hb0 : By y0.2 := by have := hb; rw [t0] at this; exact this.tail
  obtain ⟨y1, e1⟩ : ∃ y, Go.Proofs.YtcdjjmjhdoanlaaGreatDoor.pvl y0.2 = some y := by
    cases e : Go.Proofs.YtcdjjmjhdoanlaaGreatDoor.pvl y0.2 with
    | none => rw [e] at h; cases h
    | some y => exact ⟨y, rfl⟩
  rw [e1] at h
  simp only [Option.bind_some] at h
  obtain ⟨b1, q1, t1⟩ := Inv.pvl y0.2 y1.1 y1.2 hb0 e1
  have hb1 : By y1.2 := by have := hb0; rw [t1] at this; exact this.tail
  cases h
  refine ⟨b0 ++ (b1), ?_, ?_⟩
  · show cat (txtF y0.1) (valF y1.1) = _
    rw [q0, q1]; rfl
  · rw [t0, t1]; simp only [List.append_assoc]
theorem Inv.pnd : Inv (Go.Proofs.YtcdjjmjhdoanlaaGreatDoor.pnd) ndF := fun l x r hb h => by
  unfold Go.Proofs.YtcdjjmjhdoanlaaGreatDoor.pnd at h
  obtain ⟨y0, e0⟩ : ∃ y, Go.Proofs.YtcdjjmjhdoanlaaGreatDoor.pz l = some y := by
    cases e : Go.Proofs.YtcdjjmjhdoanlaaGreatDoor.pz l with
    | none => rw [e] at h; cases h
    | some y => exact ⟨y, rfl⟩
  rw [e0] at h
  simp only [Option.bind_some] at h
  obtain ⟨b0, q0, t0⟩ := Inv.pz l y0.1 y0.2 hb e0
  have hb0 : By y0.2 := by have := hb; rw [t0] at this; exact this.tail
  obtain ⟨y1, e1⟩ : ∃ y, Go.Proofs.YtcdjjmjhdoanlaaGreatDoor.pt y0.2 = some y := by
    cases e : Go.Proofs.YtcdjjmjhdoanlaaGreatDoor.pt y0.2 with
    | none => rw [e] at h; cases h
    | some y => exact ⟨y, rfl⟩
  rw [e1] at h
  simp only [Option.bind_some] at h
  obtain ⟨b1, q1, t1⟩ := Inv.pt y0.2 y1.1 y1.2 hb0 e1
  have hb1 : By y1.2 := by have := hb0; rw [t1] at this; exact this.tail
  obtain ⟨y2, e2⟩ : ∃ y, Go.Proofs.YtcdjjmjhdoanlaaGreatDoor.pl Go.Proofs.YtcdjjmjhdoanlaaGreatDoor.ppr y1.2 = some y := by
    cases e : Go.Proofs.YtcdjjmjhdoanlaaGreatDoor.pl Go.Proofs.YtcdjjmjhdoanlaaGreatDoor.ppr y1.2 with
    | none => rw [e] at h; cases h
    | some y => exact ⟨y, rfl⟩
  rw [e2] at h
  simp only [Option.bind_some] at h
  obtain ⟨b2, q2, t2⟩ := (Inv.pl Inv.ppr) y1.2 y2.1 y2.2 hb1 e2
  have hb2 : By y2.2 := by have := hb1; rw [t2] at this; exact this.tail
  cases h
  refine ⟨b0 ++ (b1 ++ (b2)), ?_, ?_⟩
  · show cat (numF y0.1) (cat (txtF y1.1) (lstF prF y2.1)) = _
    rw [q0, q1, q2]; rfl
  · rw [t0, t1, t2]; simp only [List.append_assoc]
theorem Inv.ped : Inv (Go.Proofs.YtcdjjmjhdoanlaaGreatDoor.ped) edF := fun l x r hb h => by
  unfold Go.Proofs.YtcdjjmjhdoanlaaGreatDoor.ped at h
  obtain ⟨y0, e0⟩ : ∃ y, Go.Proofs.YtcdjjmjhdoanlaaGreatDoor.pz l = some y := by
    cases e : Go.Proofs.YtcdjjmjhdoanlaaGreatDoor.pz l with
    | none => rw [e] at h; cases h
    | some y => exact ⟨y, rfl⟩
  rw [e0] at h
  simp only [Option.bind_some] at h
  obtain ⟨b0, q0, t0⟩ := Inv.pz l y0.1 y0.2 hb e0
  have hb0 : By y0.2 := by have := hb; rw [t0] at this; exact this.tail
  obtain ⟨y1, e1⟩ : ∃ y, Go.Proofs.YtcdjjmjhdoanlaaGreatDoor.pt y0.2 = some y := by
    cases e : Go.Proofs.YtcdjjmjhdoanlaaGreatDoor.pt y0.2 with
    | none => rw [e] at h; cases h
    | some y => exact ⟨y, rfl⟩
  rw [e1] at h
  simp only [Option.bind_some] at h
  obtain ⟨b1, q1, t1⟩ := Inv.pt y0.2 y1.1 y1.2 hb0 e1
  have hb1 : By y1.2 := by have := hb0; rw [t1] at this; exact this.tail
  obtain ⟨y2, e2⟩ : ∃ y, Go.Proofs.YtcdjjmjhdoanlaaGreatDoor.pz y1.2 = some y := by
    cases e : Go.Proofs.YtcdjjmjhdoanlaaGreatDoor.pz y1.2 with
    | none => rw [e] at h; cases h
    | some y => exact ⟨y, rfl⟩
  rw [e2] at h
  simp only [Option.bind_some] at h
  obtain ⟨b2, q2, t2⟩ := Inv.pz y1.2 y2.1 y2.2 hb1 e2
  have hb2 : By y2.2 := by have := hb1; rw [t2] at this; exact this.tail
  obtain ⟨y3, e3⟩ : ∃ y, Go.Proofs.YtcdjjmjhdoanlaaGreatDoor.pz y2.2 = some y := by
    cases e : Go.Proofs.YtcdjjmjhdoanlaaGreatDoor.pz y2.2 with
    | none => rw [e] at h; cases h
    | some y => exact ⟨y, rfl⟩
  rw [e3] at h
  simp only [Option.bind_some] at h
  obtain ⟨b3, q3, t3⟩ := Inv.pz y2.2 y3.1 y3.2 hb2 e3
  have hb3 : By y3.2 := by have := hb2; rw [t3] at this; exact this.tail
  obtain ⟨y4, e4⟩ : ∃ y, Go.Proofs.YtcdjjmjhdoanlaaGreatDoor.pl Go.Proofs.YtcdjjmjhdoanlaaGreatDoor.ppr y3.2 = some y := by
    cases e : Go.Proofs.YtcdjjmjhdoanlaaGreatDoor.pl Go.Proofs.YtcdjjmjhdoanlaaGreatDoor.ppr y3.2 with
    | none => rw [e] at h; cases h
    | some y => exact ⟨y, rfl⟩
  rw [e4] at h
  simp only [Option.bind_some] at h
  obtain ⟨b4, q4, t4⟩ := (Inv.pl Inv.ppr) y3.2 y4.1 y4.2 hb3 e4
  have hb4 : By y4.2 := by have := hb3; rw [t4] at this; exact this.tail
  cases h
  refine ⟨b0 ++ (b1 ++ (b2 ++ (b3 ++ (b4)))), ?_, ?_⟩
  · show cat (numF y0.1) (cat (txtF y1.1) (cat (numF y2.1) (cat (numF y3.1) (lstF prF y4.1)))) = _
    rw [q0, q1, q2, q3, q4]; rfl
  · rw [t0, t1, t2, t3, t4]; simp only [List.append_assoc]
theorem Inv.ptb : Inv (Go.Proofs.YtcdjjmjhdoanlaaGreatDoor.ptb) tbF := fun l x r hb h => by
  unfold Go.Proofs.YtcdjjmjhdoanlaaGreatDoor.ptb at h
  obtain ⟨y0, e0⟩ : ∃ y, Go.Proofs.YtcdjjmjhdoanlaaGreatDoor.pl Go.Proofs.YtcdjjmjhdoanlaaGreatDoor.pt l = some y := by
    cases e : Go.Proofs.YtcdjjmjhdoanlaaGreatDoor.pl Go.Proofs.YtcdjjmjhdoanlaaGreatDoor.pt l with
    | none => rw [e] at h; cases h
    | some y => exact ⟨y, rfl⟩
  rw [e0] at h
  simp only [Option.bind_some] at h
  obtain ⟨b0, q0, t0⟩ := (Inv.pl Inv.pt) l y0.1 y0.2 hb e0
  have hb0 : By y0.2 := by have := hb; rw [t0] at this; exact this.tail
  obtain ⟨y1, e1⟩ : ∃ y, Go.Proofs.YtcdjjmjhdoanlaaGreatDoor.pl (Go.Proofs.YtcdjjmjhdoanlaaGreatDoor.pl Go.Proofs.YtcdjjmjhdoanlaaGreatDoor.pvl) y0.2 = some y := by
    cases e : Go.Proofs.YtcdjjmjhdoanlaaGreatDoor.pl (Go.Proofs.YtcdjjmjhdoanlaaGreatDoor.pl Go.Proofs.YtcdjjmjhdoanlaaGreatDoor.pvl) y0.2 with
    | none => rw [e] at h; cases h
    | some y => exact ⟨y, rfl⟩
  rw [e1] at h
  simp only [Option.bind_some] at h
  obtain ⟨b1, q1, t1⟩ := (Inv.pl (Inv.pl Inv.pvl)) y0.2 y1.1 y1.2 hb0 e1
  have hb1 : By y1.2 := by have := hb0; rw [t1] at this; exact this.tail
  obtain ⟨y2, e2⟩ : ∃ y, Go.Proofs.YtcdjjmjhdoanlaaGreatDoor.pz y1.2 = some y := by
    cases e : Go.Proofs.YtcdjjmjhdoanlaaGreatDoor.pz y1.2 with
    | none => rw [e] at h; cases h
    | some y => exact ⟨y, rfl⟩
  rw [e2] at h
  simp only [Option.bind_some] at h
  obtain ⟨b2, q2, t2⟩ := Inv.pz y1.2 y2.1 y2.2 hb1 e2
  have hb2 : By y2.2 := by have := hb1; rw [t2] at this; exact this.tail
  obtain ⟨y3, e3⟩ : ∃ y, Go.Proofs.YtcdjjmjhdoanlaaGreatDoor.pz y2.2 = some y := by
    cases e : Go.Proofs.YtcdjjmjhdoanlaaGreatDoor.pz y2.2 with
    | none => rw [e] at h; cases h
    | some y => exact ⟨y, rfl⟩
  rw [e3] at h
  simp only [Option.bind_some] at h
  obtain ⟨b3, q3, t3⟩ := Inv.pz y2.2 y3.1 y3.2 hb2 e3
  have hb3 : By y3.2 := by have := hb2; rw [t3] at this; exact this.tail
  obtain ⟨y4, e4⟩ : ∃ y, Go.Proofs.YtcdjjmjhdoanlaaGreatDoor.pz y3.2 = some y := by
    cases e : Go.Proofs.YtcdjjmjhdoanlaaGreatDoor.pz y3.2 with
    | none => rw [e] at h; cases h
    | some y => exact ⟨y, rfl⟩
  rw [e4] at h
  simp only [Option.bind_some] at h
  obtain ⟨b4, q4, t4⟩ := Inv.pz y3.2 y4.1 y4.2 hb3 e4
  have hb4 : By y4.2 := by have := hb3; rw [t4] at this; exact this.tail
  cases h
  refine ⟨b0 ++ (b1 ++ (b2 ++ (b3 ++ (b4)))), ?_, ?_⟩
  · show cat (lstF txtF y0.1) (cat (lstF (lstF valF) y1.1) (cat (numF y2.1) (cat (numF y3.1) (numF y4.1)))) = _
    rw [q0, q1, q2, q3, q4]; rfl
  · rw [t0, t1, t2, t3, t4]; simp only [List.append_assoc]
theorem Inv.prp (k : Int) : Inv (Go.Proofs.YtcdjjmjhdoanlaaGreatDoor.prp k) rpF := fun l x r hb h => by
  unfold Go.Proofs.YtcdjjmjhdoanlaaGreatDoor.prp at h
  obtain ⟨y0, e0⟩ : ∃ y, Go.Proofs.YtcdjjmjhdoanlaaGreatDoor.pz l = some y := by
    cases e : Go.Proofs.YtcdjjmjhdoanlaaGreatDoor.pz l with
    | none => rw [e] at h; cases h
    | some y => exact ⟨y, rfl⟩
  rw [e0] at h
  simp only [Option.bind_some] at h
  obtain ⟨b0, q0, t0⟩ := Inv.pz l y0.1 y0.2 hb e0
  have hb0 : By y0.2 := by have := hb; rw [t0] at this; exact this.tail
  obtain ⟨y1, e1⟩ : ∃ y, Go.Proofs.YtcdjjmjhdoanlaaGreatDoor.pl Go.Proofs.YtcdjjmjhdoanlaaGreatDoor.pz y0.2 = some y := by
    cases e : Go.Proofs.YtcdjjmjhdoanlaaGreatDoor.pl Go.Proofs.YtcdjjmjhdoanlaaGreatDoor.pz y0.2 with
    | none => rw [e] at h; cases h
    | some y => exact ⟨y, rfl⟩
  rw [e1] at h
  simp only [Option.bind_some] at h
  obtain ⟨b1, q1, t1⟩ := (Inv.pl Inv.pz) y0.2 y1.1 y1.2 hb0 e1
  have hb1 : By y1.2 := by have := hb0; rw [t1] at this; exact this.tail
  obtain ⟨y2, e2⟩ : ∃ y, Go.Proofs.YtcdjjmjhdoanlaaGreatDoor.pl Go.Proofs.YtcdjjmjhdoanlaaGreatDoor.pt y1.2 = some y := by
    cases e : Go.Proofs.YtcdjjmjhdoanlaaGreatDoor.pl Go.Proofs.YtcdjjmjhdoanlaaGreatDoor.pt y1.2 with
    | none => rw [e] at h; cases h
    | some y => exact ⟨y, rfl⟩
  rw [e2] at h
  simp only [Option.bind_some] at h
  obtain ⟨b2, q2, t2⟩ := (Inv.pl Inv.pt) y1.2 y2.1 y2.2 hb1 e2
  have hb2 : By y2.2 := by have := hb1; rw [t2] at this; exact this.tail
  obtain ⟨y3, e3⟩ : ∃ y, Go.Proofs.YtcdjjmjhdoanlaaGreatDoor.pl Go.Proofs.YtcdjjmjhdoanlaaGreatDoor.ptb y2.2 = some y := by
    cases e : Go.Proofs.YtcdjjmjhdoanlaaGreatDoor.pl Go.Proofs.YtcdjjmjhdoanlaaGreatDoor.ptb y2.2 with
    | none => rw [e] at h; cases h
    | some y => exact ⟨y, rfl⟩
  rw [e3] at h
  simp only [Option.bind_some] at h
  obtain ⟨b3, q3, t3⟩ := (Inv.pl Inv.ptb) y2.2 y3.1 y3.2 hb2 e3
  have hb3 : By y3.2 := by have := hb2; rw [t3] at this; exact this.tail
  obtain ⟨y4, e4⟩ : ∃ y, Go.Proofs.YtcdjjmjhdoanlaaGreatDoor.pl Go.Proofs.YtcdjjmjhdoanlaaGreatDoor.pnd y3.2 = some y := by
    cases e : Go.Proofs.YtcdjjmjhdoanlaaGreatDoor.pl Go.Proofs.YtcdjjmjhdoanlaaGreatDoor.pnd y3.2 with
    | none => rw [e] at h; cases h
    | some y => exact ⟨y, rfl⟩
  rw [e4] at h
  simp only [Option.bind_some] at h
  obtain ⟨b4, q4, t4⟩ := (Inv.pl Inv.pnd) y3.2 y4.1 y4.2 hb3 e4
  have hb4 : By y4.2 := by have := hb3; rw [t4] at this; exact this.tail
  obtain ⟨y5, e5⟩ : ∃ y, Go.Proofs.YtcdjjmjhdoanlaaGreatDoor.pl Go.Proofs.YtcdjjmjhdoanlaaGreatDoor.ped y4.2 = some y := by
    cases e : Go.Proofs.YtcdjjmjhdoanlaaGreatDoor.pl Go.Proofs.YtcdjjmjhdoanlaaGreatDoor.ped y4.2 with
    | none => rw [e] at h; cases h
    | some y => exact ⟨y, rfl⟩
  rw [e5] at h
  simp only [Option.bind_some] at h
  obtain ⟨b5, q5, t5⟩ := (Inv.pl Inv.ped) y4.2 y5.1 y5.2 hb4 e5
  have hb5 : By y5.2 := by have := hb4; rw [t5] at this; exact this.tail
  cases h
  refine ⟨b0 ++ (b1 ++ (b2 ++ (b3 ++ (b4 ++ (b5))))), ?_, ?_⟩
  · show cat (numF y0.1) (cat (lstF numF y1.1) (cat (lstF txtF y2.1) (cat (lstF tbF y3.1) (cat (lstF ndF y4.1) (lstF edF y5.1))))) = _
    rw [q0, q1, q2, q3, q4, q5]; rfl
  · rw [t0, t1, t2, t3, t4, t5]; simp only [List.append_assoc]
def rqF (q : Rq) : Option (List Nat) := cat (lstF numF q.ns) (cat (txtF q.t) (bitF q.bs))
theorem rqF_body (q : Rq) : rqF q = some q.body := q.body_eq
theorem Inv.pq (k : Int) : Inv (Go.Proofs.YtcdjjmjhdoanlaaGreatDoor.pq k) rqF := fun l x r hb h => by
  unfold Go.Proofs.YtcdjjmjhdoanlaaGreatDoor.pq at h
  obtain ⟨y0, e0⟩ : ∃ y, Go.Proofs.YtcdjjmjhdoanlaaGreatDoor.pl Go.Proofs.YtcdjjmjhdoanlaaGreatDoor.pz l = some y := by
    cases e : Go.Proofs.YtcdjjmjhdoanlaaGreatDoor.pl Go.Proofs.YtcdjjmjhdoanlaaGreatDoor.pz l with
    | none => rw [e] at h; cases h
    | some y => exact ⟨y, rfl⟩
  rw [e0] at h
  simp only [Option.bind_some] at h
  obtain ⟨b0, q0, t0⟩ := (Inv.pl Inv.pz) l y0.1 y0.2 hb e0
  have hb0 : By y0.2 := by have := hb; rw [t0] at this; exact this.tail
  obtain ⟨y1, e1⟩ : ∃ y, Go.Proofs.YtcdjjmjhdoanlaaGreatDoor.pt y0.2 = some y := by
    cases e : Go.Proofs.YtcdjjmjhdoanlaaGreatDoor.pt y0.2 with
    | none => rw [e] at h; cases h
    | some y => exact ⟨y, rfl⟩
  rw [e1] at h
  simp only [Option.bind_some] at h
  obtain ⟨b1, q1, t1⟩ := Inv.pt y0.2 y1.1 y1.2 hb0 e1
  have hb1 : By y1.2 := by have := hb0; rw [t1] at this; exact this.tail
  obtain ⟨y2, e2⟩ : ∃ y, Go.Proofs.YtcdjjmjhdoanlaaGreatDoor.pb y1.2 = some y := by
    cases e : Go.Proofs.YtcdjjmjhdoanlaaGreatDoor.pb y1.2 with
    | none => rw [e] at h; cases h
    | some y => exact ⟨y, rfl⟩
  rw [e2] at h
  simp only [Option.bind_some] at h
  obtain ⟨b2, q2, t2⟩ := Inv.pb y1.2 y2.1 y2.2 hb1 e2
  have hb2 : By y2.2 := by have := hb1; rw [t2] at this; exact this.tail
  cases h
  refine ⟨b0 ++ (b1 ++ (b2)), ?_, ?_⟩
  · show cat (lstF numF y0.1) (cat (txtF y1.1) (bitF y2.1)) = _
    rw [q0, q1, q2]; rfl
  · rw [t0, t1, t2]; simp only [List.append_assoc]
theorem prp_dst {k : Int} {l r : List Nat} {q : Rp} (h : prp k l = some (q, r)) : q.dst = k := by
  unfold prp at h
  simp only [Option.bind_eq_some_iff] at h
  obtain ⟨_, _, _, _, _, _, _, _, _, _, _, _, h⟩ := h
  cases h; rfl
/-- A request that was read, put again. -/
theorem asked_again {k : Int} {l : List Nat} (hb : By l) (h : gqC 0 k l = 0) : (1 ≤ k ∧ k ≤ 12) ∧ frC k l.length = 0 ∧ (gqQ 0 k l).code = 0 ∧ (gqQ 0 k l).frame = frL k l := by
  have h' := h
  unfold gqC at h
  rw [if_neg (by simp)] at h
  split at h
  · cases h
  rename_i hk
  have hk : 1 ≤ k ∧ k ≤ 12 := Classical.not_not.1 hk
  split at h
  · cases h
  rename_i hl
  split at h
  · rename_i hs
    obtain ⟨q, hq⟩ := Option.isSome_iff_exists.1 hs
    have hQ : gqQ 0 k l = q := by unfold gqQ; rw [if_pos h', hq]; rfl
    unfold gqB at hq
    split at hq
    · rename_i q' e1
      split at hq
      · rename_i hm
        cases hq
        obtain ⟨bs, e2, e3⟩ := Inv.pq k l q [] hb e1
        rw [List.append_nil] at e3
        rw [rqF_body] at e2
        cases e2
        have hqk : q.k = k := pq_k e1
        have hf : frC k l.length = 0 := by unfold frC; rw [if_neg (by omega), if_neg hl]
        have hc : q.code = 0 := by unfold Rq.code; rw [if_neg (by rw [hqk]; exact not_not_intro hk), if_neg (by rw [hm]; decide), hqk, ← e3]; exact hf
        refine ⟨hk, hf, by rw [hQ]; exact hc, ?_⟩
        rw [hQ, Rq.frame, if_pos hc, frL, if_pos hf, hqk, ← e3]
      · cases hq
    · cases hq
  · cases h
/-- A reply that was read, put again. -/
theorem told_again {k : Int} {l : List Nat} (hb : By l) (h : grC 0 k l = 0) : (128 ≤ k ∧ k ≤ 140) ∧ frC k l.length = 0 ∧ (grQ 0 k l).code9 = 0 ∧ (grQ 0 k l).frame9 = frL k l := by
  have h' := h
  unfold grC at h
  rw [if_neg (by simp)] at h
  split at h
  · cases h
  rename_i hk
  have hk : 128 ≤ k ∧ k ≤ 140 := Classical.not_not.1 hk
  split at h
  · cases h
  rename_i hl
  split at h
  · rename_i hs
    obtain ⟨q, hq⟩ := Option.isSome_iff_exists.1 hs
    have hQ : grQ 0 k l = q := by unfold grQ; rw [if_pos h', hq]; rfl
    unfold grB at hq
    split at hq
    · rename_i q' e1
      split at hq
      · rename_i hm
        cases hq
        obtain ⟨bs, e2, e3⟩ := Inv.prp (k - 128) l q [] hb e1
        rw [List.append_nil] at e3
        subst e3
        have hqk : q.dst = k - 128 := prp_dst e1
        have hf : frC k l.length = 0 := by unfold frC; rw [if_neg (by omega), if_neg hl]
        have hc : q.code9 = 0 := by unfold Rp.code9; rw [if_neg (by rw [hqk]; omega), if_neg (not_not_intro hm), e2]; exact if_neg hl
        refine ⟨hk, hf, by rw [hQ]; exact hc, ?_⟩
        rw [hQ, Rp.frame9, if_pos hc, frL, if_pos hf, hqk, e2]
        show frB (128 + (k - 128)).toNat l = _
        rw [show 128 + (k - 128) = k by omega]
      · cases hq
    · cases hq
  · cases h
end
open Go.RowKit

set_option maxRecDepth 100000 in
set_option maxHeartbeats 1000000 in
theorem sure_any (n : Int) (W : World) : Calls Tryz.prog 5 #[I n] W fun e W' => e = .returned (.slice (some ⟨W.heap.size + 1 + 1 + 1, 0, none⟩) 3 3) ∧ W' = (((W.alloc (.cells #[I n] 2)).alloc (.cells #[I n] 2)).alloc (.cells #[.string { data := #[120] }] 9)).alloc (.cells #[.bool false, I 9, .slice none 0 0, .string { data := #[] }, .slice none 0 0, I 0, I 0, .slice none 0 0, .slice none 0 0, .slice none 0 0, .slice none 0 0, .slice none 0 0, .bool false, I 4, .slice (some ⟨W.heap.size, 0, none⟩) 1 1, .string { data := #[] }, .slice none 0 0, I 0, I 0, .slice none 0 0, .slice none 0 0, .slice none 0 0, .slice none 0 0, .slice none 0 0, .bool true, I 0, .slice none 0 0, .string { data := #[] }, .slice none 0 0, I 4, I 0, .slice (some ⟨W.heap.size + 1, 0, none⟩) 1 1, .slice (some ⟨W.heap.size + 1 + 1, 0, none⟩) 1 1, .slice none 0 0, .slice none 0 0, .slice none 0 0] 43) := by
  go_enter Tryz.func5, Tryz.ntmps5
  go_wp2_with fail
  go_ret
  exact ⟨rfl, rfl⟩
set_option maxRecDepth 100000 in
set_option maxHeartbeats 1000000 in
theorem putsq_any (q : Rq) (na : Option Addr) (nc : Nat) (ba : Option Addr) (bc : Nat) (W : World) (hv : RqV W (.agg #[I q.k, .slice na q.ns.length nc, .string q.t, .slice ba q.bs.length bc]) q) (hT : Tks W) (h0 : q.code = 0) :
    Calls Tryz.prog 6 #[.agg #[.bool false, I q.k, .slice na q.ns.length nc, .string q.t, .slice ba q.bs.length bc, I 0, I 0, .slice none 0 0, .slice none 0 0, .slice none 0 0, .slice none 0 0, .slice none 0 0]] W fun e W' => (∃ v, e = .returned (.tuple #[v, .bool true])) ∧ G W W' := by
  have hB := Blk.new W [.bool false, I q.k, .slice na q.ns.length nc, .string q.t, .slice ba q.bs.length bc, I 0, I 0, .slice none 0 0, .slice none 0 0, .slice none 0 0, .slice none 0 0, .slice none 0 0] 43
  have hA := (G.refl W).alloc (.cells #[.bool false, I q.k, .slice na q.ns.length nc, .string q.t, .slice ba q.bs.length bc, I 0, I 0, .slice none 0 0, .slice none 0 0, .slice none 0 0, .slice none 0 0, .slice none 0 0] 43)
  have hc := hB.cell
  have K1 := hide (ownq_any (W.alloc (.cells #[.bool false, I q.k, .slice na q.ns.length nc, .string q.t, .slice ba q.bs.length bc, I 0, I 0, .slice none 0 0, .slice none 0 0, .slice none 0 0, .slice none 0 0, .slice none 0 0] 43)) _ q (hv.G hA))
  have HT := hide (hT.G hA)
  have H0 := hide h0
  have HA := hide hA
  clear hv hT hB hA h0
  go_enter Tryz.func6, Tryz.ntmps6
  go_wp2_with fail
  generalize W.alloc (.cells #[.bool false, I q.k, .slice na q.ns.length nc, .string q.t, .slice ba q.bs.length bc, I 0, I 0, .slice none 0 0, .slice none 0 0, .slice none 0 0, .slice none 0 0, .slice none 0 0] 43) = w1 at K1 HT HA hc ⊢
  refine K1.out.mono ?_
  rintro e w2 ⟨v2, rfl, hq2, hg2⟩
  have K2 := hide (putq_any w2 v2 q hq2 (HT.out.G hg2))
  have HG2 := hide (HA.out.trans hg2)
  obtain ⟨on, ob, rfl, _, _⟩ := id hq2.h
  clear hq2 hg2 K1
  go_wp2_with fail
  refine K2.out.mono ?_
  rintro e w4 ⟨x4, rfl, hs4, hg4, -⟩
  rw [H0.out]
  have HF := hide (HG2.out.trans hg4)
  obtain ⟨xa, xc, hx4⟩ := hs4.form
  generalize q.frame.length = xn at hx4
  subst hx4
  clear hs4 hg4 K2
  go_wp2_with fail
  go_ret2
  exact ⟨⟨_, rfl⟩, HF.out⟩
set_option maxRecDepth 100000 in
set_option maxHeartbeats 1000000 in
theorem putsr_any (q : Rp) (na : Option Addr) (nc : Nat) (ta : Option Addr) (tc : Nat) (ba : Option Addr) (bc : Nat) (da : Option Addr) (dc : Nat) (ea : Option Addr) (ec : Nat) (W : World) (hv : RpL W (.slice na q.nums.length nc) (.slice ta q.texts.length tc) (.slice ba q.tables.length bc) (.slice da q.nodes.length dc) (.slice ea q.edges.length ec) q) (hx : RpW q) (hb : RpB q) (hT : Tabs W) (h0 : q.code9 = 0) :
    Calls Tryz.prog 6 #[.agg #[.bool true, I 0, .slice none 0 0, .string { data := #[] }, .slice none 0 0, I q.dst, I q.code, .slice na q.nums.length nc, .slice ta q.texts.length tc, .slice ba q.tables.length bc, .slice da q.nodes.length dc, .slice ea q.edges.length ec]] W fun e W' => (∃ v, e = .returned (.tuple #[v, .bool true])) ∧ G W W' := by
  have hB := Blk.new W [.bool true, I 0, .slice none 0 0, .string { data := #[] }, .slice none 0 0, I q.dst, I q.code, .slice na q.nums.length nc, .slice ta q.texts.length tc, .slice ba q.tables.length bc, .slice da q.nodes.length dc, .slice ea q.edges.length ec] 43
  have hA := (G.refl W).alloc (.cells #[.bool true, I 0, .slice none 0 0, .string { data := #[] }, .slice none 0 0, I q.dst, I q.code, .slice na q.nums.length nc, .slice ta q.texts.length tc, .slice ba q.tables.length bc, .slice da q.nodes.length dc, .slice ea q.edges.length ec] 43)
  have hc := hB.cell
  have K1 := hide (ownr_any q _ _ _ _ _ (W.alloc (.cells #[.bool true, I 0, .slice none 0 0, .string { data := #[] }, .slice none 0 0, I q.dst, I q.code, .slice na q.nums.length nc, .slice ta q.texts.length tc, .slice ba q.tables.length bc, .slice da q.nodes.length dc, .slice ea q.edges.length ec] 43)) (hv.G hA) hb)
  have HT := hide (hT.G hA)
  have HX := hide (And.intro hx hb)
  have H0 := hide h0
  have HA := hide hA
  clear hv hT hB hA h0 hx hb
  go_enter Tryz.func6, Tryz.ntmps6
  go_wp2_with fail
  generalize W.alloc (.cells #[.bool true, I 0, .slice none 0 0, .string { data := #[] }, .slice none 0 0, I q.dst, I q.code, .slice na q.nums.length nc, .slice ta q.texts.length tc, .slice ba q.tables.length bc, .slice da q.nodes.length dc, .slice ea q.edges.length ec] 43) = w1 at K1 HT HA hc ⊢
  refine K1.out.mono ?_
  rintro e w2 ⟨xa, xn, xc, ya, yn, yc, oa, on, oc, ga, gn, gc, ha, hn9, hc9, rfl, hq2, hg2⟩
  have K2 := hide (putr_any w2 q _ _ _ _ _ (HX.out.2.lists hq2) HX.out.1 (HT.out.G hg2))
  have HG2 := hide (HA.out.trans hg2)
  clear hq2 hg2 K1
  go_wp2_with fail
  refine K2.out.mono ?_
  rintro e w4 ⟨x4, rfl, hs4, hg4, -⟩
  rw [H0.out]
  have HF := hide (HG2.out.trans hg4)
  obtain ⟨xa4, xc4, hx4⟩ := hs4.form
  generalize q.frame9.length = xn4 at hx4
  subst hx4
  clear hs4 hg4 K2
  go_wp2_with fail
  go_ret2
  exact ⟨⟨_, rfl⟩, HF.out⟩
def sQ0 : Rq := ⟨9, [], { data := #[] }, []⟩
def sQ1 (n : Int) : Rq := ⟨4, [n], { data := #[] }, []⟩
def sR (n : Int) : Rp := ⟨4, 0, [n], [{ data := #[120] }], [], [], []⟩
theorem sQ0_ok : sQ0.code = 0 := by decide +kernel
theorem cnt0 : cnt 0 = [0] := by rw [cnt, cntH_zero]; rfl
theorem cnt1 : cnt 1 = [1] := by rw [cnt, show 1 / 128 = 0 from rfl, cntH_zero]; rfl
theorem sQ1_ok (n : Int) (h : R64 n) : (sQ1 n).code = 0 := by
  have h1 := (cnt_len (zig n) (zig_lt n h)).2
  have hb : (sQ1 n).body.length ≤ 2097152 := by
    unfold sQ1 Rq.body
    simp only [List.length_append, List.flatMap_cons, List.flatMap_nil, List.length_nil, List.length_cons, bys_len, pk, List.length_map, List.length_range]
    have h2 := (cnt_len 0 (by decide)).2
    have h3 := (cnt_len 1 (by decide)).2
    show (cnt (0 + 1)).length + ((cnt (zig n)).length + 0) + ((cnt 0).length + 0 + ((cnt 0).length + (0 + 7) / 8)) ≤ _
    simp only [Nat.zero_add] at *
    omega
  have hm : (sQ1 n).may = true := rfl
  unfold Rq.code
  rw [if_neg (by rw [show (sQ1 n).k = 4 from rfl]; omega), if_neg (by rw [hm]; decide)]
  unfold frC
  rw [if_neg (by rw [show (sQ1 n).k = 4 from rfl]; omega), if_neg (by omega)]
theorem sR_ok (n : Int) (h : R64 n) : (sR n).code9 = 0 := by
  have h1 := (cnt_len (zig n) (zig_lt n h)).2
  obtain ⟨l, e, hl⟩ : ∃ l, rpF (sR n) = some l ∧ l.length ≤ 100 := by
    refine ⟨_, rfl, ?_⟩
    have h2 := (cnt_len 0 (by decide)).2
    have h3 := (cnt_len 1 (by decide)).2
    have h4 := (cnt_len (zig 0) (by decide)).2
    have h5 : (bys { data := #[120] }).length = 1 := rfl
    have h6 : (cnt (ByteArray.size { data := #[120] })).length ≤ 10 := (cnt_len _ (by decide)).2
    simp only [List.length_append, List.length_nil, List.length_cons, Nat.zero_add, sR] at *
    omega
  unfold Rp.code9
  rw [if_neg (by rw [show (sR n).dst = 4 from rfl]; omega), if_neg (by unfold sR; simp), e]
  exact if_neg (by omega)
end
open Go.RowKit

theorem Pw.pz : Pk pz R64 := fun l x r e _ => ⟨pz_len e, by
  unfold Go.Proofs.YtcdjjmjhdoanlaaGreatDoor.pz at e
  cases e1 : pc l with
  | none => rw [e1] at e; cases e
  | some y => rw [e1] at e; cases e; exact zag_R _ (pc_lt e1)⟩
theorem Pw.pt : Pk pt (fun t => t.size ≤ 140737488351232) := fun l x r e hl => ⟨pt_rest e, Nat.le_trans (pt_len e) (Nat.le_trans hl (by decide))⟩
theorem chk_w {k a b : Int} {s : ByteArray} {l r : List Nat} {x : Vl} (h : chkV k a b s l = some (x, r)) (ha : k ≠ 1 → R64 a) (hb : R64 b) (hs : s.size ≤ 140737488351232) : r.length ≤ l.length ∧ VlW x := by
  unfold chkV at h
  split at h
  · rename_i ok
    cases h
    refine ⟨Nat.le_refl _, ?_, hb, hs⟩
    show R64 a
    by_cases h1 : k = 1
    · have := (ok_kind ok).2.2 h1; unfold R64; omega
    · exact ha h1
  · cases h
theorem R64_0 : R64 0 := by unfold R64; omega
theorem E0_w : (E0 : ByteArray).size ≤ 140737488351232 := Nat.le_trans E0_size (by decide)
theorem Pw.pvl : Pk pvl VlW := fun l x r h hl => by
  unfold Go.Proofs.YtcdjjmjhdoanlaaGreatDoor.pvl at h
  cases l with
  | nil => cases h
  | cons k l =>
    have h : pvK k l = some (x, r) := h
    have hl : l.length ≤ 2097152 := by simp at hl; omega
    suffices hh : r.length ≤ l.length ∧ VlW x from ⟨by simp; omega, hh.2⟩
    unfold pvK at h
    split at h
    · cases l with
      | nil => cases h
      | cons z l =>
        have := chk_w (show chkV 1 z 0 E0 l = some (x, r) from h) (fun e => absurd rfl e) R64_0 E0_w
        exact ⟨by simp; omega, this.2⟩
    split at h
    · cases e : Go.Proofs.YtcdjjmjhdoanlaaGreatDoor.pz l with
      | none => rw [e] at h; cases h
      | some y =>
        rw [e] at h
        obtain ⟨q1, q2⟩ := Pw.pz l y.1 y.2 e hl
        have := chk_w (show chkV k y.1 0 E0 y.2 = some (x, r) from h) (fun _ => q2) R64_0 E0_w
        exact ⟨by omega, this.2⟩
    split at h
    · cases e : Go.Proofs.YtcdjjmjhdoanlaaGreatDoor.pz l with
      | none => rw [e] at h; cases h
      | some y =>
        rw [e] at h
        have h : (Go.Proofs.YtcdjjmjhdoanlaaGreatDoor.pz y.2).bind (fun v => chkV 3 y.1 v.1 E0 v.2) = some (x, r) := h
        obtain ⟨q1, q2⟩ := Pw.pz l y.1 y.2 e hl
        cases e' : Go.Proofs.YtcdjjmjhdoanlaaGreatDoor.pz y.2 with
        | none => rw [e'] at h; cases h
        | some v =>
          rw [e'] at h
          obtain ⟨r1, r2⟩ := Pw.pz y.2 v.1 v.2 e' (by omega)
          have := chk_w (show chkV 3 y.1 v.1 E0 v.2 = some (x, r) from h) (fun _ => q2) r2 E0_w
          exact ⟨by omega, this.2⟩
    split at h
    · cases e : Go.Proofs.YtcdjjmjhdoanlaaGreatDoor.pt l with
      | none => rw [e] at h; cases h
      | some y =>
        rw [e] at h
        obtain ⟨q1, q2⟩ := Pw.pt l y.1 y.2 e hl
        have := chk_w (show chkV 4 0 0 y.1 y.2 = some (x, r) from h) (fun _ => R64_0) R64_0 q2
        exact ⟨by omega, this.2⟩
    · exact chk_w h (fun _ => R64_0) R64_0 E0_w
theorem c47 : (2097152 : Nat) ≤ 140737488351232 := by decide
theorem Pw.ppr : Pk (Go.Proofs.YtcdjjmjhdoanlaaGreatDoor.ppr) PrW := fun l x r h hl => by
  unfold Go.Proofs.YtcdjjmjhdoanlaaGreatDoor.ppr at h
  obtain ⟨y0, e0⟩ : ∃ y, Go.Proofs.YtcdjjmjhdoanlaaGreatDoor.pt l = some y := by
    cases e : Go.Proofs.YtcdjjmjhdoanlaaGreatDoor.pt l with
    | none => rw [e] at h; cases h
    | some y => exact ⟨y, rfl⟩
  rw [e0] at h
  simp only [Option.bind_some] at h
  obtain ⟨l0, q0⟩ := Pw.pt l y0.1 y0.2 e0 (by omega)
  obtain ⟨y1, e1⟩ : ∃ y, Go.Proofs.YtcdjjmjhdoanlaaGreatDoor.pvl y0.2 = some y := by
    cases e : Go.Proofs.YtcdjjmjhdoanlaaGreatDoor.pvl y0.2 with
    | none => rw [e] at h; cases h
    | some y => exact ⟨y, rfl⟩
  rw [e1] at h
  simp only [Option.bind_some] at h
  obtain ⟨l1, q1⟩ := Pw.pvl y0.2 y1.1 y1.2 e1 (by omega)
  cases h
  exact ⟨by omega, q0, q1⟩
theorem Pw.pnd : Pk (Go.Proofs.YtcdjjmjhdoanlaaGreatDoor.pnd) NdW := fun l x r h hl => by
  unfold Go.Proofs.YtcdjjmjhdoanlaaGreatDoor.pnd at h
  obtain ⟨y0, e0⟩ : ∃ y, Go.Proofs.YtcdjjmjhdoanlaaGreatDoor.pz l = some y := by
    cases e : Go.Proofs.YtcdjjmjhdoanlaaGreatDoor.pz l with
    | none => rw [e] at h; cases h
    | some y => exact ⟨y, rfl⟩
  rw [e0] at h
  simp only [Option.bind_some] at h
  obtain ⟨l0, q0⟩ := Pw.pz l y0.1 y0.2 e0 (by omega)
  obtain ⟨y1, e1⟩ : ∃ y, Go.Proofs.YtcdjjmjhdoanlaaGreatDoor.pt y0.2 = some y := by
    cases e : Go.Proofs.YtcdjjmjhdoanlaaGreatDoor.pt y0.2 with
    | none => rw [e] at h; cases h
    | some y => exact ⟨y, rfl⟩
  rw [e1] at h
  simp only [Option.bind_some] at h
  obtain ⟨l1, q1⟩ := Pw.pt y0.2 y1.1 y1.2 e1 (by omega)
  obtain ⟨y2, e2⟩ : ∃ y, Go.Proofs.YtcdjjmjhdoanlaaGreatDoor.pl Go.Proofs.YtcdjjmjhdoanlaaGreatDoor.ppr y1.2 = some y := by
    cases e : Go.Proofs.YtcdjjmjhdoanlaaGreatDoor.pl Go.Proofs.YtcdjjmjhdoanlaaGreatDoor.ppr y1.2 with
    | none => rw [e] at h; cases h
    | some y => exact ⟨y, rfl⟩
  rw [e2] at h
  simp only [Option.bind_some] at h
  obtain ⟨l2, q2⟩ := (Pk.pl Pw.ppr) y1.2 y2.1 y2.2 e2 (by omega)
  cases h
  exact ⟨by omega, q0, q1, Nat.le_trans q2.1 c47, q2.2⟩
theorem Pw.ped : Pk (Go.Proofs.YtcdjjmjhdoanlaaGreatDoor.ped) EdW := fun l x r h hl => by
  unfold Go.Proofs.YtcdjjmjhdoanlaaGreatDoor.ped at h
  obtain ⟨y0, e0⟩ : ∃ y, Go.Proofs.YtcdjjmjhdoanlaaGreatDoor.pz l = some y := by
    cases e : Go.Proofs.YtcdjjmjhdoanlaaGreatDoor.pz l with
    | none => rw [e] at h; cases h
    | some y => exact ⟨y, rfl⟩
  rw [e0] at h
  simp only [Option.bind_some] at h
  obtain ⟨l0, q0⟩ := Pw.pz l y0.1 y0.2 e0 (by omega)
  obtain ⟨y1, e1⟩ : ∃ y, Go.Proofs.YtcdjjmjhdoanlaaGreatDoor.pt y0.2 = some y := by
    cases e : Go.Proofs.YtcdjjmjhdoanlaaGreatDoor.pt y0.2 with
    | none => rw [e] at h; cases h
    | some y => exact ⟨y, rfl⟩
  rw [e1] at h
  simp only [Option.bind_some] at h
  obtain ⟨l1, q1⟩ := Pw.pt y0.2 y1.1 y1.2 e1 (by omega)
  obtain ⟨y2, e2⟩ : ∃ y, Go.Proofs.YtcdjjmjhdoanlaaGreatDoor.pz y1.2 = some y := by
    cases e : Go.Proofs.YtcdjjmjhdoanlaaGreatDoor.pz y1.2 with
    | none => rw [e] at h; cases h
    | some y => exact ⟨y, rfl⟩
  rw [e2] at h
  simp only [Option.bind_some] at h
  obtain ⟨l2, q2⟩ := Pw.pz y1.2 y2.1 y2.2 e2 (by omega)
  obtain ⟨y3, e3⟩ : ∃ y, Go.Proofs.YtcdjjmjhdoanlaaGreatDoor.pz y2.2 = some y := by
    cases e : Go.Proofs.YtcdjjmjhdoanlaaGreatDoor.pz y2.2 with
    | none => rw [e] at h; cases h
    | some y => exact ⟨y, rfl⟩
  rw [e3] at h
  simp only [Option.bind_some] at h
  obtain ⟨l3, q3⟩ := Pw.pz y2.2 y3.1 y3.2 e3 (by omega)
  obtain ⟨y4, e4⟩ : ∃ y, Go.Proofs.YtcdjjmjhdoanlaaGreatDoor.pl Go.Proofs.YtcdjjmjhdoanlaaGreatDoor.ppr y3.2 = some y := by
    cases e : Go.Proofs.YtcdjjmjhdoanlaaGreatDoor.pl Go.Proofs.YtcdjjmjhdoanlaaGreatDoor.ppr y3.2 with
    | none => rw [e] at h; cases h
    | some y => exact ⟨y, rfl⟩
  rw [e4] at h
  simp only [Option.bind_some] at h
  obtain ⟨l4, q4⟩ := (Pk.pl Pw.ppr) y3.2 y4.1 y4.2 e4 (by omega)
  cases h
  exact ⟨by omega, q0, q1, q2, q3, Nat.le_trans q4.1 c47, q4.2⟩
theorem Pw.ptb : Pk (Go.Proofs.YtcdjjmjhdoanlaaGreatDoor.ptb) TbW := fun l x r h hl => by
  unfold Go.Proofs.YtcdjjmjhdoanlaaGreatDoor.ptb at h
  obtain ⟨y0, e0⟩ : ∃ y, Go.Proofs.YtcdjjmjhdoanlaaGreatDoor.pl Go.Proofs.YtcdjjmjhdoanlaaGreatDoor.pt l = some y := by
    cases e : Go.Proofs.YtcdjjmjhdoanlaaGreatDoor.pl Go.Proofs.YtcdjjmjhdoanlaaGreatDoor.pt l with
    | none => rw [e] at h; cases h
    | some y => exact ⟨y, rfl⟩
  rw [e0] at h
  simp only [Option.bind_some] at h
  obtain ⟨l0, q0⟩ := (Pk.pl Pw.pt) l y0.1 y0.2 e0 (by omega)
  obtain ⟨y1, e1⟩ : ∃ y, Go.Proofs.YtcdjjmjhdoanlaaGreatDoor.pl (Go.Proofs.YtcdjjmjhdoanlaaGreatDoor.pl Go.Proofs.YtcdjjmjhdoanlaaGreatDoor.pvl) y0.2 = some y := by
    cases e : Go.Proofs.YtcdjjmjhdoanlaaGreatDoor.pl (Go.Proofs.YtcdjjmjhdoanlaaGreatDoor.pl Go.Proofs.YtcdjjmjhdoanlaaGreatDoor.pvl) y0.2 with
    | none => rw [e] at h; cases h
    | some y => exact ⟨y, rfl⟩
  rw [e1] at h
  simp only [Option.bind_some] at h
  obtain ⟨l1, q1⟩ := (Pk.pl (Pk.pl Pw.pvl)) y0.2 y1.1 y1.2 e1 (by omega)
  obtain ⟨y2, e2⟩ : ∃ y, Go.Proofs.YtcdjjmjhdoanlaaGreatDoor.pz y1.2 = some y := by
    cases e : Go.Proofs.YtcdjjmjhdoanlaaGreatDoor.pz y1.2 with
    | none => rw [e] at h; cases h
    | some y => exact ⟨y, rfl⟩
  rw [e2] at h
  simp only [Option.bind_some] at h
  obtain ⟨l2, q2⟩ := Pw.pz y1.2 y2.1 y2.2 e2 (by omega)
  obtain ⟨y3, e3⟩ : ∃ y, Go.Proofs.YtcdjjmjhdoanlaaGreatDoor.pz y2.2 = some y := by
    cases e : Go.Proofs.YtcdjjmjhdoanlaaGreatDoor.pz y2.2 with
    | none => rw [e] at h; cases h
    | some y => exact ⟨y, rfl⟩
  rw [e3] at h
  simp only [Option.bind_some] at h
  obtain ⟨l3, q3⟩ := Pw.pz y2.2 y3.1 y3.2 e3 (by omega)
  obtain ⟨y4, e4⟩ : ∃ y, Go.Proofs.YtcdjjmjhdoanlaaGreatDoor.pz y3.2 = some y := by
    cases e : Go.Proofs.YtcdjjmjhdoanlaaGreatDoor.pz y3.2 with
    | none => rw [e] at h; cases h
    | some y => exact ⟨y, rfl⟩
  rw [e4] at h
  simp only [Option.bind_some] at h
  obtain ⟨l4, q4⟩ := Pw.pz y3.2 y4.1 y4.2 e4 (by omega)
  cases h
  exact ⟨by omega, Nat.le_trans q0.1 c47, q0.2, Nat.le_trans q1.1 c47, fun r hr => ⟨Nat.le_trans (q1.2 r hr).1 c47, (q1.2 r hr).2⟩, q2, q3, q4⟩
theorem Pw.prp (k : Int) : Pk (Go.Proofs.YtcdjjmjhdoanlaaGreatDoor.prp k) RpW := fun l x r h hl => by
  unfold Go.Proofs.YtcdjjmjhdoanlaaGreatDoor.prp at h
  obtain ⟨y0, e0⟩ : ∃ y, Go.Proofs.YtcdjjmjhdoanlaaGreatDoor.pz l = some y := by
    cases e : Go.Proofs.YtcdjjmjhdoanlaaGreatDoor.pz l with
    | none => rw [e] at h; cases h
    | some y => exact ⟨y, rfl⟩
  rw [e0] at h
  simp only [Option.bind_some] at h
  obtain ⟨l0, q0⟩ := Pw.pz l y0.1 y0.2 e0 (by omega)
  obtain ⟨y1, e1⟩ : ∃ y, Go.Proofs.YtcdjjmjhdoanlaaGreatDoor.pl Go.Proofs.YtcdjjmjhdoanlaaGreatDoor.pz y0.2 = some y := by
    cases e : Go.Proofs.YtcdjjmjhdoanlaaGreatDoor.pl Go.Proofs.YtcdjjmjhdoanlaaGreatDoor.pz y0.2 with
    | none => rw [e] at h; cases h
    | some y => exact ⟨y, rfl⟩
  rw [e1] at h
  simp only [Option.bind_some] at h
  obtain ⟨l1, q1⟩ := (Pk.pl Pw.pz) y0.2 y1.1 y1.2 e1 (by omega)
  obtain ⟨y2, e2⟩ : ∃ y, Go.Proofs.YtcdjjmjhdoanlaaGreatDoor.pl Go.Proofs.YtcdjjmjhdoanlaaGreatDoor.pt y1.2 = some y := by
    cases e : Go.Proofs.YtcdjjmjhdoanlaaGreatDoor.pl Go.Proofs.YtcdjjmjhdoanlaaGreatDoor.pt y1.2 with
    | none => rw [e] at h; cases h
    | some y => exact ⟨y, rfl⟩
  rw [e2] at h
  simp only [Option.bind_some] at h
  obtain ⟨l2, q2⟩ := (Pk.pl Pw.pt) y1.2 y2.1 y2.2 e2 (by omega)
  obtain ⟨y3, e3⟩ : ∃ y, Go.Proofs.YtcdjjmjhdoanlaaGreatDoor.pl Go.Proofs.YtcdjjmjhdoanlaaGreatDoor.ptb y2.2 = some y := by
    cases e : Go.Proofs.YtcdjjmjhdoanlaaGreatDoor.pl Go.Proofs.YtcdjjmjhdoanlaaGreatDoor.ptb y2.2 with
    | none => rw [e] at h; cases h
    | some y => exact ⟨y, rfl⟩
  rw [e3] at h
  simp only [Option.bind_some] at h
  obtain ⟨l3, q3⟩ := (Pk.pl Pw.ptb) y2.2 y3.1 y3.2 e3 (by omega)
  obtain ⟨y4, e4⟩ : ∃ y, Go.Proofs.YtcdjjmjhdoanlaaGreatDoor.pl Go.Proofs.YtcdjjmjhdoanlaaGreatDoor.pnd y3.2 = some y := by
    cases e : Go.Proofs.YtcdjjmjhdoanlaaGreatDoor.pl Go.Proofs.YtcdjjmjhdoanlaaGreatDoor.pnd y3.2 with
    | none => rw [e] at h; cases h
    | some y => exact ⟨y, rfl⟩
  rw [e4] at h
  simp only [Option.bind_some] at h
  obtain ⟨l4, q4⟩ := (Pk.pl Pw.pnd) y3.2 y4.1 y4.2 e4 (by omega)
  obtain ⟨y5, e5⟩ : ∃ y, Go.Proofs.YtcdjjmjhdoanlaaGreatDoor.pl Go.Proofs.YtcdjjmjhdoanlaaGreatDoor.ped y4.2 = some y := by
    cases e : Go.Proofs.YtcdjjmjhdoanlaaGreatDoor.pl Go.Proofs.YtcdjjmjhdoanlaaGreatDoor.ped y4.2 with
    | none => rw [e] at h; cases h
    | some y => exact ⟨y, rfl⟩
  rw [e5] at h
  simp only [Option.bind_some] at h
  obtain ⟨l5, q5⟩ := (Pk.pl Pw.ped) y4.2 y5.1 y5.2 e5 (by omega)
  cases h
  exact ⟨by omega, ⟨q0, ⟨Nat.le_trans q1.1 c47, q1.2⟩, ⟨Nat.le_trans q2.1 c47, q2.2⟩, ⟨Nat.le_trans q3.1 c47, q3.2⟩, ⟨Nat.le_trans q4.1 c47, q4.2⟩, ⟨Nat.le_trans q5.1 c47, q5.2⟩⟩⟩
theorem zRp_w : RpW zRp := ⟨R64_0, ⟨by decide, fun x h => by cases h⟩, ⟨by decide, fun x h => by cases h⟩, ⟨by decide, fun x h => by cases h⟩, ⟨by decide, fun x h => by cases h⟩, ⟨by decide, fun x h => by cases h⟩⟩
theorem zRp_g : RpG zRp := ⟨by decide, by decide, ⟨by decide, fun t h => by cases h⟩, ⟨by decide, fun t h => by cases h⟩, ⟨by decide, fun t h => by cases h⟩⟩
theorem grQ_w (c k : Int) (l : List Nat) : RpW (grQ c k l) ∧ RpG (grQ c k l) := by
  unfold grQ
  split
  · rename_i h
    unfold grC at h
    split at h
    · omega
    split at h
    · omega
    split at h
    · omega
    rename_i hl
    cases e : grB (k - 128) l with
    | none => exact ⟨zRp_w, zRp_g⟩
    | some q =>
      show RpW q ∧ RpG q
      unfold grB at e
      split at e
      · rename_i q' e1
        split at e
        · cases e; exact ⟨(Pw.prp _ l q [] e1 (by omega)).2, (Pk.prp _ l q [] e1 (by omega)).2⟩
        · cases e
      · cases e
  · exact ⟨zRp_w, zRp_g⟩
end
open Go.RowKit

theorem rq_form9 {w : World} {v : Value} {q : Rq} (h : RqV w v q) : ∃ (xa : Option Addr) (xn xc : Nat) (xa' : Option Addr) (xn' xc' : Nat), v = .agg #[I q.k, .slice xa xn xc, .string q.t, .slice xa' xn' xc'] := by
  obtain ⟨vn, vb, rfl, h1, h2⟩ := h.h
  obtain ⟨a, c, rfl⟩ := h1.form
  obtain ⟨a', c', rfl⟩ := h2.form
  exact ⟨_, _, _, _, _, _, rfl⟩
theorem rp_form9 {w : World} {v : Value} {r : Rp} (hF : RpF v) (h : dQ.r w (parts v) r) : ∃ (xna : Option Addr) (xnn xnc : Nat) (xta : Option Addr) (xtn xtc : Nat) (xba : Option Addr) (xbn xbc : Nat) (xda : Option Addr) (xdn xdc : Nat) (xea : Option Addr) (xen xec : Nat), v = .agg #[I r.dst, I r.code, .slice xna xnn xnc, .slice xta xtn xtc, .slice xba xbn xbc, .slice xda xdn xdc, .slice xea xen xec] ∧ dQ.r w [I r.dst, I r.code, .slice xna xnn xnc, .slice xta xtn xtc, .slice xba xbn xbc, .slice xda xdn xdc, .slice xea xen xec] r := by
  obtain ⟨k, cd, xna, xnn, xnc, xta, xtn, xtc, xba, xbn, xbc, xda, xdn, xdc, xea, xen, xec, rfl⟩ := hF
  have h' := h
  obtain ⟨_, _, _, _, _, h0, _⟩ := h
  have h0 : [I k, I cd, .slice xna xnn xnc, .slice xta xtn xtc, .slice xba xbn xbc, .slice xda xdn xdc, .slice xea xen xec] = _ := h0
  simp only [List.cons.injEq] at h0
  refine ⟨xna, xnn, xnc, xta, xtn, xtc, xba, xbn, xbc, xda, xdn, xdc, xea, xen, xec, ?_, ?_⟩
  · rw [h0.1, h0.2.1]
  · rw [← h0.1, ← h0.2.1]; exact h'
/-- The variable that holds a request, a reply. -/
def VaQ (w0 : World) (q : Rq) (xb : Nat) (W : World) : Prop := ∃ (xa : Option Addr) (xn xc : Nat) (xa' : Option Addr) (xn' xc' : Nat), Blk W xb 33 [I q.k, .slice xa xn xc, .string q.t, .slice xa' xn' xc'] ∧ RqV W (.agg #[I q.k, .slice xa xn xc, .string q.t, .slice xa' xn' xc']) q ∧ G w0 W ∧ w0.heap.size ≤ xb
def VaR (w0 : World) (r : Rp) (xb : Nat) (W : World) : Prop := ∃ (xna : Option Addr) (xnn xnc : Nat) (xta : Option Addr) (xtn xtc : Nat) (xba : Option Addr) (xbn xbc : Nat) (xda : Option Addr) (xdn xdc : Nat) (xea : Option Addr) (xen xec : Nat), Blk W xb 41 [I r.dst, I r.code, .slice xna xnn xnc, .slice xta xtn xtc, .slice xba xbn xbc, .slice xda xdn xdc, .slice xea xen xec] ∧ dQ.r W [I r.dst, I r.code, .slice xna xnn xnc, .slice xta xtn xtc, .slice xba xbn xbc, .slice xda xdn xdc, .slice xea xen xec] r ∧ G w0 W ∧ w0.heap.size ≤ xb
set_option maxRecDepth 100000 in
set_option maxHeartbeats 8000000 in
theorem wireOne (c k : Int) (l : List Nat) (v : Value) (n : Int) (W : World) (hr : Rb W v l) (hb : By l) (hT : Tks W ∧ Tabs W) (hk : R64 k) (hn : R64 n) (hl : l.length ≤ 140737488351232) :
    Calls Tryz.prog 3 #[.agg #[I c, I k, v], I n] W fun e W' => e = .returned (.bool true) ∧ G W W' := by
  obtain ⟨p, cap, rfl⟩ := hr.form
  obtain ⟨bx, hbx⟩ : ∃ bx, bx = W.heap.size := ⟨_, rfl⟩
  obtain ⟨w1, hw1⟩ : ∃ w1, w1 = W.alloc (.cells #[I c, I k, .slice p l.length cap] 25) := ⟨_, rfl⟩
  have hg1 : G W w1 := by rw [hw1]; exact (G.refl W).alloc _
  have hB1 : Blk w1 bx 25 [I c, I k, .slice p l.length cap] := by rw [hw1, hbx]; exact Blk.new W [I c, I k, .slice p l.length cap] 25
  obtain ⟨w2, hw2⟩ : ∃ w2, w2 = (((w1.alloc (.cells #[I n] 2)).alloc (.cells #[I n] 2)).alloc (.cells #[.string { data := #[120] }] 9)).alloc (.cells #[.bool false, I 9, .slice none 0 0, .string { data := #[] }, .slice none 0 0, I 0, I 0, .slice none 0 0, .slice none 0 0, .slice none 0 0, .slice none 0 0, .slice none 0 0, .bool false, I 4, .slice (some ⟨w1.heap.size, 0, none⟩) 1 1, .string { data := #[] }, .slice none 0 0, I 0, I 0, .slice none 0 0, .slice none 0 0, .slice none 0 0, .slice none 0 0, .slice none 0 0, .bool true, I 0, .slice none 0 0, .string { data := #[] }, .slice none 0 0, I 4, I 0, .slice (some ⟨w1.heap.size + 1, 0, none⟩) 1 1, .slice (some ⟨w1.heap.size + 1 + 1, 0, none⟩) 1 1, .slice none 0 0, .slice none 0 0, .slice none 0 0] 43) := ⟨_, rfl⟩
  have hg2 : G w1 w2 := by rw [hw2]; exact ((((G.refl w1).alloc _).alloc _).alloc _).alloc _
  obtain ⟨sb, hsb⟩ : ∃ sb, sb = w1.heap.size + 1 + 1 + 1 := ⟨_, rfl⟩
  have hS2 : Blk w2 sb 43 [.bool false, I 9, .slice none 0 0, .string { data := #[] }, .slice none 0 0, I 0, I 0, .slice none 0 0, .slice none 0 0, .slice none 0 0, .slice none 0 0, .slice none 0 0, .bool false, I 4, .slice (some ⟨w1.heap.size, 0, none⟩) 1 1, .string { data := #[] }, .slice none 0 0, I 0, I 0, .slice none 0 0, .slice none 0 0, .slice none 0 0, .slice none 0 0, .slice none 0 0, .bool true, I 0, .slice none 0 0, .string { data := #[] }, .slice none 0 0, I 4, I 0, .slice (some ⟨w1.heap.size + 1, 0, none⟩) 1 1, .slice (some ⟨w1.heap.size + 1 + 1, 0, none⟩) 1 1, .slice none 0 0, .slice none 0 0, .slice none 0 0] := by
    have := Blk.new (((w1.alloc (.cells #[I n] 2)).alloc (.cells #[I n] 2)).alloc (.cells #[.string { data := #[120] }] 9)) [.bool false, I 9, .slice none 0 0, .string { data := #[] }, .slice none 0 0, I 0, I 0, .slice none 0 0, .slice none 0 0, .slice none 0 0, .slice none 0 0, .slice none 0 0, .bool false, I 4, .slice (some ⟨w1.heap.size, 0, none⟩) 1 1, .string { data := #[] }, .slice none 0 0, I 0, I 0, .slice none 0 0, .slice none 0 0, .slice none 0 0, .slice none 0 0, .slice none 0 0, .bool true, I 0, .slice none 0 0, .string { data := #[] }, .slice none 0 0, I 4, I 0, .slice (some ⟨w1.heap.size + 1, 0, none⟩) 1 1, .slice (some ⟨w1.heap.size + 1 + 1, 0, none⟩) 1 1, .slice none 0 0, .slice none 0 0, .slice none 0 0] 43
    rw [hw2, hsb]
    simpa using this
  have hN1 : Row eI.rel w2 (.slice (some ⟨w1.heap.size, 0, none⟩) 1 1) [n] := by
    have := Row.lit (E := eI) w1 2 [n] 1 (by simp)
    rw [hw2]
    exact this.G ((((G.refl _).alloc _).alloc _).alloc _)
  have hN2 : Row eI.rel w2 (.slice (some ⟨w1.heap.size + 1, 0, none⟩) 1 1) [n] := by
    have := Row.lit (E := eI) (w1.alloc (.cells #[I n] 2)) 2 [n] 1 (by simp)
    rw [show (w1.alloc (.cells #[I n] 2)).heap.size = w1.heap.size + 1 by simp] at this
    rw [hw2]
    exact this.G (((G.refl _).alloc _).alloc _)
  have hX3 : Row eS.rel w2 (.slice (some ⟨w1.heap.size + 1 + 1, 0, none⟩) 1 1) [{ data := #[120] }] := by
    have := Row.lit (E := eS) ((w1.alloc (.cells #[I n] 2)).alloc (.cells #[I n] 2)) 9 [{ data := #[120] }] 1 (by simp)
    rw [show ((w1.alloc (.cells #[I n] 2)).alloc (.cells #[I n] 2)).heap.size = w1.heap.size + 1 + 1 by simp] at this
    rw [hw2]
    exact this.G ((G.refl _).alloc _)
  have hRq0 : RqV w2 (.agg #[I 9, .slice none 0 0, .string { data := #[] }, .slice none 0 0]) sQ0 := ⟨⟨_, _, rfl, Row.nil _ _, Row.nil _ _⟩, (fun x h => by cases h), Nat.le_of_ble_eq_true rfl, Nat.le_of_ble_eq_true rfl, Nat.le_of_ble_eq_true rfl⟩
  have hRq1 : RqV w2 (.agg #[I 4, .slice (some ⟨w1.heap.size, 0, none⟩) 1 1, .string { data := #[] }, .slice none 0 0]) (sQ1 n) := ⟨⟨_, _, rfl, hN1, Row.nil _ _⟩, (fun x h => by have h : x ∈ [n] := h; simp at h; rw [h]; exact hn), Nat.le_of_ble_eq_true rfl, Nat.le_of_ble_eq_true rfl, Nat.le_of_ble_eq_true rfl⟩
  have hRr : RpL w2 (.slice (some ⟨w1.heap.size + 1, 0, none⟩) 1 1) (.slice (some ⟨w1.heap.size + 1 + 1, 0, none⟩) 1 1) (.slice none 0 0) (.slice none 0 0) (.slice none 0 0) (sR n) := ⟨hN2, hX3, Row.nil _ _, Row.nil _ _, Row.nil _ _, Nat.le_of_ble_eq_true rfl, Nat.le_of_ble_eq_true rfl, Nat.le_of_ble_eq_true rfl, Nat.le_of_ble_eq_true rfl, Nat.le_of_ble_eq_true rfl⟩
  have hRw : RpW (sR n) := ⟨R64_0, ⟨Nat.le_of_ble_eq_true rfl, (fun x h => by have h : x ∈ [n] := h; simp at h; rw [h]; exact hn)⟩, ⟨Nat.le_of_ble_eq_true rfl, fun x h => by have h : x ∈ [({ data := #[120] } : ByteArray)] := h; simp at h; rw [h]; decide⟩, ⟨Nat.le_of_ble_eq_true rfl, (fun x h => by cases h)⟩, ⟨Nat.le_of_ble_eq_true rfl, (fun x h => by cases h)⟩, ⟨Nat.le_of_ble_eq_true rfl, (fun x h => by cases h)⟩⟩
  have hRb : RpB (sR n) := ⟨Nat.le_of_ble_eq_true rfl, Nat.le_of_ble_eq_true rfl, ⟨Nat.le_of_ble_eq_true rfl, (fun x h => by cases h)⟩, ⟨Nat.le_of_ble_eq_true rfl, (fun x h => by cases h)⟩, ⟨Nat.le_of_ble_eq_true rfl, (fun x h => by cases h)⟩⟩
  have KS := hide (sure_any n w1)
  have HS2 := hide hS2
  have HRS := hide (And.intro hRq0 (And.intro hRq1 (And.intro hRr (And.intro hRw hRb))))
  have HOK := hide (And.intro (sQ1_ok n hn) (sR_ok n hn))
  have HTT := hide hT
  have HG12 := hide (hg1.trans hg2)
  have HBX := hide (hB1.G hg2)
  have HR := hide hr
  have HBY := hide (And.intro hb hl)
  have HKN := hide hk
  have HFL : Hid ((frL k l).length ≤ 140737488355328) := by
    show _ ≤ _
    unfold frL
    split
    · rename_i h
      rw [frB_len]
      have : l.length ≤ 2097152 := by
        unfold frC at h
        split at h
        · cases h
        split at h
        · cases h
        · omega
      omega
    · simp
  have HW1 : Hid (W.alloc (.cells #[I c, I k, .slice p l.length cap] 25) = w1) := hw1.symm
  have HW2 : Hid ((((w1.alloc (.cells #[I n] 2)).alloc (.cells #[I n] 2)).alloc (.cells #[.string { data := #[120] }] 9)).alloc (.cells #[.bool false, I 9, .slice none 0 0, .string { data := #[] }, .slice none 0 0, I 0, I 0, .slice none 0 0, .slice none 0 0, .slice none 0 0, .slice none 0 0, .slice none 0 0, .bool false, I 4, .slice (some ⟨w1.heap.size, 0, none⟩) 1 1, .string { data := #[] }, .slice none 0 0, I 0, I 0, .slice none 0 0, .slice none 0 0, .slice none 0 0, .slice none 0 0, .slice none 0 0, .bool true, I 0, .slice none 0 0, .string { data := #[] }, .slice none 0 0, I 4, I 0, .slice (some ⟨w1.heap.size + 1, 0, none⟩) 1 1, .slice (some ⟨w1.heap.size + 1 + 1, 0, none⟩) 1 1, .slice none 0 0, .slice none 0 0, .slice none 0 0] 43) = w2) := hw2.symm
  have HSB : Hid (w1.heap.size + 1 + 1 + 1 = sb) := hsb.symm
  have HBB : Hid (W.heap.size = bx) := hbx.symm
  clear hr hb hT hk hn hl hw1 hg1 hB1 hw2 hg2 hS2 hN1 hN2 hX3 hRq0 hRq1 hRr hRw hRb hbx hsb
  go_enter Tryz.func3, Tryz.ntmps3
  go_wp2_with fail
  rw [HW1.out]
  try rw [HBB.out]
  refine KS.out.mono ?_
  rintro e wS ⟨rfl, hwS⟩
  rw [HW2.out] at hwS
  subst wS
  rw [HSB.out]
  clear KS
  go_wp2_with fail
  go_loopw [6] (fun iv wr => ∃ i : Nat, iv = I i ∧ i ≤ 3 ∧ G w2 wr) (fun iv _ => 3 - (RowKit.intOf iv).toNat)
  case atStart => exact ⟨0, rfl, by omega, G.refl _⟩
  case round =>
    obtain ⟨i, rfl, hi, hg⟩ := hrel
    have kb := (HS2.out.G hg).cell
    have HG := hide hg
    have ht := HG12.out.trans hg
    rcases (by omega : i = 0 ∨ i = 1 ∨ i = 2 ∨ i = 3) with rfl | rfl | rfl | rfl
    · have K1 := hide (putsq_any sQ0 none 0 none 0 wr (HRS.out.1.G hg) (HTT.out.1.G ht) sQ0_ok)
      clear hi hg ht
      go_wp2_with fail
      refine K1.out.mono ?_
      rintro e w5 ⟨⟨v5, rfl⟩, g5⟩
      have HF := hide (HG.out.trans g5)
      clear g5 K1 kb
      go_wp2_with fail
      refine ⟨⟨1, rfl, by omega, HF.out⟩, ?_⟩
      simp only [RowKit.intOf]; omega
    · have K1 := hide (putsq_any (sQ1 n) (some ⟨w1.heap.size, 0, none⟩) 1 none 0 wr (HRS.out.2.1.G hg) (HTT.out.1.G ht) HOK.out.1)
      clear hi hg ht
      go_wp2_with fail
      refine K1.out.mono ?_
      rintro e w5 ⟨⟨v5, rfl⟩, g5⟩
      have HF := hide (HG.out.trans g5)
      clear g5 K1 kb
      go_wp2_with fail
      refine ⟨⟨2, rfl, by omega, HF.out⟩, ?_⟩
      simp only [RowKit.intOf]; omega
    · have K1 := hide (putsr_any (sR n) (some ⟨w1.heap.size + 1, 0, none⟩) 1 (some ⟨w1.heap.size + 1 + 1, 0, none⟩) 1 none 0 none 0 none 0 wr (HRS.out.2.2.1.G hg) HRS.out.2.2.2.1 HRS.out.2.2.2.2 (HTT.out.2.G ht) HOK.out.2)
      clear hi hg ht
      go_wp2_with fail
      refine K1.out.mono ?_
      rintro e w5 ⟨⟨v5, rfl⟩, g5⟩
      have HF := hide (HG.out.trans g5)
      clear g5 K1 kb
      go_wp2_with fail
      refine ⟨⟨3, rfl, by omega, HF.out⟩, ?_⟩
      simp only [RowKit.intOf]; omega
    · obtain ⟨w3, hw3⟩ : ∃ w3, w3 = wr := ⟨_, rfl⟩
      subst hw3
      have hB3 := HBX.out.G hg
      have hc3 := hB3.cell
      have HGW3 := hide ht
      by_cases c0 : c = 0
      · subst c0
        have HB3 := hide hB3
        clear hi hg ht hB3 kb
        have KC0 : Hid (∀ w, G w3 w → Calls Tryz.prog 8 #[.slice p l.length cap] w fun e W' => ∃ v', e = .returned v' ∧ SwB W' v' l ∧ G w W' ∧ Fresh w v') := fun w g => copy_any l _ w ((HR.out.G HGW3.out).G g) HBY.out.2
        go_upto_region 10 with fail
        refine wp_region_noPanic ?_
        refine wp_region_held_drew (S := (fun V => ∀ o, V.cell? ⟨bx, o, none⟩ = ([I 0, I k, .slice p l.length cap] : List Value)[o]?)) (by kernel_rfl) (HB3.out.drew.cell) (fun hHeld => ?_)
        refine wpAnyH_take (i := 0) (v := ?_) rfl (by kernel_rfl) (by kernel_rfl) (by kernel_rfl) (fun _ _ _ h => h) (Or.inl ⟨by rfl, ?_⟩) hHeld ?_
        rotate_left 1
        · (intro w hSw; have q1 := hSw; go_simp; try with_reducible rfl)
        try simp only [Act.put, List.getElem_toArray, List.getElem_cons_zero, List.setIfInBounds_toArray, List.set_cons_zero, List.set_cons_succ]
        refine wpAnyH_take (i := 1) (v := ?_) rfl (by kernel_rfl) (by kernel_rfl) (by kernel_rfl) (fun _ _ _ h => h) (Or.inl ⟨by rfl, ?_⟩) hHeld ?_
        rotate_left 1
        · (intro w hSw; have q1 := hSw; go_simp; try with_reducible rfl)
        try simp only [Act.put, List.getElem_toArray, List.getElem_cons_zero, List.getElem_cons_succ, List.setIfInBounds_toArray, List.set_cons_zero, List.set_cons_succ]
        refine wpAnyH_take (i := 2) (v := ?_) rfl (by kernel_rfl) (by kernel_rfl) (by kernel_rfl) (fun _ _ _ h => h) (Or.inl ⟨by rfl, ?_⟩) hHeld ?_
        rotate_left 1
        · (intro w hSw; have q1 := hSw; go_simp; try with_reducible rfl)
        try simp only [Act.put, List.getElem_toArray, List.getElem_cons_zero, List.getElem_cons_succ, List.setIfInBounds_toArray, List.set_cons_zero, List.set_cons_succ]
        refine wpAnyH_take (i := 3) (v := ?_) rfl (by kernel_rfl) (by kernel_rfl) (by kernel_rfl) (fun _ _ _ h => h) (Or.inl ⟨by rfl, ?_⟩) hHeld ?_
        rotate_left 1
        · (intro w hSw; have q1 := hSw; go_simp; try with_reducible rfl)
        try simp only [Act.put, List.getElem_toArray, List.getElem_cons_zero, List.getElem_cons_succ, List.setIfInBounds_toArray, List.set_cons_zero, List.set_cons_succ]
        refine wpAnyH_ready (rs := [4]) (by kernel_rfl) (by simp) (AllReadyH.cons rfl (fun K hK => ?_) AllReadyH.nil)
        clear hHeld
        go_simp
        refine (KC0.out _ ((G.refl w3).drew)).mono ?_
        rintro e w4 ⟨v4, rfl, hs4, hg4, -⟩
        obtain ⟨a4, c4, hv4⟩ := hs4.form
        subst hv4
        have HS4 := hide hs4
        have HG4 := hide (((G.refl w3).drew).trans hg4)
        clear hs4 hg4
        go_wp2_with fail
        refine hK.out _ _ ((HB3.out.G HG4.out).cell) (fun hHeld => ?_)
        clear hK K
        try simp only [Act.put, List.getElem_toArray, List.getElem_cons_zero, List.getElem_cons_succ, List.setIfInBounds_toArray, List.set_cons_zero, List.set_cons_succ]
        refine wpAnyH_ready (rs := [5]) (by kernel_rfl) (by simp) (AllReadyH.cons rfl (fun K hK => ?_) AllReadyH.nil)
        clear hHeld
        go_simp
        refine (frame_any k l _ w4 HS4.out.toRow HBY.out.1 (Nat.le_trans HBY.out.2 (by decide))).mono ?_
        rintro e w5 ⟨v5, rfl, hs5, hg5, -⟩
        obtain ⟨a5, c5, hv5⟩ := hs5.form
        generalize hfl : (frL k l).length = n5 at hv5
        subst hv5
        have HS5 := hide hs5
        have HG5 := hide (HG4.out.trans hg5)
        clear hs5 hg5 hfl
        go_wp2_with fail
        refine hK.out _ _ ((HB3.out.G HG5.out).cell) (fun hHeld => ?_)
        clear hK K
        try simp only [Act.put, List.getElem_toArray, List.getElem_cons_zero, List.getElem_cons_succ, List.setIfInBounds_toArray, List.set_cons_zero, List.set_cons_succ]
        refine wpAnyH_take (i := 6) (v := ?_) rfl (by kernel_rfl) (by kernel_rfl) (by kernel_rfl) (fun _ _ _ h => h) (Or.inl ⟨by rfl, ?_⟩) hHeld ?_
        rotate_left 1
        · (intro w hSw; (try dsimp only at hSw); go_simp; try with_reducible rfl)
        try simp only [Act.put, List.getElem_toArray, List.getElem_cons_zero, List.getElem_cons_succ, List.setIfInBounds_toArray, List.set_cons_zero, List.set_cons_succ]
        refine wpAnyH_take (i := 7) (v := ?_) rfl (by kernel_rfl) (by kernel_rfl) (by kernel_rfl) (fun _ _ _ h => h) (Or.inl ⟨by rfl, ?_⟩) hHeld ?_
        rotate_left 1
        · (intro w hSw; (try dsimp only at hSw); go_simp; try with_reducible rfl)
        try simp only [Act.put, List.getElem_toArray, List.getElem_cons_zero, List.getElem_cons_succ, List.setIfInBounds_toArray, List.set_cons_zero, List.set_cons_succ]
        refine wpAnyH_take (i := 8) (v := ?_) rfl (by kernel_rfl) (by kernel_rfl) (by kernel_rfl) (fun _ _ _ h => h) (Or.inl ⟨by rfl, ?_⟩) hHeld ?_
        rotate_left 1
        · (intro w hSw; (try dsimp only at hSw); go_simp; try with_reducible rfl)
        try simp only [Act.put, List.getElem_toArray, List.getElem_cons_zero, List.getElem_cons_succ, List.setIfInBounds_toArray, List.set_cons_zero, List.set_cons_succ]
        refine wpAnyH_take (i := 9) (v := ?_) rfl (by kernel_rfl) (by kernel_rfl) (by kernel_rfl) (fun _ _ _ h => h) (Or.inl ⟨by rfl, ?_⟩) hHeld ?_
        rotate_left 1
        · (intro w hSw; (try dsimp only at hSw); go_simp; try with_reducible rfl)
        try simp only [Act.put, List.getElem_toArray, List.getElem_cons_zero, List.getElem_cons_succ, List.setIfInBounds_toArray, List.set_cons_zero, List.set_cons_succ]
        refine wpAnyH_take (i := 10) (v := ?_) rfl (by kernel_rfl) (by kernel_rfl) (by kernel_rfl) (fun _ _ _ h => h) (Or.inl ⟨by rfl, ?_⟩) hHeld ?_
        rotate_left 1
        · (intro w hSw; (try dsimp only at hSw); go_simp; try with_reducible rfl)
        try simp only [Act.put, List.getElem_toArray, List.getElem_cons_zero, List.getElem_cons_succ, List.setIfInBounds_toArray, List.set_cons_zero, List.set_cons_succ]
        refine wpAnyH_done (by kernel_rfl) ?_ _
        refine NoPanic.normal ?_
        clear hHeld
        have KC : Hid (∀ w, G w5 w → Calls Tryz.prog 8 #[.slice p l.length cap] w fun e W' => ∃ v', e = .returned v' ∧ SwB W' v' l ∧ G w W' ∧ Fresh w v') := fun w g => copy_any l _ w ((HR.out.G (HGW3.out.trans HG5.out)).G g) HBY.out.2
        have HB0 := hide (HB3.out.G HG5.out)
        have HG05 := hide (HGW3.out.trans HG5.out)
        obtain ⟨q, cq, HQC, KG⟩ : ∃ q cq, Hid (q = gqQ 0 k l ∧ cq = gqC 0 k l) ∧ Hid (∀ w v, Rb w v l → G w5 w → Calls Tryz.prog 9 #[.agg #[I 0, I k, v]] w fun e w' => ∃ v', e = .returned (.tuple #[v', I cq]) ∧ (∀ (F : Nat → Prop) w9, (∀ j, F j → j < w.heap.size) → Chg F w' w9 → RqV w9 v' q) ∧ G w w') :=
          ⟨gqQ 0 k l, gqC 0 k l, ⟨rfl, rfl⟩, fun w v hv g => getq_any 0 k l v w hv HBY.out.1 (HTT.out.1.G (HG05.out.trans g)) (Nat.le_trans HBY.out.2 (Nat.le_refl _))⟩
        clear HS4 HG4
        go_upto_region 11 with fail
        go_cut [11, 12] from 49 to 112 (fun v1 v2 W => ∃ xb, v1 = ptr xb ∧ v2 = I cq ∧ VaQ w5 q xb W ∧ Blk W bx 25 [I 0, I k, .slice p l.length cap])
        case first =>
          refine wp_region_noPanic ?_
          refine wp_region_held_drew (S := (fun V => ∀ o, V.cell? ⟨bx, o, none⟩ = ([I 0, I k, .slice p l.length cap] : List Value)[o]?)) (by kernel_rfl) (HB0.out.drew.cell) (fun hHeld => ?_)
          refine wpAnyH_take (i := 0) (v := ?_) rfl (by kernel_rfl) (by kernel_rfl) (by kernel_rfl) (fun _ _ _ h => h) (Or.inl ⟨by rfl, ?_⟩) hHeld ?_
          rotate_left 1
          · (intro w hSw; have q1 := hSw; (try dsimp only at hSw); go_simp; try with_reducible rfl)
          try simp only [Act.put, List.getElem_toArray, List.getElem_cons_zero, List.setIfInBounds_toArray, List.set_cons_zero, List.set_cons_succ]
          refine wpAnyH_take (i := 1) (v := ?_) rfl (by kernel_rfl) (by kernel_rfl) (by kernel_rfl) (fun _ _ _ h => h) (Or.inl ⟨by rfl, ?_⟩) hHeld ?_
          rotate_left 1
          · (intro w hSw; have q1 := hSw; (try dsimp only at hSw); go_simp; try with_reducible rfl)
          try simp only [Act.put, List.getElem_toArray, List.getElem_cons_zero, List.getElem_cons_succ, List.setIfInBounds_toArray, List.set_cons_zero, List.set_cons_succ]
          refine wpAnyH_take (i := 2) (v := ?_) rfl (by kernel_rfl) (by kernel_rfl) (by kernel_rfl) (fun _ _ _ h => h) (Or.inl ⟨by rfl, ?_⟩) hHeld ?_
          rotate_left 1
          · (intro w hSw; have q1 := hSw; (try dsimp only at hSw); go_simp; try with_reducible rfl)
          try simp only [Act.put, List.getElem_toArray, List.getElem_cons_zero, List.getElem_cons_succ, List.setIfInBounds_toArray, List.set_cons_zero, List.set_cons_succ]
          refine wpAnyH_take (i := 3) (v := ?_) rfl (by kernel_rfl) (by kernel_rfl) (by kernel_rfl) (fun _ _ _ h => h) (Or.inl ⟨by rfl, ?_⟩) hHeld ?_
          rotate_left 1
          · (intro w hSw; have q1 := hSw; (try dsimp only at hSw); go_simp; try with_reducible rfl)
          try simp only [Act.put, List.getElem_toArray, List.getElem_cons_zero, List.getElem_cons_succ, List.setIfInBounds_toArray, List.set_cons_zero, List.set_cons_succ]
          refine wpAnyH_ready (rs := [4, 10]) (by kernel_rfl) (by simp) (AllReadyH.cons rfl (fun K hK => ?_) (AllReadyH.cons rfl (fun K hK => ?_) AllReadyH.nil))
          · -- the copy first
            clear hHeld
            go_simp
            refine (KC.out w5.drew (G.refl w5).drew).mono ?_
            rintro e z3 ⟨vz3, rfl, hsz3, hgz3, -⟩
            obtain ⟨az3, cz3, hvz3⟩ := hsz3.form
            subst hvz3
            have HSz3 := hide hsz3
            have HGz3 := hide hgz3
            clear hsz3 hgz3
            have HB3 := hide (HB0.out.drew.G HGz3.out)
            refine hK.out _ _ (HB3.out.cell) (fun hHeld => ?_)
            clear hK K
            try simp only [Act.put, List.getElem_toArray, List.getElem_cons_zero, List.getElem_cons_succ, List.setIfInBounds_toArray, List.set_cons_zero, List.set_cons_succ]
            refine wpAnyH_take (i := 5) (v := ?_) rfl (by kernel_rfl) (by kernel_rfl) (by kernel_rfl) (fun _ _ _ h => h) (Or.inl ⟨by rfl, ?_⟩) hHeld ?_
            rotate_left 1
            · (intro w hSw; have q1 := hSw; (try dsimp only at hSw); go_simp; try with_reducible rfl)
            try simp only [Act.put, List.getElem_toArray, List.getElem_cons_zero, List.getElem_cons_succ, List.setIfInBounds_toArray, List.set_cons_zero, List.set_cons_succ]
            refine wpAnyH_ready (rs := [6, 10]) (by kernel_rfl) (by simp) (AllReadyH.cons rfl (fun K hK => ?_) (AllReadyH.cons rfl (fun K hK => ?_) AllReadyH.nil))
            · -- the call, then the variable
              clear hHeld
              go_simp
              refine (KG.out z3 _ HSz3.out.toRow (((G.refl w5).drew).trans HGz3.out)).mono ?_
              rintro e z4 ⟨vz4, rfl, hvz4, hgz4⟩
              obtain ⟨xa, xn, xc, xa', xn', xc', ev⟩ := rq_form9 (hvz4 (fun _ => False) z4 (fun _ h => h.elim) (Chg.refl _ _))
              subst ev
              have HV := hide hvz4
              have HGz4 := hide hgz4
              clear hvz4 hgz4
              have HB4 := hide (HB3.out.G HGz4.out)
              refine hK.out _ _ (HB4.out.cell) (fun hHeld => ?_)
              clear hK K
              try simp only [Act.put, List.getElem_toArray, List.getElem_cons_zero, List.getElem_cons_succ, List.setIfInBounds_toArray, List.set_cons_zero, List.set_cons_succ]
              refine wpAnyH_take (i := 7) (v := ?_) rfl (by kernel_rfl) (by kernel_rfl) (by kernel_rfl) (fun _ _ _ h => h) (Or.inl ⟨by rfl, ?_⟩) hHeld ?_
              rotate_left 1
              · (intro w hSw; have q1 := hSw; (try dsimp only at hSw); go_simp; try with_reducible rfl)
              try simp only [Act.put, List.getElem_toArray, List.getElem_cons_zero, List.getElem_cons_succ, List.setIfInBounds_toArray, List.set_cons_zero, List.set_cons_succ]
              refine wpAnyH_take (i := 8) (v := ?_) rfl (by kernel_rfl) (by kernel_rfl) (by kernel_rfl) (fun _ _ _ h => h) (Or.inl ⟨by rfl, ?_⟩) hHeld ?_
              rotate_left 1
              · (intro w hSw; have q1 := hSw; (try dsimp only at hSw); go_simp; try with_reducible rfl)
              try simp only [Act.put, List.getElem_toArray, List.getElem_cons_zero, List.getElem_cons_succ, List.setIfInBounds_toArray, List.set_cons_zero, List.set_cons_succ]
              refine wpAnyH_take (i := 9) (v := ?_) rfl (by kernel_rfl) (by kernel_rfl) (by kernel_rfl) (fun _ _ _ h => h) (Or.inl ⟨by rfl, ?_⟩) hHeld ?_
              rotate_left 1
              · (intro w hSw; have q1 := hSw; (try dsimp only at hSw); go_simp; try with_reducible rfl)
              try simp only [Act.put, List.getElem_toArray, List.getElem_cons_zero, List.getElem_cons_succ, List.setIfInBounds_toArray, List.set_cons_zero, List.set_cons_succ]
              refine wpAnyH_ready (rs := [10]) (by kernel_rfl) (by simp) (AllReadyH.cons rfl (fun K hK => ?_) AllReadyH.nil)
              clear hHeld
              go_simp
              obtain ⟨z5, hwz5⟩ : ∃ z5, z5 = z4.alloc (.cells #[I 0, .slice none 0 0, .string { data := #[] }, .slice none 0 0] 33) := ⟨_, rfl⟩
              rw [← hwz5]
              obtain ⟨xb, hxb⟩ : ∃ xb, xb = z4.heap.size := ⟨_, rfl⟩
              have HA5 : Hid (Blk z5 xb 33 [I 0, .slice none 0 0, .string { data := #[] }, .slice none 0 0] ∧ G z4 z5) := by rw [hwz5, hxb]; exact ⟨Blk.new z4 [I 0, .slice none 0 0, .string { data := #[] }, .slice none 0 0] 33, (G.refl z4).alloc _⟩
              have HXB := hide hxb
              rw [← hxb]
              clear hwz5 hxb
              have HB5 := hide (HB4.out.G HA5.out.2)
              refine hK.out _ _ (HB5.out.cell) (fun hHeld => ?_)
              clear hK K
              try simp only [Act.put, List.getElem_toArray, List.getElem_cons_zero, List.getElem_cons_succ, List.setIfInBounds_toArray, List.set_cons_zero, List.set_cons_succ]
              refine wpAnyH_ready (rs := [11]) (by kernel_rfl) (by simp) (AllReadyH.cons rfl (fun K hK => ?_) AllReadyH.nil)
              clear hHeld
              have hcR := HA5.out.1.cell
              have hzR := HA5.out.1.frozen
              go_simp
              have HE : Hid (VaQ w5 q xb (WS z5 xb (I q.k) (.slice xa xn xc) (.string q.t) (.slice xa' xn' xc')) ∧ Blk (WS z5 xb (I q.k) (.slice xa xn xc) (.string q.t) (.slice xa' xn' xc')) bx 25 [I 0, I k, .slice p l.length cap]) := by
                obtain ⟨q1, q2, q3, q4⟩ := ws_set (I q.k) (.slice xa xn xc) (.string q.t) (.slice xa' xn' xc') HB5.out HA5.out.1 ((((G.refl w5).drew).trans HGz3.out).trans (HGz4.out.trans HA5.out.2)) (by rw [HXB.out]; exact Nat.le_trans (((G.refl w5).drew).trans HGz3.out).size HGz4.out.size)
                exact ⟨⟨xa, xn, xc, xa', xn', xc', q2, HV.out (fun _ => False) _ (fun _ h => h.elim) ((HA5.out.2.chg).more q4 (fun i hi e => by have h2 := HXB.out; omega)), q3, (by rw [HXB.out]; exact Nat.le_trans (((G.refl w5).drew).trans HGz3.out).size HGz4.out.size)⟩, q1⟩
              clear hcR hzR
              show K _ (WS z5 xb (I q.k) (.slice xa xn xc) (.string q.t) (.slice xa' xn' xc'))
              generalize (WS z5 xb (I q.k) (.slice xa xn xc) (.string q.t) (.slice xa' xn' xc')) = w9 at HE ⊢
              refine hK.out _ _ (HE.out.2.cell) (fun hHeld => ?_)
              clear hK K
              try simp only [Act.put, List.getElem_toArray, List.getElem_cons_zero, List.getElem_cons_succ, List.setIfInBounds_toArray, List.set_cons_zero, List.set_cons_succ]
              refine wpAnyH_take (i := 12) (v := ?_) rfl (by kernel_rfl) (by kernel_rfl) (by kernel_rfl) (fun _ _ _ h => h) (Or.inl ⟨by rfl, ?_⟩) hHeld ?_
              rotate_left 1
              · (intro w hSw; have q1 := hSw; (try dsimp only at hSw); go_simp; try with_reducible rfl)
              try simp only [Act.put, List.getElem_toArray, List.getElem_cons_zero, List.getElem_cons_succ, List.setIfInBounds_toArray, List.set_cons_zero, List.set_cons_succ]
              refine wpAnyH_done (by kernel_rfl) ?_ _
              refine NoPanic.normal ?_
              clear hHeld
              go_wp2_with fail
              go_meet
              case rel => exact ⟨xb, rfl, rfl, HE.out.1, HE.out.2⟩
            · -- the variable, then the call
              clear hHeld
              go_simp
              obtain ⟨z4, hwz4⟩ : ∃ z4, z4 = z3.alloc (.cells #[I 0, .slice none 0 0, .string { data := #[] }, .slice none 0 0] 33) := ⟨_, rfl⟩
              rw [← hwz4]
              obtain ⟨xb, hxb⟩ : ∃ xb, xb = z3.heap.size := ⟨_, rfl⟩
              have HA5 : Hid (Blk z4 xb 33 [I 0, .slice none 0 0, .string { data := #[] }, .slice none 0 0] ∧ G z3 z4) := by rw [hwz4, hxb]; exact ⟨Blk.new z3 [I 0, .slice none 0 0, .string { data := #[] }, .slice none 0 0] 33, (G.refl z3).alloc _⟩
              have HXB := hide hxb
              rw [← hxb]
              clear hwz4 hxb
              have HB4 := hide (HB3.out.G HA5.out.2)
              refine hK.out _ _ (HB4.out.cell) (fun hHeld => ?_)
              clear hK K
              try simp only [Act.put, List.getElem_toArray, List.getElem_cons_zero, List.getElem_cons_succ, List.setIfInBounds_toArray, List.set_cons_zero, List.set_cons_succ]
              refine wpAnyH_ready (rs := [6]) (by kernel_rfl) (by simp) (AllReadyH.cons rfl (fun K hK => ?_) AllReadyH.nil)
              clear hHeld
              go_simp
              refine (KG.out z4 _ (HSz3.out.G HA5.out.2).toRow ((((G.refl w5).drew).trans HGz3.out).trans HA5.out.2)).mono ?_
              rintro e z5 ⟨vz5, rfl, hvz5, hgz5⟩
              obtain ⟨xa, xn, xc, xa', xn', xc', ev⟩ := rq_form9 (hvz5 (fun _ => False) z5 (fun _ h => h.elim) (Chg.refl _ _))
              subst ev
              have HV := hide hvz5
              have HGz5 := hide hgz5
              clear hvz5 hgz5
              have HB5 := hide (HB4.out.G HGz5.out)
              have HC5 := hide (HA5.out.1.G HGz5.out)
              refine hK.out _ _ (HB5.out.cell) (fun hHeld => ?_)
              clear hK K
              try simp only [Act.put, List.getElem_toArray, List.getElem_cons_zero, List.getElem_cons_succ, List.setIfInBounds_toArray, List.set_cons_zero, List.set_cons_succ]
              refine wpAnyH_take (i := 7) (v := ?_) rfl (by kernel_rfl) (by kernel_rfl) (by kernel_rfl) (fun _ _ _ h => h) (Or.inl ⟨by rfl, ?_⟩) hHeld ?_
              rotate_left 1
              · (intro w hSw; have q1 := hSw; (try dsimp only at hSw); go_simp; try with_reducible rfl)
              try simp only [Act.put, List.getElem_toArray, List.getElem_cons_zero, List.getElem_cons_succ, List.setIfInBounds_toArray, List.set_cons_zero, List.set_cons_succ]
              refine wpAnyH_take (i := 8) (v := ?_) rfl (by kernel_rfl) (by kernel_rfl) (by kernel_rfl) (fun _ _ _ h => h) (Or.inl ⟨by rfl, ?_⟩) hHeld ?_
              rotate_left 1
              · (intro w hSw; have q1 := hSw; (try dsimp only at hSw); go_simp; try with_reducible rfl)
              try simp only [Act.put, List.getElem_toArray, List.getElem_cons_zero, List.getElem_cons_succ, List.setIfInBounds_toArray, List.set_cons_zero, List.set_cons_succ]
              refine wpAnyH_take (i := 9) (v := ?_) rfl (by kernel_rfl) (by kernel_rfl) (by kernel_rfl) (fun _ _ _ h => h) (Or.inl ⟨by rfl, ?_⟩) hHeld ?_
              rotate_left 1
              · (intro w hSw; have q1 := hSw; (try dsimp only at hSw); go_simp; try with_reducible rfl)
              try simp only [Act.put, List.getElem_toArray, List.getElem_cons_zero, List.getElem_cons_succ, List.setIfInBounds_toArray, List.set_cons_zero, List.set_cons_succ]
              refine wpAnyH_ready (rs := [11]) (by kernel_rfl) (by simp) (AllReadyH.cons rfl (fun K hK => ?_) AllReadyH.nil)
              clear hHeld
              have hcR := HC5.out.cell
              have hzR := HC5.out.frozen
              go_simp
              have HE : Hid (VaQ w5 q xb (WS z5 xb (I q.k) (.slice xa xn xc) (.string q.t) (.slice xa' xn' xc')) ∧ Blk (WS z5 xb (I q.k) (.slice xa xn xc) (.string q.t) (.slice xa' xn' xc')) bx 25 [I 0, I k, .slice p l.length cap]) := by
                obtain ⟨q1, q2, q3, q4⟩ := ws_set (I q.k) (.slice xa xn xc) (.string q.t) (.slice xa' xn' xc') HB5.out HC5.out ((((G.refl w5).drew).trans HGz3.out).trans (HA5.out.2.trans HGz5.out)) (by rw [HXB.out]; exact (((G.refl w5).drew).trans HGz3.out).size)
                exact ⟨⟨xa, xn, xc, xa', xn', xc', q2, HV.out (fun j => j = xb) _ (fun j hj => by rw [hj]; exact HA5.out.1.lt) q4, q3, (by rw [HXB.out]; exact (((G.refl w5).drew).trans HGz3.out).size)⟩, q1⟩
              clear hcR hzR
              show K _ (WS z5 xb (I q.k) (.slice xa xn xc) (.string q.t) (.slice xa' xn' xc'))
              generalize (WS z5 xb (I q.k) (.slice xa xn xc) (.string q.t) (.slice xa' xn' xc')) = w9 at HE ⊢
              refine hK.out _ _ (HE.out.2.cell) (fun hHeld => ?_)
              clear hK K
              try simp only [Act.put, List.getElem_toArray, List.getElem_cons_zero, List.getElem_cons_succ, List.setIfInBounds_toArray, List.set_cons_zero, List.set_cons_succ]
              refine wpAnyH_take (i := 12) (v := ?_) rfl (by kernel_rfl) (by kernel_rfl) (by kernel_rfl) (fun _ _ _ h => h) (Or.inl ⟨by rfl, ?_⟩) hHeld ?_
              rotate_left 1
              · (intro w hSw; have q1 := hSw; (try dsimp only at hSw); go_simp; try with_reducible rfl)
              try simp only [Act.put, List.getElem_toArray, List.getElem_cons_zero, List.getElem_cons_succ, List.setIfInBounds_toArray, List.set_cons_zero, List.set_cons_succ]
              refine wpAnyH_done (by kernel_rfl) ?_ _
              refine NoPanic.normal ?_
              clear hHeld
              go_wp2_with fail
              go_meet
              case rel => exact ⟨xb, rfl, rfl, HE.out.1, HE.out.2⟩
          · -- the variable first
            clear hHeld
            go_simp
            obtain ⟨z3, hz3⟩ : ∃ z3, z3 = (w5.alloc (.cells #[I 0, .slice none 0 0, .string { data := #[] }, .slice none 0 0] 33)).drew := ⟨_, rfl⟩
            rw [← hz3]
            obtain ⟨xb, hxb⟩ : ∃ xb, xb = w5.heap.size := ⟨_, rfl⟩
            have HA5 : Hid (Blk z3 xb 33 [I 0, .slice none 0 0, .string { data := #[] }, .slice none 0 0] ∧ G w5 z3) := by rw [hz3, hxb]; exact ⟨(Blk.new w5 [I 0, .slice none 0 0, .string { data := #[] }, .slice none 0 0] 33).drew, ((G.refl w5).alloc _).drew⟩
            have HXB := hide hxb
            try rw [show w5.drew.heap.size = xb from hxb.symm]
            try rw [← hxb]
            clear hz3 hxb
            have HB3 := hide (HB0.out.G HA5.out.2)
            refine hK.out _ _ (HB3.out.cell) (fun hHeld => ?_)
            clear hK K
            try simp only [Act.put, List.getElem_toArray, List.getElem_cons_zero, List.getElem_cons_succ, List.setIfInBounds_toArray, List.set_cons_zero, List.set_cons_succ]
            refine wpAnyH_ready (rs := [4]) (by kernel_rfl) (by simp) (AllReadyH.cons rfl (fun K hK => ?_) AllReadyH.nil)
            clear hHeld
            go_simp
            refine (KC.out z3 HA5.out.2).mono ?_
            rintro e z4 ⟨vz4, rfl, hsz4, hgz4, -⟩
            obtain ⟨az4, cz4, hvz4⟩ := hsz4.form
            subst hvz4
            have HSz4 := hide hsz4
            have HGz4 := hide hgz4
            clear hsz4 hgz4
            have HB4 := hide (HB3.out.G HGz4.out)
            refine hK.out _ _ (HB4.out.cell) (fun hHeld => ?_)
            clear hK K
            try simp only [Act.put, List.getElem_toArray, List.getElem_cons_zero, List.getElem_cons_succ, List.setIfInBounds_toArray, List.set_cons_zero, List.set_cons_succ]
            refine wpAnyH_take (i := 5) (v := ?_) rfl (by kernel_rfl) (by kernel_rfl) (by kernel_rfl) (fun _ _ _ h => h) (Or.inl ⟨by rfl, ?_⟩) hHeld ?_
            rotate_left 1
            · (intro w hSw; have q1 := hSw; (try dsimp only at hSw); go_simp; try with_reducible rfl)
            try simp only [Act.put, List.getElem_toArray, List.getElem_cons_zero, List.getElem_cons_succ, List.setIfInBounds_toArray, List.set_cons_zero, List.set_cons_succ]
            refine wpAnyH_ready (rs := [6]) (by kernel_rfl) (by simp) (AllReadyH.cons rfl (fun K hK => ?_) AllReadyH.nil)
            clear hHeld
            go_simp
            refine (KG.out z4 _ HSz4.out.toRow (HA5.out.2.trans HGz4.out)).mono ?_
            rintro e z5 ⟨vz5, rfl, hvz5, hgz5⟩
            obtain ⟨xa, xn, xc, xa', xn', xc', ev⟩ := rq_form9 (hvz5 (fun _ => False) z5 (fun _ h => h.elim) (Chg.refl _ _))
            subst ev
            have HV := hide hvz5
            have HGz5 := hide hgz5
            clear hvz5 hgz5
            have HB5 := hide (HB4.out.G HGz5.out)
            have HC5 := hide ((HA5.out.1.G HGz4.out).G HGz5.out)
            refine hK.out _ _ (HB5.out.cell) (fun hHeld => ?_)
            clear hK K
            try simp only [Act.put, List.getElem_toArray, List.getElem_cons_zero, List.getElem_cons_succ, List.setIfInBounds_toArray, List.set_cons_zero, List.set_cons_succ]
            refine wpAnyH_take (i := 7) (v := ?_) rfl (by kernel_rfl) (by kernel_rfl) (by kernel_rfl) (fun _ _ _ h => h) (Or.inl ⟨by rfl, ?_⟩) hHeld ?_
            rotate_left 1
            · (intro w hSw; have q1 := hSw; (try dsimp only at hSw); go_simp; try with_reducible rfl)
            try simp only [Act.put, List.getElem_toArray, List.getElem_cons_zero, List.getElem_cons_succ, List.setIfInBounds_toArray, List.set_cons_zero, List.set_cons_succ]
            refine wpAnyH_take (i := 8) (v := ?_) rfl (by kernel_rfl) (by kernel_rfl) (by kernel_rfl) (fun _ _ _ h => h) (Or.inl ⟨by rfl, ?_⟩) hHeld ?_
            rotate_left 1
            · (intro w hSw; have q1 := hSw; (try dsimp only at hSw); go_simp; try with_reducible rfl)
            try simp only [Act.put, List.getElem_toArray, List.getElem_cons_zero, List.getElem_cons_succ, List.setIfInBounds_toArray, List.set_cons_zero, List.set_cons_succ]
            refine wpAnyH_take (i := 9) (v := ?_) rfl (by kernel_rfl) (by kernel_rfl) (by kernel_rfl) (fun _ _ _ h => h) (Or.inl ⟨by rfl, ?_⟩) hHeld ?_
            rotate_left 1
            · (intro w hSw; have q1 := hSw; (try dsimp only at hSw); go_simp; try with_reducible rfl)
            try simp only [Act.put, List.getElem_toArray, List.getElem_cons_zero, List.getElem_cons_succ, List.setIfInBounds_toArray, List.set_cons_zero, List.set_cons_succ]
            refine wpAnyH_ready (rs := [11]) (by kernel_rfl) (by simp) (AllReadyH.cons rfl (fun K hK => ?_) AllReadyH.nil)
            clear hHeld
            have hcR := HC5.out.cell
            have hzR := HC5.out.frozen
            go_simp
            have HE : Hid (VaQ w5 q xb (WS z5 xb (I q.k) (.slice xa xn xc) (.string q.t) (.slice xa' xn' xc')) ∧ Blk (WS z5 xb (I q.k) (.slice xa xn xc) (.string q.t) (.slice xa' xn' xc')) bx 25 [I 0, I k, .slice p l.length cap]) := by
              obtain ⟨q1, q2, q3, q4⟩ := ws_set (I q.k) (.slice xa xn xc) (.string q.t) (.slice xa' xn' xc') HB5.out HC5.out (HA5.out.2.trans (HGz4.out.trans HGz5.out)) (Nat.le_of_eq HXB.out.symm)
              exact ⟨⟨xa, xn, xc, xa', xn', xc', q2, HV.out (fun j => j = xb) _ (fun j hj => by rw [hj]; exact (HA5.out.1.G HGz4.out).lt) q4, q3, (Nat.le_of_eq HXB.out.symm)⟩, q1⟩
            clear hcR hzR
            show K _ (WS z5 xb (I q.k) (.slice xa xn xc) (.string q.t) (.slice xa' xn' xc'))
            generalize (WS z5 xb (I q.k) (.slice xa xn xc) (.string q.t) (.slice xa' xn' xc')) = w9 at HE ⊢
            refine hK.out _ _ (HE.out.2.cell) (fun hHeld => ?_)
            clear hK K
            try simp only [Act.put, List.getElem_toArray, List.getElem_cons_zero, List.getElem_cons_succ, List.setIfInBounds_toArray, List.set_cons_zero, List.set_cons_succ]
            refine wpAnyH_take (i := 12) (v := ?_) rfl (by kernel_rfl) (by kernel_rfl) (by kernel_rfl) (fun _ _ _ h => h) (Or.inl ⟨by rfl, ?_⟩) hHeld ?_
            rotate_left 1
            · (intro w hSw; have q1 := hSw; (try dsimp only at hSw); go_simp; try with_reducible rfl)
            try simp only [Act.put, List.getElem_toArray, List.getElem_cons_zero, List.getElem_cons_succ, List.setIfInBounds_toArray, List.set_cons_zero, List.set_cons_succ]
            refine wpAnyH_done (by kernel_rfl) ?_ _
            refine NoPanic.normal ?_
            clear hHeld
            go_wp2_with fail
            go_meet
            case rel => exact ⟨xb, rfl, rfl, HE.out.1, HE.out.2⟩
        case rest =>
          obtain ⟨xb, rfl, rfl, hva, hbx⟩ := hcut
          clear KC KG HB0
          obtain ⟨xa, xn, xc, xa', xn', xc', hbX, hvX, hgX, _⟩ := hva
          by_cases ha : cq = 0
          · have hag := asked_again HBY.out.1 (k := k) (by rw [← HQC.out.2]; exact ha)
            have d1 : (cq == 0) = true := by rw [ha]; rfl
            have KP := hide (putq_any wc _ q hvX (HTT.out.1.G (HG05.out.trans hgX)))
            have hc9 := hbX.cell
            have HGX := hide hgX
            have HBXX := hide hbx
            have HCF : Hid (q.code = 0 ∧ q.frame = frL k l) := by rw [HQC.out.1]; exact ⟨hag.2.2.1, hag.2.2.2⟩
            have HAG := hide hag
            have e0 : frC k l.length = 0 := hag.2.1
            subst ha
            clear hbX hvX hgX hbx hag
            go_wp2_with fail
            refine KP.out.mono ?_
            rintro e w7 ⟨v7, rfl, hs7, hg7, -⟩
            rw [HCF.out.2] at hs7
            rw [HCF.out.1]
            obtain ⟨a7, c7, hv7⟩ := hs7.form
            generalize hfl : (frL k l).length = n7 at hv7
            subst hv7
            have KB := hide (bytes_any (frL k l) _ _ w7 hs7.toRow ((HS5.out.G HGX.out).G hg7).toRow HFL.out)
            have HG7 := hide (HGX.out.trans hg7)
            have HG7c := hide hg7
            clear hs7 hg7 KP hc9 hfl
            try rw [e0]
            go_wp2_with fail
            refine KB.out.mono ?_
            rintro e w8 ⟨rfl, hg8⟩
            have HB0 := hide (((HBXX.out).G (HG7c.out.trans hg8) : Blk w8 bx 25 [I 0, I k, .slice p l.length cap]))
            have HGW := hide (HG05.out.trans (HG7.out.trans hg8))
            clear hg8 KB
            have KC : Hid (∀ w, G w8 w → Calls Tryz.prog 8 #[.slice p l.length cap] w fun e W' => ∃ v', e = .returned v' ∧ SwB W' v' l ∧ G w W' ∧ Fresh w v') := fun w g => copy_any l _ w ((HR.out.G HGW.out).G g) HBY.out.2
            obtain ⟨r, cr, HRW, HRC, KG⟩ : ∃ r cr, Hid (RpW r ∧ RpG r) ∧ Hid (r = grQ 0 k l ∧ cr = grC 0 k l) ∧ Hid (∀ w v, Rb w v l → G w8 w → Calls Tryz.prog 12 #[.agg #[I 0, I k, v]] w fun e w' => ∃ v', e = .returned (.tuple #[v', I cr]) ∧ RpF v' ∧ dQ.r w' (parts v') r ∧ G w w') :=
              ⟨grQ 0 k l, grC 0 k l, grQ_w 0 k l, ⟨rfl, rfl⟩, fun w v hv g => getr_any 0 k l v w hv HBY.out.1 (HTT.out.2.G (HGW.out.trans g)) HKN.out⟩
            go_upto_region 16 with fail
            go_cut [15, 16] from 78 to 112 (fun v1 v2 W => ∃ xb, v1 = ptr xb ∧ v2 = I cr ∧ VaR w8 r xb W ∧ Blk W bx 25 [I 0, I k, .slice p l.length cap])
            case first =>
              refine wp_region_noPanic ?_
              refine wp_region_held_drew (S := (fun V => ∀ o, V.cell? ⟨bx, o, none⟩ = ([I 0, I k, .slice p l.length cap] : List Value)[o]?)) (by kernel_rfl) (HB0.out.drew.cell) (fun hHeld => ?_)
              refine wpAnyH_take (i := 0) (v := ?_) rfl (by kernel_rfl) (by kernel_rfl) (by kernel_rfl) (fun _ _ _ h => h) (Or.inl ⟨by rfl, ?_⟩) hHeld ?_
              rotate_left 1
              · (intro w hSw; have q1 := hSw; (try dsimp only at hSw); go_simp; try with_reducible rfl)
              try simp only [Act.put, List.getElem_toArray, List.getElem_cons_zero, List.setIfInBounds_toArray, List.set_cons_zero, List.set_cons_succ]
              refine wpAnyH_take (i := 1) (v := ?_) rfl (by kernel_rfl) (by kernel_rfl) (by kernel_rfl) (fun _ _ _ h => h) (Or.inl ⟨by rfl, ?_⟩) hHeld ?_
              rotate_left 1
              · (intro w hSw; have q1 := hSw; (try dsimp only at hSw); go_simp; try with_reducible rfl)
              try simp only [Act.put, List.getElem_toArray, List.getElem_cons_zero, List.getElem_cons_succ, List.setIfInBounds_toArray, List.set_cons_zero, List.set_cons_succ]
              refine wpAnyH_take (i := 2) (v := ?_) rfl (by kernel_rfl) (by kernel_rfl) (by kernel_rfl) (fun _ _ _ h => h) (Or.inl ⟨by rfl, ?_⟩) hHeld ?_
              rotate_left 1
              · (intro w hSw; have q1 := hSw; (try dsimp only at hSw); go_simp; try with_reducible rfl)
              try simp only [Act.put, List.getElem_toArray, List.getElem_cons_zero, List.getElem_cons_succ, List.setIfInBounds_toArray, List.set_cons_zero, List.set_cons_succ]
              refine wpAnyH_take (i := 3) (v := ?_) rfl (by kernel_rfl) (by kernel_rfl) (by kernel_rfl) (fun _ _ _ h => h) (Or.inl ⟨by rfl, ?_⟩) hHeld ?_
              rotate_left 1
              · (intro w hSw; have q1 := hSw; (try dsimp only at hSw); go_simp; try with_reducible rfl)
              try simp only [Act.put, List.getElem_toArray, List.getElem_cons_zero, List.getElem_cons_succ, List.setIfInBounds_toArray, List.set_cons_zero, List.set_cons_succ]
              refine wpAnyH_ready (rs := [4, 10]) (by kernel_rfl) (by simp) (AllReadyH.cons rfl (fun K hK => ?_) (AllReadyH.cons rfl (fun K hK => ?_) AllReadyH.nil))
              · -- the copy first
                clear hHeld
                go_simp
                refine (KC.out w8.drew (G.refl w8).drew).mono ?_
                rintro e z3 ⟨vz3, rfl, hsz3, hgz3, -⟩
                obtain ⟨az3, cz3, hvz3⟩ := hsz3.form
                subst hvz3
                have HSz3 := hide hsz3
                have HGz3 := hide hgz3
                clear hsz3 hgz3
                have HB3 := hide (HB0.out.drew.G HGz3.out)
                refine hK.out _ _ (HB3.out.cell) (fun hHeld => ?_)
                clear hK K
                try simp only [Act.put, List.getElem_toArray, List.getElem_cons_zero, List.getElem_cons_succ, List.setIfInBounds_toArray, List.set_cons_zero, List.set_cons_succ]
                refine wpAnyH_take (i := 5) (v := ?_) rfl (by kernel_rfl) (by kernel_rfl) (by kernel_rfl) (fun _ _ _ h => h) (Or.inl ⟨by rfl, ?_⟩) hHeld ?_
                rotate_left 1
                · (intro w hSw; have q1 := hSw; (try dsimp only at hSw); go_simp; try with_reducible rfl)
                try simp only [Act.put, List.getElem_toArray, List.getElem_cons_zero, List.getElem_cons_succ, List.setIfInBounds_toArray, List.set_cons_zero, List.set_cons_succ]
                refine wpAnyH_ready (rs := [6, 10]) (by kernel_rfl) (by simp) (AllReadyH.cons rfl (fun K hK => ?_) (AllReadyH.cons rfl (fun K hK => ?_) AllReadyH.nil))
                · -- the call, then the variable
                  clear hHeld
                  go_simp
                  refine (KG.out z3 _ HSz3.out.toRow (((G.refl w8).drew).trans HGz3.out)).mono ?_
                  rintro e z4 ⟨vz4, rfl, hFz4, hvz4, hgz4⟩
                  obtain ⟨xna, xnn, xnc, xta, xtn, xtc, xba, xbn, xbc, xda, xdn, xdc, xea, xen, xec, ev, hdz4⟩ := rp_form9 hFz4 hvz4
                  subst ev
                  have HV := hide hdz4
                  have HGz4 := hide hgz4
                  clear hFz4 hvz4 hdz4 hgz4
                  have HB4 := hide (HB3.out.G HGz4.out)
                  refine hK.out _ _ (HB4.out.cell) (fun hHeld => ?_)
                  clear hK K
                  try simp only [Act.put, List.getElem_toArray, List.getElem_cons_zero, List.getElem_cons_succ, List.setIfInBounds_toArray, List.set_cons_zero, List.set_cons_succ]
                  refine wpAnyH_take (i := 7) (v := ?_) rfl (by kernel_rfl) (by kernel_rfl) (by kernel_rfl) (fun _ _ _ h => h) (Or.inl ⟨by rfl, ?_⟩) hHeld ?_
                  rotate_left 1
                  · (intro w hSw; have q1 := hSw; (try dsimp only at hSw); go_simp; try with_reducible rfl)
                  try simp only [Act.put, List.getElem_toArray, List.getElem_cons_zero, List.getElem_cons_succ, List.setIfInBounds_toArray, List.set_cons_zero, List.set_cons_succ]
                  refine wpAnyH_take (i := 8) (v := ?_) rfl (by kernel_rfl) (by kernel_rfl) (by kernel_rfl) (fun _ _ _ h => h) (Or.inl ⟨by rfl, ?_⟩) hHeld ?_
                  rotate_left 1
                  · (intro w hSw; have q1 := hSw; (try dsimp only at hSw); go_simp; try with_reducible rfl)
                  try simp only [Act.put, List.getElem_toArray, List.getElem_cons_zero, List.getElem_cons_succ, List.setIfInBounds_toArray, List.set_cons_zero, List.set_cons_succ]
                  refine wpAnyH_take (i := 9) (v := ?_) rfl (by kernel_rfl) (by kernel_rfl) (by kernel_rfl) (fun _ _ _ h => h) (Or.inl ⟨by rfl, ?_⟩) hHeld ?_
                  rotate_left 1
                  · (intro w hSw; have q1 := hSw; (try dsimp only at hSw); go_simp; try with_reducible rfl)
                  try simp only [Act.put, List.getElem_toArray, List.getElem_cons_zero, List.getElem_cons_succ, List.setIfInBounds_toArray, List.set_cons_zero, List.set_cons_succ]
                  refine wpAnyH_ready (rs := [10]) (by kernel_rfl) (by simp) (AllReadyH.cons rfl (fun K hK => ?_) AllReadyH.nil)
                  clear hHeld
                  go_simp
                  obtain ⟨z5, hwz5⟩ : ∃ z5, z5 = z4.alloc (.cells #[I 0, I 0, .slice none 0 0, .slice none 0 0, .slice none 0 0, .slice none 0 0, .slice none 0 0] 41) := ⟨_, rfl⟩
                  rw [← hwz5]
                  obtain ⟨xb, hxb⟩ : ∃ xb, xb = z4.heap.size := ⟨_, rfl⟩
                  have HA5 : Hid (Blk z5 xb 41 [I 0, I 0, .slice none 0 0, .slice none 0 0, .slice none 0 0, .slice none 0 0, .slice none 0 0] ∧ G z4 z5) := by rw [hwz5, hxb]; exact ⟨Blk.new z4 [I 0, I 0, .slice none 0 0, .slice none 0 0, .slice none 0 0, .slice none 0 0, .slice none 0 0] 41, (G.refl z4).alloc _⟩
                  have HXB := hide hxb
                  rw [← hxb]
                  clear hwz5 hxb
                  have HB5 := hide (HB4.out.G HA5.out.2)
                  refine hK.out _ _ (HB5.out.cell) (fun hHeld => ?_)
                  clear hK K
                  try simp only [Act.put, List.getElem_toArray, List.getElem_cons_zero, List.getElem_cons_succ, List.setIfInBounds_toArray, List.set_cons_zero, List.set_cons_succ]
                  refine wpAnyH_ready (rs := [11]) (by kernel_rfl) (by simp) (AllReadyH.cons rfl (fun K hK => ?_) AllReadyH.nil)
                  clear hHeld
                  have hcR := HA5.out.1.cell
                  have hzR := HA5.out.1.frozen
                  go_simp
                  have HE : Hid (VaR w8 r xb (WR z5 xb (I r.dst) (I r.code) (.slice xna xnn xnc) (.slice xta xtn xtc) (.slice xba xbn xbc) (.slice xda xdn xdc) (.slice xea xen xec)) ∧ Blk (WR z5 xb (I r.dst) (I r.code) (.slice xna xnn xnc) (.slice xta xtn xtc) (.slice xba xbn xbc) (.slice xda xdn xdc) (.slice xea xen xec)) bx 25 [I 0, I k, .slice p l.length cap]) := by
                    obtain ⟨q1, q2, q3, q4⟩ := wr_set (I r.dst) (I r.code) (.slice xna xnn xnc) (.slice xta xtn xtc) (.slice xba xbn xbc) (.slice xda xdn xdc) (.slice xea xen xec) HB5.out (by decide) HA5.out.1 ((((G.refl w8).drew).trans HGz3.out).trans (HGz4.out.trans HA5.out.2)) (by rw [HXB.out]; exact Nat.le_trans (((G.refl w8).drew).trans HGz3.out).size HGz4.out.size)
                    exact ⟨⟨xna, xnn, xnc, xta, xtn, xtc, xba, xbn, xbc, xda, xdn, xdc, xea, xen, xec, q2, dQ.keep (X := [41]) ((Kx.of_G HA5.out.2).trans (Kx.one q4 HA5.out.1 (by simp))) (by decide) HV.out, q3, (by rw [HXB.out]; exact Nat.le_trans (((G.refl w8).drew).trans HGz3.out).size HGz4.out.size)⟩, q1⟩
                  clear hcR hzR
                  show K _ (WR z5 xb (I r.dst) (I r.code) (.slice xna xnn xnc) (.slice xta xtn xtc) (.slice xba xbn xbc) (.slice xda xdn xdc) (.slice xea xen xec))
                  generalize (WR z5 xb (I r.dst) (I r.code) (.slice xna xnn xnc) (.slice xta xtn xtc) (.slice xba xbn xbc) (.slice xda xdn xdc) (.slice xea xen xec)) = w9 at HE ⊢
                  refine hK.out _ _ (HE.out.2.cell) (fun hHeld => ?_)
                  clear hK K
                  try simp only [Act.put, List.getElem_toArray, List.getElem_cons_zero, List.getElem_cons_succ, List.setIfInBounds_toArray, List.set_cons_zero, List.set_cons_succ]
                  refine wpAnyH_take (i := 12) (v := ?_) rfl (by kernel_rfl) (by kernel_rfl) (by kernel_rfl) (fun _ _ _ h => h) (Or.inl ⟨by rfl, ?_⟩) hHeld ?_
                  rotate_left 1
                  · (intro w hSw; have q1 := hSw; (try dsimp only at hSw); go_simp; try with_reducible rfl)
                  try simp only [Act.put, List.getElem_toArray, List.getElem_cons_zero, List.getElem_cons_succ, List.setIfInBounds_toArray, List.set_cons_zero, List.set_cons_succ]
                  refine wpAnyH_done (by kernel_rfl) ?_ _
                  refine NoPanic.normal ?_
                  clear hHeld
                  go_wp2_with fail
                  go_meet
                  case rel => exact ⟨xb, rfl, rfl, HE.out.1, HE.out.2⟩
                · -- the variable, then the call
                  clear hHeld
                  go_simp
                  obtain ⟨z4, hwz4⟩ : ∃ z4, z4 = z3.alloc (.cells #[I 0, I 0, .slice none 0 0, .slice none 0 0, .slice none 0 0, .slice none 0 0, .slice none 0 0] 41) := ⟨_, rfl⟩
                  rw [← hwz4]
                  obtain ⟨xb, hxb⟩ : ∃ xb, xb = z3.heap.size := ⟨_, rfl⟩
                  have HA5 : Hid (Blk z4 xb 41 [I 0, I 0, .slice none 0 0, .slice none 0 0, .slice none 0 0, .slice none 0 0, .slice none 0 0] ∧ G z3 z4) := by rw [hwz4, hxb]; exact ⟨Blk.new z3 [I 0, I 0, .slice none 0 0, .slice none 0 0, .slice none 0 0, .slice none 0 0, .slice none 0 0] 41, (G.refl z3).alloc _⟩
                  have HXB := hide hxb
                  rw [← hxb]
                  clear hwz4 hxb
                  have HB4 := hide (HB3.out.G HA5.out.2)
                  refine hK.out _ _ (HB4.out.cell) (fun hHeld => ?_)
                  clear hK K
                  try simp only [Act.put, List.getElem_toArray, List.getElem_cons_zero, List.getElem_cons_succ, List.setIfInBounds_toArray, List.set_cons_zero, List.set_cons_succ]
                  refine wpAnyH_ready (rs := [6]) (by kernel_rfl) (by simp) (AllReadyH.cons rfl (fun K hK => ?_) AllReadyH.nil)
                  clear hHeld
                  go_simp
                  refine (KG.out z4 _ (HSz3.out.G HA5.out.2).toRow ((((G.refl w8).drew).trans HGz3.out).trans HA5.out.2)).mono ?_
                  rintro e z5 ⟨vz5, rfl, hFz5, hvz5, hgz5⟩
                  obtain ⟨xna, xnn, xnc, xta, xtn, xtc, xba, xbn, xbc, xda, xdn, xdc, xea, xen, xec, ev, hdz5⟩ := rp_form9 hFz5 hvz5
                  subst ev
                  have HV := hide hdz5
                  have HGz5 := hide hgz5
                  clear hFz5 hvz5 hdz5 hgz5
                  have HB5 := hide (HB4.out.G HGz5.out)
                  have HC5 := hide (HA5.out.1.G HGz5.out)
                  refine hK.out _ _ (HB5.out.cell) (fun hHeld => ?_)
                  clear hK K
                  try simp only [Act.put, List.getElem_toArray, List.getElem_cons_zero, List.getElem_cons_succ, List.setIfInBounds_toArray, List.set_cons_zero, List.set_cons_succ]
                  refine wpAnyH_take (i := 7) (v := ?_) rfl (by kernel_rfl) (by kernel_rfl) (by kernel_rfl) (fun _ _ _ h => h) (Or.inl ⟨by rfl, ?_⟩) hHeld ?_
                  rotate_left 1
                  · (intro w hSw; have q1 := hSw; (try dsimp only at hSw); go_simp; try with_reducible rfl)
                  try simp only [Act.put, List.getElem_toArray, List.getElem_cons_zero, List.getElem_cons_succ, List.setIfInBounds_toArray, List.set_cons_zero, List.set_cons_succ]
                  refine wpAnyH_take (i := 8) (v := ?_) rfl (by kernel_rfl) (by kernel_rfl) (by kernel_rfl) (fun _ _ _ h => h) (Or.inl ⟨by rfl, ?_⟩) hHeld ?_
                  rotate_left 1
                  · (intro w hSw; have q1 := hSw; (try dsimp only at hSw); go_simp; try with_reducible rfl)
                  try simp only [Act.put, List.getElem_toArray, List.getElem_cons_zero, List.getElem_cons_succ, List.setIfInBounds_toArray, List.set_cons_zero, List.set_cons_succ]
                  refine wpAnyH_take (i := 9) (v := ?_) rfl (by kernel_rfl) (by kernel_rfl) (by kernel_rfl) (fun _ _ _ h => h) (Or.inl ⟨by rfl, ?_⟩) hHeld ?_
                  rotate_left 1
                  · (intro w hSw; have q1 := hSw; (try dsimp only at hSw); go_simp; try with_reducible rfl)
                  try simp only [Act.put, List.getElem_toArray, List.getElem_cons_zero, List.getElem_cons_succ, List.setIfInBounds_toArray, List.set_cons_zero, List.set_cons_succ]
                  refine wpAnyH_ready (rs := [11]) (by kernel_rfl) (by simp) (AllReadyH.cons rfl (fun K hK => ?_) AllReadyH.nil)
                  clear hHeld
                  have hcR := HC5.out.cell
                  have hzR := HC5.out.frozen
                  go_simp
                  have HE : Hid (VaR w8 r xb (WR z5 xb (I r.dst) (I r.code) (.slice xna xnn xnc) (.slice xta xtn xtc) (.slice xba xbn xbc) (.slice xda xdn xdc) (.slice xea xen xec)) ∧ Blk (WR z5 xb (I r.dst) (I r.code) (.slice xna xnn xnc) (.slice xta xtn xtc) (.slice xba xbn xbc) (.slice xda xdn xdc) (.slice xea xen xec)) bx 25 [I 0, I k, .slice p l.length cap]) := by
                    obtain ⟨q1, q2, q3, q4⟩ := wr_set (I r.dst) (I r.code) (.slice xna xnn xnc) (.slice xta xtn xtc) (.slice xba xbn xbc) (.slice xda xdn xdc) (.slice xea xen xec) HB5.out (by decide) HC5.out ((((G.refl w8).drew).trans HGz3.out).trans (HA5.out.2.trans HGz5.out)) (by rw [HXB.out]; exact (((G.refl w8).drew).trans HGz3.out).size)
                    exact ⟨⟨xna, xnn, xnc, xta, xtn, xtc, xba, xbn, xbc, xda, xdn, xdc, xea, xen, xec, q2, dQ.keep (X := [41]) (Kx.one q4 HC5.out (by simp)) (by decide) HV.out, q3, (by rw [HXB.out]; exact (((G.refl w8).drew).trans HGz3.out).size)⟩, q1⟩
                  clear hcR hzR
                  show K _ (WR z5 xb (I r.dst) (I r.code) (.slice xna xnn xnc) (.slice xta xtn xtc) (.slice xba xbn xbc) (.slice xda xdn xdc) (.slice xea xen xec))
                  generalize (WR z5 xb (I r.dst) (I r.code) (.slice xna xnn xnc) (.slice xta xtn xtc) (.slice xba xbn xbc) (.slice xda xdn xdc) (.slice xea xen xec)) = w9 at HE ⊢
                  refine hK.out _ _ (HE.out.2.cell) (fun hHeld => ?_)
                  clear hK K
                  try simp only [Act.put, List.getElem_toArray, List.getElem_cons_zero, List.getElem_cons_succ, List.setIfInBounds_toArray, List.set_cons_zero, List.set_cons_succ]
                  refine wpAnyH_take (i := 12) (v := ?_) rfl (by kernel_rfl) (by kernel_rfl) (by kernel_rfl) (fun _ _ _ h => h) (Or.inl ⟨by rfl, ?_⟩) hHeld ?_
                  rotate_left 1
                  · (intro w hSw; have q1 := hSw; (try dsimp only at hSw); go_simp; try with_reducible rfl)
                  try simp only [Act.put, List.getElem_toArray, List.getElem_cons_zero, List.getElem_cons_succ, List.setIfInBounds_toArray, List.set_cons_zero, List.set_cons_succ]
                  refine wpAnyH_done (by kernel_rfl) ?_ _
                  refine NoPanic.normal ?_
                  clear hHeld
                  go_wp2_with fail
                  go_meet
                  case rel => exact ⟨xb, rfl, rfl, HE.out.1, HE.out.2⟩
              · -- the variable first
                clear hHeld
                go_simp
                obtain ⟨z3, hz3⟩ : ∃ z3, z3 = (w8.alloc (.cells #[I 0, I 0, .slice none 0 0, .slice none 0 0, .slice none 0 0, .slice none 0 0, .slice none 0 0] 41)).drew := ⟨_, rfl⟩
                rw [← hz3]
                obtain ⟨xb, hxb⟩ : ∃ xb, xb = w8.heap.size := ⟨_, rfl⟩
                have HA5 : Hid (Blk z3 xb 41 [I 0, I 0, .slice none 0 0, .slice none 0 0, .slice none 0 0, .slice none 0 0, .slice none 0 0] ∧ G w8 z3) := by rw [hz3, hxb]; exact ⟨(Blk.new w8 [I 0, I 0, .slice none 0 0, .slice none 0 0, .slice none 0 0, .slice none 0 0, .slice none 0 0] 41).drew, ((G.refl w8).alloc _).drew⟩
                have HXB := hide hxb
                try rw [show w8.drew.heap.size = xb from hxb.symm]
                try rw [← hxb]
                clear hz3 hxb
                have HB3 := hide (HB0.out.G HA5.out.2)
                refine hK.out _ _ (HB3.out.cell) (fun hHeld => ?_)
                clear hK K
                try simp only [Act.put, List.getElem_toArray, List.getElem_cons_zero, List.getElem_cons_succ, List.setIfInBounds_toArray, List.set_cons_zero, List.set_cons_succ]
                refine wpAnyH_ready (rs := [4]) (by kernel_rfl) (by simp) (AllReadyH.cons rfl (fun K hK => ?_) AllReadyH.nil)
                clear hHeld
                go_simp
                refine (KC.out z3 HA5.out.2).mono ?_
                rintro e z4 ⟨vz4, rfl, hsz4, hgz4, -⟩
                obtain ⟨az4, cz4, hvz4⟩ := hsz4.form
                subst hvz4
                have HSz4 := hide hsz4
                have HGz4 := hide hgz4
                clear hsz4 hgz4
                have HB4 := hide (HB3.out.G HGz4.out)
                refine hK.out _ _ (HB4.out.cell) (fun hHeld => ?_)
                clear hK K
                try simp only [Act.put, List.getElem_toArray, List.getElem_cons_zero, List.getElem_cons_succ, List.setIfInBounds_toArray, List.set_cons_zero, List.set_cons_succ]
                refine wpAnyH_take (i := 5) (v := ?_) rfl (by kernel_rfl) (by kernel_rfl) (by kernel_rfl) (fun _ _ _ h => h) (Or.inl ⟨by rfl, ?_⟩) hHeld ?_
                rotate_left 1
                · (intro w hSw; have q1 := hSw; (try dsimp only at hSw); go_simp; try with_reducible rfl)
                try simp only [Act.put, List.getElem_toArray, List.getElem_cons_zero, List.getElem_cons_succ, List.setIfInBounds_toArray, List.set_cons_zero, List.set_cons_succ]
                refine wpAnyH_ready (rs := [6]) (by kernel_rfl) (by simp) (AllReadyH.cons rfl (fun K hK => ?_) AllReadyH.nil)
                clear hHeld
                go_simp
                refine (KG.out z4 _ HSz4.out.toRow (HA5.out.2.trans HGz4.out)).mono ?_
                rintro e z5 ⟨vz5, rfl, hFz5, hvz5, hgz5⟩
                obtain ⟨xna, xnn, xnc, xta, xtn, xtc, xba, xbn, xbc, xda, xdn, xdc, xea, xen, xec, ev, hdz5⟩ := rp_form9 hFz5 hvz5
                subst ev
                have HV := hide hdz5
                have HGz5 := hide hgz5
                clear hFz5 hvz5 hdz5 hgz5
                have HB5 := hide (HB4.out.G HGz5.out)
                have HC5 := hide ((HA5.out.1.G HGz4.out).G HGz5.out)
                refine hK.out _ _ (HB5.out.cell) (fun hHeld => ?_)
                clear hK K
                try simp only [Act.put, List.getElem_toArray, List.getElem_cons_zero, List.getElem_cons_succ, List.setIfInBounds_toArray, List.set_cons_zero, List.set_cons_succ]
                refine wpAnyH_take (i := 7) (v := ?_) rfl (by kernel_rfl) (by kernel_rfl) (by kernel_rfl) (fun _ _ _ h => h) (Or.inl ⟨by rfl, ?_⟩) hHeld ?_
                rotate_left 1
                · (intro w hSw; have q1 := hSw; (try dsimp only at hSw); go_simp; try with_reducible rfl)
                try simp only [Act.put, List.getElem_toArray, List.getElem_cons_zero, List.getElem_cons_succ, List.setIfInBounds_toArray, List.set_cons_zero, List.set_cons_succ]
                refine wpAnyH_take (i := 8) (v := ?_) rfl (by kernel_rfl) (by kernel_rfl) (by kernel_rfl) (fun _ _ _ h => h) (Or.inl ⟨by rfl, ?_⟩) hHeld ?_
                rotate_left 1
                · (intro w hSw; have q1 := hSw; (try dsimp only at hSw); go_simp; try with_reducible rfl)
                try simp only [Act.put, List.getElem_toArray, List.getElem_cons_zero, List.getElem_cons_succ, List.setIfInBounds_toArray, List.set_cons_zero, List.set_cons_succ]
                refine wpAnyH_take (i := 9) (v := ?_) rfl (by kernel_rfl) (by kernel_rfl) (by kernel_rfl) (fun _ _ _ h => h) (Or.inl ⟨by rfl, ?_⟩) hHeld ?_
                rotate_left 1
                · (intro w hSw; have q1 := hSw; (try dsimp only at hSw); go_simp; try with_reducible rfl)
                try simp only [Act.put, List.getElem_toArray, List.getElem_cons_zero, List.getElem_cons_succ, List.setIfInBounds_toArray, List.set_cons_zero, List.set_cons_succ]
                refine wpAnyH_ready (rs := [11]) (by kernel_rfl) (by simp) (AllReadyH.cons rfl (fun K hK => ?_) AllReadyH.nil)
                clear hHeld
                have hcR := HC5.out.cell
                have hzR := HC5.out.frozen
                go_simp
                have HE : Hid (VaR w8 r xb (WR z5 xb (I r.dst) (I r.code) (.slice xna xnn xnc) (.slice xta xtn xtc) (.slice xba xbn xbc) (.slice xda xdn xdc) (.slice xea xen xec)) ∧ Blk (WR z5 xb (I r.dst) (I r.code) (.slice xna xnn xnc) (.slice xta xtn xtc) (.slice xba xbn xbc) (.slice xda xdn xdc) (.slice xea xen xec)) bx 25 [I 0, I k, .slice p l.length cap]) := by
                  obtain ⟨q1, q2, q3, q4⟩ := wr_set (I r.dst) (I r.code) (.slice xna xnn xnc) (.slice xta xtn xtc) (.slice xba xbn xbc) (.slice xda xdn xdc) (.slice xea xen xec) HB5.out (by decide) HC5.out (HA5.out.2.trans (HGz4.out.trans HGz5.out)) (Nat.le_of_eq HXB.out.symm)
                  exact ⟨⟨xna, xnn, xnc, xta, xtn, xtc, xba, xbn, xbc, xda, xdn, xdc, xea, xen, xec, q2, dQ.keep (X := [41]) (Kx.one q4 HC5.out (by simp)) (by decide) HV.out, q3, (Nat.le_of_eq HXB.out.symm)⟩, q1⟩
                clear hcR hzR
                show K _ (WR z5 xb (I r.dst) (I r.code) (.slice xna xnn xnc) (.slice xta xtn xtc) (.slice xba xbn xbc) (.slice xda xdn xdc) (.slice xea xen xec))
                generalize (WR z5 xb (I r.dst) (I r.code) (.slice xna xnn xnc) (.slice xta xtn xtc) (.slice xba xbn xbc) (.slice xda xdn xdc) (.slice xea xen xec)) = w9 at HE ⊢
                refine hK.out _ _ (HE.out.2.cell) (fun hHeld => ?_)
                clear hK K
                try simp only [Act.put, List.getElem_toArray, List.getElem_cons_zero, List.getElem_cons_succ, List.setIfInBounds_toArray, List.set_cons_zero, List.set_cons_succ]
                refine wpAnyH_take (i := 12) (v := ?_) rfl (by kernel_rfl) (by kernel_rfl) (by kernel_rfl) (fun _ _ _ h => h) (Or.inl ⟨by rfl, ?_⟩) hHeld ?_
                rotate_left 1
                · (intro w hSw; have q1 := hSw; (try dsimp only at hSw); go_simp; try with_reducible rfl)
                try simp only [Act.put, List.getElem_toArray, List.getElem_cons_zero, List.getElem_cons_succ, List.setIfInBounds_toArray, List.set_cons_zero, List.set_cons_succ]
                refine wpAnyH_done (by kernel_rfl) ?_ _
                refine NoPanic.normal ?_
                clear hHeld
                go_wp2_with fail
                go_meet
                case rel => exact ⟨xb, rfl, rfl, HE.out.1, HE.out.2⟩
            case rest =>
              obtain ⟨xb, rfl, rfl, hva, hbx⟩ := hcut
              have HVA := hide hva
              clear hva hbx KC KG
              have hcr : cr = 162 := by
                rw [HRC.out.2]
                unfold grC
                rw [if_neg (by simp), if_pos (by have := HAG.out.1; omega)]
              subst hcr
              have HF : Hid (G W wc) := by obtain ⟨_, _, _, _, _, _, _, _, _, _, _, _, _, _, _, _, _, g, _⟩ := HVA.out; exact HGW.out.trans g
              clear HVA
              go_wp2_with fail
              go_ret
              exact ⟨rfl, HF.out⟩
          · have d1 : (cq == 0) = false := beq_eq_false_iff_ne.2 ha
            have d3 : (cq != 0) = true := bne_iff_ne.2 ha
            have HB0 := hide hbx
            have HGW := hide (HG05.out.trans hgX)
            have HG5W := hide hgX
            clear hbX hvX hgX hbx ha
            have KC : Hid (∀ w, G wc w → Calls Tryz.prog 8 #[.slice p l.length cap] w fun e W' => ∃ v', e = .returned v' ∧ SwB W' v' l ∧ G w W' ∧ Fresh w v') := fun w g => copy_any l _ w ((HR.out.G HGW.out).G g) HBY.out.2
            obtain ⟨r, cr, HRW, HRC, KG⟩ : ∃ r cr, Hid (RpW r ∧ RpG r) ∧ Hid (r = grQ 0 k l ∧ cr = grC 0 k l) ∧ Hid (∀ w v, Rb w v l → G wc w → Calls Tryz.prog 12 #[.agg #[I 0, I k, v]] w fun e w' => ∃ v', e = .returned (.tuple #[v', I cr]) ∧ RpF v' ∧ dQ.r w' (parts v') r ∧ G w w') :=
              ⟨grQ 0 k l, grC 0 k l, grQ_w 0 k l, ⟨rfl, rfl⟩, fun w v hv g => getr_any 0 k l v w hv HBY.out.1 (HTT.out.2.G (HGW.out.trans g)) HKN.out⟩
            go_upto_region 16 with fail
            go_cut [15, 16] from 78 to 112 (fun v1 v2 W => ∃ xb, v1 = ptr xb ∧ v2 = I cr ∧ VaR wc r xb W ∧ Blk W bx 25 [I 0, I k, .slice p l.length cap])
            case first =>
              refine wp_region_noPanic ?_
              refine wp_region_held_drew (S := (fun V => ∀ o, V.cell? ⟨bx, o, none⟩ = ([I 0, I k, .slice p l.length cap] : List Value)[o]?)) (by kernel_rfl) (HB0.out.drew.cell) (fun hHeld => ?_)
              refine wpAnyH_take (i := 0) (v := ?_) rfl (by kernel_rfl) (by kernel_rfl) (by kernel_rfl) (fun _ _ _ h => h) (Or.inl ⟨by rfl, ?_⟩) hHeld ?_
              rotate_left 1
              · (intro w hSw; have q1 := hSw; (try dsimp only at hSw); go_simp; try with_reducible rfl)
              try simp only [Act.put, List.getElem_toArray, List.getElem_cons_zero, List.setIfInBounds_toArray, List.set_cons_zero, List.set_cons_succ]
              refine wpAnyH_take (i := 1) (v := ?_) rfl (by kernel_rfl) (by kernel_rfl) (by kernel_rfl) (fun _ _ _ h => h) (Or.inl ⟨by rfl, ?_⟩) hHeld ?_
              rotate_left 1
              · (intro w hSw; have q1 := hSw; (try dsimp only at hSw); go_simp; try with_reducible rfl)
              try simp only [Act.put, List.getElem_toArray, List.getElem_cons_zero, List.getElem_cons_succ, List.setIfInBounds_toArray, List.set_cons_zero, List.set_cons_succ]
              refine wpAnyH_take (i := 2) (v := ?_) rfl (by kernel_rfl) (by kernel_rfl) (by kernel_rfl) (fun _ _ _ h => h) (Or.inl ⟨by rfl, ?_⟩) hHeld ?_
              rotate_left 1
              · (intro w hSw; have q1 := hSw; (try dsimp only at hSw); go_simp; try with_reducible rfl)
              try simp only [Act.put, List.getElem_toArray, List.getElem_cons_zero, List.getElem_cons_succ, List.setIfInBounds_toArray, List.set_cons_zero, List.set_cons_succ]
              refine wpAnyH_take (i := 3) (v := ?_) rfl (by kernel_rfl) (by kernel_rfl) (by kernel_rfl) (fun _ _ _ h => h) (Or.inl ⟨by rfl, ?_⟩) hHeld ?_
              rotate_left 1
              · (intro w hSw; have q1 := hSw; (try dsimp only at hSw); go_simp; try with_reducible rfl)
              try simp only [Act.put, List.getElem_toArray, List.getElem_cons_zero, List.getElem_cons_succ, List.setIfInBounds_toArray, List.set_cons_zero, List.set_cons_succ]
              refine wpAnyH_ready (rs := [4, 10]) (by kernel_rfl) (by simp) (AllReadyH.cons rfl (fun K hK => ?_) (AllReadyH.cons rfl (fun K hK => ?_) AllReadyH.nil))
              · -- the copy first
                clear hHeld
                go_simp
                refine (KC.out wc.drew (G.refl wc).drew).mono ?_
                rintro e z3 ⟨vz3, rfl, hsz3, hgz3, -⟩
                obtain ⟨az3, cz3, hvz3⟩ := hsz3.form
                subst hvz3
                have HSz3 := hide hsz3
                have HGz3 := hide hgz3
                clear hsz3 hgz3
                have HB3 := hide (HB0.out.drew.G HGz3.out)
                refine hK.out _ _ (HB3.out.cell) (fun hHeld => ?_)
                clear hK K
                try simp only [Act.put, List.getElem_toArray, List.getElem_cons_zero, List.getElem_cons_succ, List.setIfInBounds_toArray, List.set_cons_zero, List.set_cons_succ]
                refine wpAnyH_take (i := 5) (v := ?_) rfl (by kernel_rfl) (by kernel_rfl) (by kernel_rfl) (fun _ _ _ h => h) (Or.inl ⟨by rfl, ?_⟩) hHeld ?_
                rotate_left 1
                · (intro w hSw; have q1 := hSw; (try dsimp only at hSw); go_simp; try with_reducible rfl)
                try simp only [Act.put, List.getElem_toArray, List.getElem_cons_zero, List.getElem_cons_succ, List.setIfInBounds_toArray, List.set_cons_zero, List.set_cons_succ]
                refine wpAnyH_ready (rs := [6, 10]) (by kernel_rfl) (by simp) (AllReadyH.cons rfl (fun K hK => ?_) (AllReadyH.cons rfl (fun K hK => ?_) AllReadyH.nil))
                · -- the call, then the variable
                  clear hHeld
                  go_simp
                  refine (KG.out z3 _ HSz3.out.toRow (((G.refl wc).drew).trans HGz3.out)).mono ?_
                  rintro e z4 ⟨vz4, rfl, hFz4, hvz4, hgz4⟩
                  obtain ⟨xna, xnn, xnc, xta, xtn, xtc, xba, xbn, xbc, xda, xdn, xdc, xea, xen, xec, ev, hdz4⟩ := rp_form9 hFz4 hvz4
                  subst ev
                  have HV := hide hdz4
                  have HGz4 := hide hgz4
                  clear hFz4 hvz4 hdz4 hgz4
                  have HB4 := hide (HB3.out.G HGz4.out)
                  refine hK.out _ _ (HB4.out.cell) (fun hHeld => ?_)
                  clear hK K
                  try simp only [Act.put, List.getElem_toArray, List.getElem_cons_zero, List.getElem_cons_succ, List.setIfInBounds_toArray, List.set_cons_zero, List.set_cons_succ]
                  refine wpAnyH_take (i := 7) (v := ?_) rfl (by kernel_rfl) (by kernel_rfl) (by kernel_rfl) (fun _ _ _ h => h) (Or.inl ⟨by rfl, ?_⟩) hHeld ?_
                  rotate_left 1
                  · (intro w hSw; have q1 := hSw; (try dsimp only at hSw); go_simp; try with_reducible rfl)
                  try simp only [Act.put, List.getElem_toArray, List.getElem_cons_zero, List.getElem_cons_succ, List.setIfInBounds_toArray, List.set_cons_zero, List.set_cons_succ]
                  refine wpAnyH_take (i := 8) (v := ?_) rfl (by kernel_rfl) (by kernel_rfl) (by kernel_rfl) (fun _ _ _ h => h) (Or.inl ⟨by rfl, ?_⟩) hHeld ?_
                  rotate_left 1
                  · (intro w hSw; have q1 := hSw; (try dsimp only at hSw); go_simp; try with_reducible rfl)
                  try simp only [Act.put, List.getElem_toArray, List.getElem_cons_zero, List.getElem_cons_succ, List.setIfInBounds_toArray, List.set_cons_zero, List.set_cons_succ]
                  refine wpAnyH_take (i := 9) (v := ?_) rfl (by kernel_rfl) (by kernel_rfl) (by kernel_rfl) (fun _ _ _ h => h) (Or.inl ⟨by rfl, ?_⟩) hHeld ?_
                  rotate_left 1
                  · (intro w hSw; have q1 := hSw; (try dsimp only at hSw); go_simp; try with_reducible rfl)
                  try simp only [Act.put, List.getElem_toArray, List.getElem_cons_zero, List.getElem_cons_succ, List.setIfInBounds_toArray, List.set_cons_zero, List.set_cons_succ]
                  refine wpAnyH_ready (rs := [10]) (by kernel_rfl) (by simp) (AllReadyH.cons rfl (fun K hK => ?_) AllReadyH.nil)
                  clear hHeld
                  go_simp
                  obtain ⟨z5, hwz5⟩ : ∃ z5, z5 = z4.alloc (.cells #[I 0, I 0, .slice none 0 0, .slice none 0 0, .slice none 0 0, .slice none 0 0, .slice none 0 0] 41) := ⟨_, rfl⟩
                  rw [← hwz5]
                  obtain ⟨xb, hxb⟩ : ∃ xb, xb = z4.heap.size := ⟨_, rfl⟩
                  have HA5 : Hid (Blk z5 xb 41 [I 0, I 0, .slice none 0 0, .slice none 0 0, .slice none 0 0, .slice none 0 0, .slice none 0 0] ∧ G z4 z5) := by rw [hwz5, hxb]; exact ⟨Blk.new z4 [I 0, I 0, .slice none 0 0, .slice none 0 0, .slice none 0 0, .slice none 0 0, .slice none 0 0] 41, (G.refl z4).alloc _⟩
                  have HXB := hide hxb
                  rw [← hxb]
                  clear hwz5 hxb
                  have HB5 := hide (HB4.out.G HA5.out.2)
                  refine hK.out _ _ (HB5.out.cell) (fun hHeld => ?_)
                  clear hK K
                  try simp only [Act.put, List.getElem_toArray, List.getElem_cons_zero, List.getElem_cons_succ, List.setIfInBounds_toArray, List.set_cons_zero, List.set_cons_succ]
                  refine wpAnyH_ready (rs := [11]) (by kernel_rfl) (by simp) (AllReadyH.cons rfl (fun K hK => ?_) AllReadyH.nil)
                  clear hHeld
                  have hcR := HA5.out.1.cell
                  have hzR := HA5.out.1.frozen
                  go_simp
                  have HE : Hid (VaR wc r xb (WR z5 xb (I r.dst) (I r.code) (.slice xna xnn xnc) (.slice xta xtn xtc) (.slice xba xbn xbc) (.slice xda xdn xdc) (.slice xea xen xec)) ∧ Blk (WR z5 xb (I r.dst) (I r.code) (.slice xna xnn xnc) (.slice xta xtn xtc) (.slice xba xbn xbc) (.slice xda xdn xdc) (.slice xea xen xec)) bx 25 [I 0, I k, .slice p l.length cap]) := by
                    obtain ⟨q1, q2, q3, q4⟩ := wr_set (I r.dst) (I r.code) (.slice xna xnn xnc) (.slice xta xtn xtc) (.slice xba xbn xbc) (.slice xda xdn xdc) (.slice xea xen xec) HB5.out (by decide) HA5.out.1 ((((G.refl wc).drew).trans HGz3.out).trans (HGz4.out.trans HA5.out.2)) (by rw [HXB.out]; exact Nat.le_trans (((G.refl wc).drew).trans HGz3.out).size HGz4.out.size)
                    exact ⟨⟨xna, xnn, xnc, xta, xtn, xtc, xba, xbn, xbc, xda, xdn, xdc, xea, xen, xec, q2, dQ.keep (X := [41]) ((Kx.of_G HA5.out.2).trans (Kx.one q4 HA5.out.1 (by simp))) (by decide) HV.out, q3, (by rw [HXB.out]; exact Nat.le_trans (((G.refl wc).drew).trans HGz3.out).size HGz4.out.size)⟩, q1⟩
                  clear hcR hzR
                  show K _ (WR z5 xb (I r.dst) (I r.code) (.slice xna xnn xnc) (.slice xta xtn xtc) (.slice xba xbn xbc) (.slice xda xdn xdc) (.slice xea xen xec))
                  generalize (WR z5 xb (I r.dst) (I r.code) (.slice xna xnn xnc) (.slice xta xtn xtc) (.slice xba xbn xbc) (.slice xda xdn xdc) (.slice xea xen xec)) = w9 at HE ⊢
                  refine hK.out _ _ (HE.out.2.cell) (fun hHeld => ?_)
                  clear hK K
                  try simp only [Act.put, List.getElem_toArray, List.getElem_cons_zero, List.getElem_cons_succ, List.setIfInBounds_toArray, List.set_cons_zero, List.set_cons_succ]
                  refine wpAnyH_take (i := 12) (v := ?_) rfl (by kernel_rfl) (by kernel_rfl) (by kernel_rfl) (fun _ _ _ h => h) (Or.inl ⟨by rfl, ?_⟩) hHeld ?_
                  rotate_left 1
                  · (intro w hSw; have q1 := hSw; (try dsimp only at hSw); go_simp; try with_reducible rfl)
                  try simp only [Act.put, List.getElem_toArray, List.getElem_cons_zero, List.getElem_cons_succ, List.setIfInBounds_toArray, List.set_cons_zero, List.set_cons_succ]
                  refine wpAnyH_done (by kernel_rfl) ?_ _
                  refine NoPanic.normal ?_
                  clear hHeld
                  go_wp2_with fail
                  go_meet
                  case rel => exact ⟨xb, rfl, rfl, HE.out.1, HE.out.2⟩
                · -- the variable, then the call
                  clear hHeld
                  go_simp
                  obtain ⟨z4, hwz4⟩ : ∃ z4, z4 = z3.alloc (.cells #[I 0, I 0, .slice none 0 0, .slice none 0 0, .slice none 0 0, .slice none 0 0, .slice none 0 0] 41) := ⟨_, rfl⟩
                  rw [← hwz4]
                  obtain ⟨xb, hxb⟩ : ∃ xb, xb = z3.heap.size := ⟨_, rfl⟩
                  have HA5 : Hid (Blk z4 xb 41 [I 0, I 0, .slice none 0 0, .slice none 0 0, .slice none 0 0, .slice none 0 0, .slice none 0 0] ∧ G z3 z4) := by rw [hwz4, hxb]; exact ⟨Blk.new z3 [I 0, I 0, .slice none 0 0, .slice none 0 0, .slice none 0 0, .slice none 0 0, .slice none 0 0] 41, (G.refl z3).alloc _⟩
                  have HXB := hide hxb
                  rw [← hxb]
                  clear hwz4 hxb
                  have HB4 := hide (HB3.out.G HA5.out.2)
                  refine hK.out _ _ (HB4.out.cell) (fun hHeld => ?_)
                  clear hK K
                  try simp only [Act.put, List.getElem_toArray, List.getElem_cons_zero, List.getElem_cons_succ, List.setIfInBounds_toArray, List.set_cons_zero, List.set_cons_succ]
                  refine wpAnyH_ready (rs := [6]) (by kernel_rfl) (by simp) (AllReadyH.cons rfl (fun K hK => ?_) AllReadyH.nil)
                  clear hHeld
                  go_simp
                  refine (KG.out z4 _ (HSz3.out.G HA5.out.2).toRow ((((G.refl wc).drew).trans HGz3.out).trans HA5.out.2)).mono ?_
                  rintro e z5 ⟨vz5, rfl, hFz5, hvz5, hgz5⟩
                  obtain ⟨xna, xnn, xnc, xta, xtn, xtc, xba, xbn, xbc, xda, xdn, xdc, xea, xen, xec, ev, hdz5⟩ := rp_form9 hFz5 hvz5
                  subst ev
                  have HV := hide hdz5
                  have HGz5 := hide hgz5
                  clear hFz5 hvz5 hdz5 hgz5
                  have HB5 := hide (HB4.out.G HGz5.out)
                  have HC5 := hide (HA5.out.1.G HGz5.out)
                  refine hK.out _ _ (HB5.out.cell) (fun hHeld => ?_)
                  clear hK K
                  try simp only [Act.put, List.getElem_toArray, List.getElem_cons_zero, List.getElem_cons_succ, List.setIfInBounds_toArray, List.set_cons_zero, List.set_cons_succ]
                  refine wpAnyH_take (i := 7) (v := ?_) rfl (by kernel_rfl) (by kernel_rfl) (by kernel_rfl) (fun _ _ _ h => h) (Or.inl ⟨by rfl, ?_⟩) hHeld ?_
                  rotate_left 1
                  · (intro w hSw; have q1 := hSw; (try dsimp only at hSw); go_simp; try with_reducible rfl)
                  try simp only [Act.put, List.getElem_toArray, List.getElem_cons_zero, List.getElem_cons_succ, List.setIfInBounds_toArray, List.set_cons_zero, List.set_cons_succ]
                  refine wpAnyH_take (i := 8) (v := ?_) rfl (by kernel_rfl) (by kernel_rfl) (by kernel_rfl) (fun _ _ _ h => h) (Or.inl ⟨by rfl, ?_⟩) hHeld ?_
                  rotate_left 1
                  · (intro w hSw; have q1 := hSw; (try dsimp only at hSw); go_simp; try with_reducible rfl)
                  try simp only [Act.put, List.getElem_toArray, List.getElem_cons_zero, List.getElem_cons_succ, List.setIfInBounds_toArray, List.set_cons_zero, List.set_cons_succ]
                  refine wpAnyH_take (i := 9) (v := ?_) rfl (by kernel_rfl) (by kernel_rfl) (by kernel_rfl) (fun _ _ _ h => h) (Or.inl ⟨by rfl, ?_⟩) hHeld ?_
                  rotate_left 1
                  · (intro w hSw; have q1 := hSw; (try dsimp only at hSw); go_simp; try with_reducible rfl)
                  try simp only [Act.put, List.getElem_toArray, List.getElem_cons_zero, List.getElem_cons_succ, List.setIfInBounds_toArray, List.set_cons_zero, List.set_cons_succ]
                  refine wpAnyH_ready (rs := [11]) (by kernel_rfl) (by simp) (AllReadyH.cons rfl (fun K hK => ?_) AllReadyH.nil)
                  clear hHeld
                  have hcR := HC5.out.cell
                  have hzR := HC5.out.frozen
                  go_simp
                  have HE : Hid (VaR wc r xb (WR z5 xb (I r.dst) (I r.code) (.slice xna xnn xnc) (.slice xta xtn xtc) (.slice xba xbn xbc) (.slice xda xdn xdc) (.slice xea xen xec)) ∧ Blk (WR z5 xb (I r.dst) (I r.code) (.slice xna xnn xnc) (.slice xta xtn xtc) (.slice xba xbn xbc) (.slice xda xdn xdc) (.slice xea xen xec)) bx 25 [I 0, I k, .slice p l.length cap]) := by
                    obtain ⟨q1, q2, q3, q4⟩ := wr_set (I r.dst) (I r.code) (.slice xna xnn xnc) (.slice xta xtn xtc) (.slice xba xbn xbc) (.slice xda xdn xdc) (.slice xea xen xec) HB5.out (by decide) HC5.out ((((G.refl wc).drew).trans HGz3.out).trans (HA5.out.2.trans HGz5.out)) (by rw [HXB.out]; exact (((G.refl wc).drew).trans HGz3.out).size)
                    exact ⟨⟨xna, xnn, xnc, xta, xtn, xtc, xba, xbn, xbc, xda, xdn, xdc, xea, xen, xec, q2, dQ.keep (X := [41]) (Kx.one q4 HC5.out (by simp)) (by decide) HV.out, q3, (by rw [HXB.out]; exact (((G.refl wc).drew).trans HGz3.out).size)⟩, q1⟩
                  clear hcR hzR
                  show K _ (WR z5 xb (I r.dst) (I r.code) (.slice xna xnn xnc) (.slice xta xtn xtc) (.slice xba xbn xbc) (.slice xda xdn xdc) (.slice xea xen xec))
                  generalize (WR z5 xb (I r.dst) (I r.code) (.slice xna xnn xnc) (.slice xta xtn xtc) (.slice xba xbn xbc) (.slice xda xdn xdc) (.slice xea xen xec)) = w9 at HE ⊢
                  refine hK.out _ _ (HE.out.2.cell) (fun hHeld => ?_)
                  clear hK K
                  try simp only [Act.put, List.getElem_toArray, List.getElem_cons_zero, List.getElem_cons_succ, List.setIfInBounds_toArray, List.set_cons_zero, List.set_cons_succ]
                  refine wpAnyH_take (i := 12) (v := ?_) rfl (by kernel_rfl) (by kernel_rfl) (by kernel_rfl) (fun _ _ _ h => h) (Or.inl ⟨by rfl, ?_⟩) hHeld ?_
                  rotate_left 1
                  · (intro w hSw; have q1 := hSw; (try dsimp only at hSw); go_simp; try with_reducible rfl)
                  try simp only [Act.put, List.getElem_toArray, List.getElem_cons_zero, List.getElem_cons_succ, List.setIfInBounds_toArray, List.set_cons_zero, List.set_cons_succ]
                  refine wpAnyH_done (by kernel_rfl) ?_ _
                  refine NoPanic.normal ?_
                  clear hHeld
                  go_wp2_with fail
                  go_meet
                  case rel => exact ⟨xb, rfl, rfl, HE.out.1, HE.out.2⟩
              · -- the variable first
                clear hHeld
                go_simp
                obtain ⟨z3, hz3⟩ : ∃ z3, z3 = (wc.alloc (.cells #[I 0, I 0, .slice none 0 0, .slice none 0 0, .slice none 0 0, .slice none 0 0, .slice none 0 0] 41)).drew := ⟨_, rfl⟩
                rw [← hz3]
                obtain ⟨xb, hxb⟩ : ∃ xb, xb = wc.heap.size := ⟨_, rfl⟩
                have HA5 : Hid (Blk z3 xb 41 [I 0, I 0, .slice none 0 0, .slice none 0 0, .slice none 0 0, .slice none 0 0, .slice none 0 0] ∧ G wc z3) := by rw [hz3, hxb]; exact ⟨(Blk.new wc [I 0, I 0, .slice none 0 0, .slice none 0 0, .slice none 0 0, .slice none 0 0, .slice none 0 0] 41).drew, ((G.refl wc).alloc _).drew⟩
                have HXB := hide hxb
                try rw [show wc.drew.heap.size = xb from hxb.symm]
                try rw [← hxb]
                clear hz3 hxb
                have HB3 := hide (HB0.out.G HA5.out.2)
                refine hK.out _ _ (HB3.out.cell) (fun hHeld => ?_)
                clear hK K
                try simp only [Act.put, List.getElem_toArray, List.getElem_cons_zero, List.getElem_cons_succ, List.setIfInBounds_toArray, List.set_cons_zero, List.set_cons_succ]
                refine wpAnyH_ready (rs := [4]) (by kernel_rfl) (by simp) (AllReadyH.cons rfl (fun K hK => ?_) AllReadyH.nil)
                clear hHeld
                go_simp
                refine (KC.out z3 HA5.out.2).mono ?_
                rintro e z4 ⟨vz4, rfl, hsz4, hgz4, -⟩
                obtain ⟨az4, cz4, hvz4⟩ := hsz4.form
                subst hvz4
                have HSz4 := hide hsz4
                have HGz4 := hide hgz4
                clear hsz4 hgz4
                have HB4 := hide (HB3.out.G HGz4.out)
                refine hK.out _ _ (HB4.out.cell) (fun hHeld => ?_)
                clear hK K
                try simp only [Act.put, List.getElem_toArray, List.getElem_cons_zero, List.getElem_cons_succ, List.setIfInBounds_toArray, List.set_cons_zero, List.set_cons_succ]
                refine wpAnyH_take (i := 5) (v := ?_) rfl (by kernel_rfl) (by kernel_rfl) (by kernel_rfl) (fun _ _ _ h => h) (Or.inl ⟨by rfl, ?_⟩) hHeld ?_
                rotate_left 1
                · (intro w hSw; have q1 := hSw; (try dsimp only at hSw); go_simp; try with_reducible rfl)
                try simp only [Act.put, List.getElem_toArray, List.getElem_cons_zero, List.getElem_cons_succ, List.setIfInBounds_toArray, List.set_cons_zero, List.set_cons_succ]
                refine wpAnyH_ready (rs := [6]) (by kernel_rfl) (by simp) (AllReadyH.cons rfl (fun K hK => ?_) AllReadyH.nil)
                clear hHeld
                go_simp
                refine (KG.out z4 _ HSz4.out.toRow (HA5.out.2.trans HGz4.out)).mono ?_
                rintro e z5 ⟨vz5, rfl, hFz5, hvz5, hgz5⟩
                obtain ⟨xna, xnn, xnc, xta, xtn, xtc, xba, xbn, xbc, xda, xdn, xdc, xea, xen, xec, ev, hdz5⟩ := rp_form9 hFz5 hvz5
                subst ev
                have HV := hide hdz5
                have HGz5 := hide hgz5
                clear hFz5 hvz5 hdz5 hgz5
                have HB5 := hide (HB4.out.G HGz5.out)
                have HC5 := hide ((HA5.out.1.G HGz4.out).G HGz5.out)
                refine hK.out _ _ (HB5.out.cell) (fun hHeld => ?_)
                clear hK K
                try simp only [Act.put, List.getElem_toArray, List.getElem_cons_zero, List.getElem_cons_succ, List.setIfInBounds_toArray, List.set_cons_zero, List.set_cons_succ]
                refine wpAnyH_take (i := 7) (v := ?_) rfl (by kernel_rfl) (by kernel_rfl) (by kernel_rfl) (fun _ _ _ h => h) (Or.inl ⟨by rfl, ?_⟩) hHeld ?_
                rotate_left 1
                · (intro w hSw; have q1 := hSw; (try dsimp only at hSw); go_simp; try with_reducible rfl)
                try simp only [Act.put, List.getElem_toArray, List.getElem_cons_zero, List.getElem_cons_succ, List.setIfInBounds_toArray, List.set_cons_zero, List.set_cons_succ]
                refine wpAnyH_take (i := 8) (v := ?_) rfl (by kernel_rfl) (by kernel_rfl) (by kernel_rfl) (fun _ _ _ h => h) (Or.inl ⟨by rfl, ?_⟩) hHeld ?_
                rotate_left 1
                · (intro w hSw; have q1 := hSw; (try dsimp only at hSw); go_simp; try with_reducible rfl)
                try simp only [Act.put, List.getElem_toArray, List.getElem_cons_zero, List.getElem_cons_succ, List.setIfInBounds_toArray, List.set_cons_zero, List.set_cons_succ]
                refine wpAnyH_take (i := 9) (v := ?_) rfl (by kernel_rfl) (by kernel_rfl) (by kernel_rfl) (fun _ _ _ h => h) (Or.inl ⟨by rfl, ?_⟩) hHeld ?_
                rotate_left 1
                · (intro w hSw; have q1 := hSw; (try dsimp only at hSw); go_simp; try with_reducible rfl)
                try simp only [Act.put, List.getElem_toArray, List.getElem_cons_zero, List.getElem_cons_succ, List.setIfInBounds_toArray, List.set_cons_zero, List.set_cons_succ]
                refine wpAnyH_ready (rs := [11]) (by kernel_rfl) (by simp) (AllReadyH.cons rfl (fun K hK => ?_) AllReadyH.nil)
                clear hHeld
                have hcR := HC5.out.cell
                have hzR := HC5.out.frozen
                go_simp
                have HE : Hid (VaR wc r xb (WR z5 xb (I r.dst) (I r.code) (.slice xna xnn xnc) (.slice xta xtn xtc) (.slice xba xbn xbc) (.slice xda xdn xdc) (.slice xea xen xec)) ∧ Blk (WR z5 xb (I r.dst) (I r.code) (.slice xna xnn xnc) (.slice xta xtn xtc) (.slice xba xbn xbc) (.slice xda xdn xdc) (.slice xea xen xec)) bx 25 [I 0, I k, .slice p l.length cap]) := by
                  obtain ⟨q1, q2, q3, q4⟩ := wr_set (I r.dst) (I r.code) (.slice xna xnn xnc) (.slice xta xtn xtc) (.slice xba xbn xbc) (.slice xda xdn xdc) (.slice xea xen xec) HB5.out (by decide) HC5.out (HA5.out.2.trans (HGz4.out.trans HGz5.out)) (Nat.le_of_eq HXB.out.symm)
                  exact ⟨⟨xna, xnn, xnc, xta, xtn, xtc, xba, xbn, xbc, xda, xdn, xdc, xea, xen, xec, q2, dQ.keep (X := [41]) (Kx.one q4 HC5.out (by simp)) (by decide) HV.out, q3, (Nat.le_of_eq HXB.out.symm)⟩, q1⟩
                clear hcR hzR
                show K _ (WR z5 xb (I r.dst) (I r.code) (.slice xna xnn xnc) (.slice xta xtn xtc) (.slice xba xbn xbc) (.slice xda xdn xdc) (.slice xea xen xec))
                generalize (WR z5 xb (I r.dst) (I r.code) (.slice xna xnn xnc) (.slice xta xtn xtc) (.slice xba xbn xbc) (.slice xda xdn xdc) (.slice xea xen xec)) = w9 at HE ⊢
                refine hK.out _ _ (HE.out.2.cell) (fun hHeld => ?_)
                clear hK K
                try simp only [Act.put, List.getElem_toArray, List.getElem_cons_zero, List.getElem_cons_succ, List.setIfInBounds_toArray, List.set_cons_zero, List.set_cons_succ]
                refine wpAnyH_take (i := 12) (v := ?_) rfl (by kernel_rfl) (by kernel_rfl) (by kernel_rfl) (fun _ _ _ h => h) (Or.inl ⟨by rfl, ?_⟩) hHeld ?_
                rotate_left 1
                · (intro w hSw; have q1 := hSw; (try dsimp only at hSw); go_simp; try with_reducible rfl)
                try simp only [Act.put, List.getElem_toArray, List.getElem_cons_zero, List.getElem_cons_succ, List.setIfInBounds_toArray, List.set_cons_zero, List.set_cons_succ]
                refine wpAnyH_done (by kernel_rfl) ?_ _
                refine NoPanic.normal ?_
                clear hHeld
                go_wp2_with fail
                go_meet
                case rel => exact ⟨xb, rfl, rfl, HE.out.1, HE.out.2⟩
            case rest =>
              obtain ⟨xb, rfl, rfl, hva, hbx⟩ := hcut
              have HVA := hide hva
              clear hva hbx KC KG
              obtain ⟨xna, xnn, xnc, xta, xtn, xtc, xba, xbn, xbc, xda, xdn, xdc, xea, xen, xec, hbX, hdX, hgX, _⟩ := HVA.out
              clear HVA
              by_cases hcr : cr = 0
              · subst hcr
                have hta := told_again HBY.out.1 (k := k) (HRC.out.2.symm)
                have hcode : r.code9 = 0 := by rw [HRC.out.1]; exact hta.2.2.1
                have hfr : r.frame9 = frL k l := by rw [HRC.out.1]; exact hta.2.2.2
                have KP := hide (putr_any wc r _ _ _ _ _ (HRW.out.2.lists hdX) HRW.out.1 (HTT.out.2.G (HGW.out.trans hgX)))
                have hc9 := hbX.cell
                have HGX := hide hgX
                have HCF := hide (And.intro hcode hfr)
                have e0 : frC k l.length = 0 := hta.2.1
                clear hbX hdX hgX hta hcode hfr
                go_wp2_with fail
                refine KP.out.mono ?_
                rintro e w7 ⟨v7, rfl, hs7, hg7, -⟩
                rw [HCF.out.2] at hs7
                rw [HCF.out.1]
                obtain ⟨a7, c7, hv7⟩ := hs7.form
                generalize hfl : (frL k l).length = n7 at hv7
                subst hv7
                have KB := hide (bytes_any (frL k l) _ _ w7 hs7.toRow ((HS5.out.G (HG5W.out.trans (HGX.out))).G hg7).toRow HFL.out)
                have HG7 := hide (HGX.out.trans hg7)
                clear hs7 hg7 KP hc9 hfl
                try rw [e0]
                go_wp2_with fail
                refine KB.out.mono ?_
                rintro e w8 ⟨rfl, hg8⟩
                have HF := hide (HGW.out.trans (HG7.out.trans hg8))
                clear hg8 KB
                go_wp2_with fail
                go_ret
                exact ⟨rfl, HF.out⟩
              · have d2 : (cr == 0) = false := beq_eq_false_iff_ne.2 hcr
                have HF := hide (HGW.out.trans hgX)
                clear hbX hdX hgX hcr
                go_wp2_with fail
                go_ret
                exact ⟨rfl, HF.out⟩
      · have d0 : (c != 0) = true := bne_iff_ne.2 c0
        clear hi hg hB3 kb ht
        go_wp2_with fail
        go_ret
        exact ⟨rfl, HGW3.out⟩
end Go.Proofs.YtcdjjmjhdoanlaaGreatDoor
