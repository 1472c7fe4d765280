/- Wire: what is read is sound. -/
import Derived.Test.YtcdjjmjhdoanlaaGreatDoorW52
import Derived.Test.YtcdjjmjhdoanlaaGreatDoorW26
namespace Go.Proofs.YtcdjjmjhdoanlaaGreatDoor
open Go.RowKit

/-- What a reader of bodies gives. -/
def Pk {α : Type} (p : List Nat → Option (α × List Nat)) (Q : α → Prop) : Prop := ∀ l x r, p l = some (x, r) → l.length ≤ 2097152 → r.length ≤ l.length ∧ Q x
theorem Pk.prep {α : Type} {p : List Nat → Option (α × List Nat)} {Q : α → Prop} (h : Pk p Q) : ∀ n l xs r, prep p n l = some (xs, r) → l.length ≤ 2097152 → r.length ≤ l.length ∧ xs.length = n ∧ ∀ x ∈ xs, Q x
  | 0, l, xs, r, e, _ => by
    rw [Go.Proofs.YtcdjjmjhdoanlaaGreatDoor.prep] at e; cases e; exact ⟨Nat.le_refl _, rfl, fun x h => by cases h⟩
  | n + 1, l, xs, r, e, hl => by
    rw [Go.Proofs.YtcdjjmjhdoanlaaGreatDoor.prep] at e
    cases e1 : p l with
    | none => rw [e1] at e; cases e
    | some y =>
      rw [e1] at e
      obtain ⟨h1, h2⟩ := h l y.1 y.2 e1 hl
      cases e2 : Go.Proofs.YtcdjjmjhdoanlaaGreatDoor.prep p n y.2 with
      | none => simp [e2] at e
      | some z =>
        simp [e2] at e
        obtain ⟨rfl, rfl⟩ := e
        obtain ⟨q1, q2, q3⟩ := Pk.prep h n y.2 z.1 z.2 e2 (by omega)
        refine ⟨by omega, by simp [q2], fun x hx => ?_⟩
        rcases List.mem_cons.1 hx with rfl | hx
        · exact h2
        · exact q3 x hx
theorem pc_len {l r : List Nat} {n : Nat} (h : pc l = some (n, r)) : r.length ≤ l.length := by
  obtain ⟨_, a, e, _⟩ := pcG_lt l true 0 n r h
  rw [e]; simp
theorem pz_len {l r : List Nat} {x : Int} (h : pz l = some (x, r)) : r.length ≤ l.length := by
  unfold pz at h
  cases e : pc l with
  | none => rw [e] at h; cases h
  | some y => rw [e] at h; cases h; exact pc_len e
theorem pt_rest {l r : List Nat} {x : ByteArray} (h : pt l = some (x, r)) : r.length ≤ l.length := by
  unfold pt px at h
  cases e : pc l with
  | none => rw [e] at h; cases h
  | some y =>
    rw [e] at h
    have h : (ptk y.1 y.2).map (fun x => (strOf x.1, x.2)) = some (x, r) := h
    unfold ptk at h
    split at h
    · cases h
      have := pc_len e
      show (y.2.drop y.1).length ≤ _
      rw [List.length_drop]; omega
    · cases h
theorem Pk.pl {α : Type} {p : List Nat → Option (α × List Nat)} {Q : α → Prop} (h : Pk p Q) : Pk (pl p) (fun xs => xs.length ≤ 2097152 ∧ ∀ x ∈ xs, Q x) := fun l xs r e hl => by
  unfold Go.Proofs.YtcdjjmjhdoanlaaGreatDoor.pl at e
  cases e1 : pc l with
  | none => rw [e1] at e; cases e
  | some y =>
    rw [e1] at e
    have e : (if y.2.length < y.1 then none else Go.Proofs.YtcdjjmjhdoanlaaGreatDoor.prep p y.1 y.2) = some (xs, r) := e
    split at e
    · cases e
    · rename_i hlt
      have h1 := pc_len e1
      obtain ⟨q1, q2, q3⟩ := Pk.prep h _ _ _ _ e (by omega)
      exact ⟨by omega, by omega, q3⟩
theorem Pk.bind {α β : Type} {p : List Nat → Option (α × List Nat)} {Q : α → Prop} (h : Pk p Q) {K : α → List Nat → Option (β × List Nat)} {R : β → Prop} (k : ∀ a, Q a → Pk (K a) R) : Pk (fun l => (p l).bind fun y => K y.1 y.2) R := fun l x r e hl => by
  have e : (p l).bind (fun y => K y.1 y.2) = some (x, r) := e
  cases e1 : p l with
  | none => rw [e1] at e; cases e
  | some y =>
    rw [e1] at e
    obtain ⟨h1, h2⟩ := h l y.1 y.2 e1 hl
    obtain ⟨q1, q2⟩ := k y.1 h2 y.2 x r e (by omega)
    exact ⟨by omega, q2⟩
theorem Pk.ret {α : Type} (a : α) {Q : α → Prop} (h : Q a) : Pk (fun l => some (a, l)) Q := fun l x r e _ => by cases e; exact ⟨Nat.le_refl _, h⟩
theorem Pk.p8 : Pk p8 (fun _ => True) := fun l x r e _ => by
  cases l with
  | nil => cases e
  | cons a l => cases e; exact ⟨by simp, trivial⟩
theorem Pk.pz : Pk pz (fun _ => True) := fun _ _ _ e _ => ⟨pz_len e, trivial⟩
theorem Pk.pt : Pk pt (fun t => t.size ≤ 2097152) := fun _ _ _ e hl => ⟨pt_rest e, Nat.le_trans (pt_len e) hl⟩
theorem Pk.chk (k a b : Int) (s : ByteArray) (hs : s.size ≤ 2097152) : Pk (chkV k a b s) (fun v => vOk v = true ∧ v.s.size ≤ 2097152) := fun l x r e _ => by
  unfold chkV at e
  split at e
  · cases e; exact ⟨Nat.le_refl _, by assumption, hs⟩
  · cases e
theorem E0_size : (E0 : ByteArray).size ≤ 2097152 := of_decide_eq_true (by kernel_rfl)
theorem Pk.pvl : Pk pvl (fun v => vOk v = true ∧ v.s.size ≤ 2097152) := by
  refine Pk.bind (K := pvK) Pk.p8 (fun k _ => ?_)
  unfold pvK
  by_cases h1 : k = 1
  · simp only [h1, if_true]
    exact Pk.bind (K := fun z r => chkV 1 z 0 E0 r) Pk.p8 (fun z _ => Pk.chk _ _ _ _ E0_size)
  by_cases h2 : k = 2 ∨ k = 5 ∨ k = 6
  · simp only [if_neg h1, if_pos h2]
    exact Pk.bind (K := fun z r => chkV k z 0 E0 r) Pk.pz (fun z _ => Pk.chk _ _ _ _ E0_size)
  by_cases h3 : k = 3
  · simp only [if_neg h1, if_neg h2, if_pos h3]
    exact Pk.bind (K := fun z r => (Go.Proofs.YtcdjjmjhdoanlaaGreatDoor.pz r).bind fun y => chkV 3 z y.1 E0 y.2) Pk.pz (fun z _ => Pk.bind (K := fun y r => chkV 3 z y E0 r) Pk.pz (fun y _ => Pk.chk _ _ _ _ E0_size))
  by_cases h4 : k = 4
  · simp only [if_neg h1, if_neg h2, if_neg h3, if_pos h4]
    exact Pk.bind (K := fun z r => chkV 4 0 0 z r) Pk.pt (fun z hz => Pk.chk _ _ _ _ hz)
  · simp only [if_neg h1, if_neg h2, if_neg h3, if_neg h4]
    exact Pk.chk _ _ _ _ E0_size
def PsG (l : List Pr) : Prop := l.length ≤ 2097152 ∧ ∀ p ∈ l, vOk p.v = true ∧ p.v.s.size ≤ 2097152
def TbG (t : Tb) : Prop := t.cols.length ≤ 2097152 ∧ t.rows.length ≤ 2097152 ∧ ∀ r ∈ t.rows, r.length ≤ 2097152 ∧ ∀ v ∈ r, vOk v = true ∧ v.s.size ≤ 2097152
structure RpG (q : Rp) : Prop where
  n : q.nums.length ≤ 2097152
  t : q.texts.length ≤ 2097152
  b : q.tables.length ≤ 2097152 ∧ ∀ t ∈ q.tables, TbG t
  d : q.nodes.length ≤ 2097152 ∧ ∀ n ∈ q.nodes, PsG n.ps
  e : q.edges.length ≤ 2097152 ∧ ∀ n ∈ q.edges, PsG n.ps
theorem Pk.ppr : Pk ppr (fun p => vOk p.v = true ∧ p.v.s.size ≤ 2097152) := by
  unfold Go.Proofs.YtcdjjmjhdoanlaaGreatDoor.ppr
  exact Pk.bind (K := fun x r => (Go.Proofs.YtcdjjmjhdoanlaaGreatDoor.pvl r).bind fun y => some ((⟨x, y.1⟩ : Pr), y.2)) Pk.pt (fun x _ => Pk.bind (K := fun y r => some ((⟨x, y⟩ : Pr), r)) Pk.pvl (fun y hy => Pk.ret _ hy))
theorem Pk.pnd : Pk pnd (fun n => PsG n.ps) := by
  unfold Go.Proofs.YtcdjjmjhdoanlaaGreatDoor.pnd
  exact Pk.bind (K := fun x r => (Go.Proofs.YtcdjjmjhdoanlaaGreatDoor.pt r).bind fun y => (Go.Proofs.YtcdjjmjhdoanlaaGreatDoor.pl Go.Proofs.YtcdjjmjhdoanlaaGreatDoor.ppr y.2).bind fun z => some ((⟨x, y.1, z.1⟩ : Nd), z.2)) Pk.pz (fun x _ => Pk.bind (K := fun y r => (Go.Proofs.YtcdjjmjhdoanlaaGreatDoor.pl Go.Proofs.YtcdjjmjhdoanlaaGreatDoor.ppr r).bind fun z => some ((⟨x, y, z.1⟩ : Nd), z.2)) Pk.pt (fun y _ => Pk.bind (K := fun z r => some ((⟨x, y, z⟩ : Nd), r)) (Pk.pl Pk.ppr) (fun z hz => Pk.ret _ hz)))
theorem Pk.ped : Pk ped (fun n => PsG n.ps) := by
  unfold Go.Proofs.YtcdjjmjhdoanlaaGreatDoor.ped
  exact Pk.bind (K := fun x r => (Go.Proofs.YtcdjjmjhdoanlaaGreatDoor.pt r).bind fun y => (Go.Proofs.YtcdjjmjhdoanlaaGreatDoor.pz y.2).bind fun f => (Go.Proofs.YtcdjjmjhdoanlaaGreatDoor.pz f.2).bind fun t => (Go.Proofs.YtcdjjmjhdoanlaaGreatDoor.pl Go.Proofs.YtcdjjmjhdoanlaaGreatDoor.ppr t.2).bind fun z => some ((⟨x, y.1, f.1, t.1, z.1⟩ : Ed), z.2)) Pk.pz (fun x _ => Pk.bind (K := fun y r => (Go.Proofs.YtcdjjmjhdoanlaaGreatDoor.pz r).bind fun f => (Go.Proofs.YtcdjjmjhdoanlaaGreatDoor.pz f.2).bind fun t => (Go.Proofs.YtcdjjmjhdoanlaaGreatDoor.pl Go.Proofs.YtcdjjmjhdoanlaaGreatDoor.ppr t.2).bind fun z => some ((⟨x, y, f.1, t.1, z.1⟩ : Ed), z.2)) Pk.pt (fun y _ => Pk.bind (K := fun f r => (Go.Proofs.YtcdjjmjhdoanlaaGreatDoor.pz r).bind fun t => (Go.Proofs.YtcdjjmjhdoanlaaGreatDoor.pl Go.Proofs.YtcdjjmjhdoanlaaGreatDoor.ppr t.2).bind fun z => some ((⟨x, y, f, t.1, z.1⟩ : Ed), z.2)) Pk.pz (fun f _ => Pk.bind (K := fun t r => (Go.Proofs.YtcdjjmjhdoanlaaGreatDoor.pl Go.Proofs.YtcdjjmjhdoanlaaGreatDoor.ppr r).bind fun z => some ((⟨x, y, f, t, z.1⟩ : Ed), z.2)) Pk.pz (fun t _ => Pk.bind (K := fun z r => some ((⟨x, y, f, t, z⟩ : Ed), r)) (Pk.pl Pk.ppr) (fun z hz => Pk.ret _ hz)))))
theorem Pk.ptb : Pk ptb TbG := by
  unfold Go.Proofs.YtcdjjmjhdoanlaaGreatDoor.ptb
  exact Pk.bind (K := fun x r => (Go.Proofs.YtcdjjmjhdoanlaaGreatDoor.pl (Go.Proofs.YtcdjjmjhdoanlaaGreatDoor.pl Go.Proofs.YtcdjjmjhdoanlaaGreatDoor.pvl) r).bind fun y => (Go.Proofs.YtcdjjmjhdoanlaaGreatDoor.pz y.2).bind fun f => (Go.Proofs.YtcdjjmjhdoanlaaGreatDoor.pz f.2).bind fun t => (Go.Proofs.YtcdjjmjhdoanlaaGreatDoor.pz t.2).bind fun z => some ((⟨x, y.1, f.1, t.1, z.1⟩ : Tb), z.2)) (Pk.pl Pk.pt) (fun x hx => Pk.bind (K := fun y r => (Go.Proofs.YtcdjjmjhdoanlaaGreatDoor.pz r).bind fun f => (Go.Proofs.YtcdjjmjhdoanlaaGreatDoor.pz f.2).bind fun t => (Go.Proofs.YtcdjjmjhdoanlaaGreatDoor.pz t.2).bind fun z => some ((⟨x, y, f.1, t.1, z.1⟩ : Tb), z.2)) (Pk.pl (Pk.pl Pk.pvl)) (fun y hy => Pk.bind (K := fun f r => (Go.Proofs.YtcdjjmjhdoanlaaGreatDoor.pz r).bind fun t => (Go.Proofs.YtcdjjmjhdoanlaaGreatDoor.pz t.2).bind fun z => some ((⟨x, y, f, t.1, z.1⟩ : Tb), z.2)) Pk.pz (fun f _ => Pk.bind (K := fun t r => (Go.Proofs.YtcdjjmjhdoanlaaGreatDoor.pz r).bind fun z => some ((⟨x, y, f, t, z.1⟩ : Tb), z.2)) Pk.pz (fun t _ => Pk.bind (K := fun z r => some ((⟨x, y, f, t, z⟩ : Tb), r)) Pk.pz (fun z _ => Pk.ret _ ⟨hx.1, hy⟩)))))
theorem Pk.prp (k : Int) : Pk (prp k) RpG := by
  unfold Go.Proofs.YtcdjjmjhdoanlaaGreatDoor.prp
  exact Pk.bind (K := fun a r => (Go.Proofs.YtcdjjmjhdoanlaaGreatDoor.pl Go.Proofs.YtcdjjmjhdoanlaaGreatDoor.pz r).bind fun b => (Go.Proofs.YtcdjjmjhdoanlaaGreatDoor.pl Go.Proofs.YtcdjjmjhdoanlaaGreatDoor.pt b.2).bind fun c => (Go.Proofs.YtcdjjmjhdoanlaaGreatDoor.pl Go.Proofs.YtcdjjmjhdoanlaaGreatDoor.ptb c.2).bind fun d => (Go.Proofs.YtcdjjmjhdoanlaaGreatDoor.pl Go.Proofs.YtcdjjmjhdoanlaaGreatDoor.pnd d.2).bind fun e => (Go.Proofs.YtcdjjmjhdoanlaaGreatDoor.pl Go.Proofs.YtcdjjmjhdoanlaaGreatDoor.ped e.2).bind fun f => some ((⟨k, a, b.1, c.1, d.1, e.1, f.1⟩ : Rp), f.2)) Pk.pz (fun a _ => Pk.bind (K := fun b r => (Go.Proofs.YtcdjjmjhdoanlaaGreatDoor.pl Go.Proofs.YtcdjjmjhdoanlaaGreatDoor.pt r).bind fun c => (Go.Proofs.YtcdjjmjhdoanlaaGreatDoor.pl Go.Proofs.YtcdjjmjhdoanlaaGreatDoor.ptb c.2).bind fun d => (Go.Proofs.YtcdjjmjhdoanlaaGreatDoor.pl Go.Proofs.YtcdjjmjhdoanlaaGreatDoor.pnd d.2).bind fun e => (Go.Proofs.YtcdjjmjhdoanlaaGreatDoor.pl Go.Proofs.YtcdjjmjhdoanlaaGreatDoor.ped e.2).bind fun f => some ((⟨k, a, b, c.1, d.1, e.1, f.1⟩ : Rp), f.2)) (Pk.pl Pk.pz) (fun b hb => Pk.bind (K := fun c r => (Go.Proofs.YtcdjjmjhdoanlaaGreatDoor.pl Go.Proofs.YtcdjjmjhdoanlaaGreatDoor.ptb r).bind fun d => (Go.Proofs.YtcdjjmjhdoanlaaGreatDoor.pl Go.Proofs.YtcdjjmjhdoanlaaGreatDoor.pnd d.2).bind fun e => (Go.Proofs.YtcdjjmjhdoanlaaGreatDoor.pl Go.Proofs.YtcdjjmjhdoanlaaGreatDoor.ped e.2).bind fun f => some ((⟨k, a, b, c, d.1, e.1, f.1⟩ : Rp), f.2)) (Pk.pl Pk.pt) (fun c hc => Pk.bind (K := fun d r => (Go.Proofs.YtcdjjmjhdoanlaaGreatDoor.pl Go.Proofs.YtcdjjmjhdoanlaaGreatDoor.pnd r).bind fun e => (Go.Proofs.YtcdjjmjhdoanlaaGreatDoor.pl Go.Proofs.YtcdjjmjhdoanlaaGreatDoor.ped e.2).bind fun f => some ((⟨k, a, b, c, d, e.1, f.1⟩ : Rp), f.2)) (Pk.pl Pk.ptb) (fun d hd => Pk.bind (K := fun e r => (Go.Proofs.YtcdjjmjhdoanlaaGreatDoor.pl Go.Proofs.YtcdjjmjhdoanlaaGreatDoor.ped r).bind fun f => some ((⟨k, a, b, c, d, e, f.1⟩ : Rp), f.2)) (Pk.pl Pk.pnd) (fun e he => Pk.bind (K := fun f r => some ((⟨k, a, b, c, d, e, f⟩ : Rp), r)) (Pk.pl Pk.ped) (fun f hf => Pk.ret _ ⟨hb.1, hc.1, hd, he, hf⟩))))))
theorem RpG.ok {q : Rp} (h : RpG q) : rpOk q = decide (q.nums.length ≤ 4096) := by
  have h1 : q.tables.all tbOk = true := List.all_eq_true.2 fun t ht => List.all_eq_true.2 fun r hr => List.all_eq_true.2 fun v hv => (((h.b.2 t ht).2.2 r hr).2 v hv).1
  have h2 : q.nodes.all (fun n => psOk n.ps) = true := List.all_eq_true.2 fun n hn => List.all_eq_true.2 fun p hp => ((h.d.2 n hn).2 p hp).1
  have h3 : q.edges.all (fun n => psOk n.ps) = true := List.all_eq_true.2 fun n hn => List.all_eq_true.2 fun p hp => ((h.e.2 n hn).2 p hp).1
  unfold rpOk; rw [h1, h2, h3]; simp
theorem RpG.small {q : Rp} (h : RpG q) : RpS q := ⟨fun t ht r hr v hv => Nat.le_trans (((h.b.2 t ht).2.2 r hr).2 v hv).2 (by decide), fun n hn p hp => Nat.le_trans ((h.d.2 n hn).2 p hp).2 (by decide), fun n hn p hp => Nat.le_trans ((h.e.2 n hn).2 p hp).2 (by decide)⟩
theorem RpG.lists {w : World} {q : Rp} (h : RpG q) {i0 i1 a b c d e : Value} (hv : dQ.r w [i0, i1, a, b, c, d, e] q) : RpL w a b c d e q := by
  obtain ⟨a', b', c', d', e', h0, h1, h2, h3, h4, h5⟩ := hv
  simp only [List.cons.injEq, and_true] at h0
  obtain ⟨_, _, rfl, rfl, rfl, rfl, rfl⟩ := h0
  have hB : (2097152 : Nat) ≤ 140737488355328 := by decide
  have hP : ∀ {w : World} {v : Value} {l : List Pr}, NRow dP 156 w v l → Row ePr.rel w v l := fun h => h.toRow rfl (fun cs x _ h => h)
  refine ⟨h1.toRow, h2.toRow, h3.toRow rfl (fun cs x hx ⟨u, v, q0, q1, q2⟩ => ?_), h4.toRow rfl (fun cs x hx ⟨v, q0, q1⟩ => ⟨v, q0, hP q1, Nat.le_trans (h.d.2 x hx).1 hB⟩), h5.toRow rfl (fun cs x hx ⟨v, q0, q1⟩ => ⟨v, q0, hP q1, Nat.le_trans (h.e.2 x hx).1 hB⟩), Nat.le_trans h.n hB, Nat.le_trans h.t hB, Nat.le_trans h.b.1 hB, Nat.le_trans h.d.1 hB, Nat.le_trans h.e.1 hB⟩
  have ht := h.b.2 x hx
  refine ⟨u, v, q0, q1.toRow, q2.toRow rfl (fun cs y hy ⟨z, r0, r1⟩ => ⟨z, r0, r1.toRow rfl (fun cs x _ h => h), Nat.le_trans (ht.2.2 y hy).1 hB⟩), Nat.le_trans ht.1 hB, Nat.le_trans ht.2.1 hB⟩
end Go.Proofs.YtcdjjmjhdoanlaaGreatDoor
