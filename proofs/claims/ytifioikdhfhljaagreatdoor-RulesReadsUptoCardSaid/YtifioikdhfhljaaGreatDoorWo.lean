/- Wire: what came in, opened. -/
import Derived.Test.YtifioikdhfhljaaGreatDoorW0
import Derived.Deep.Slices
import Derived.SizedLaws
import Derived.ProofKit
import Derived.OpenShut
namespace Go.Proofs.YtifioikdhfhljaaGreatDoor
open Go.ChangeShapes Go.WideShapes Go.ChangeAt Go.RowKit

section
variable {H : Type} {enc : TypeId × Value → H} {w : World}
noncomputable abbrev trodA (enc : TypeId × Value → H) (w : World) (fuel : Nat) (t : TypeId) (cs : List Value) : Option (DataW H × List MemPlace) := DataW.trod enc Tryz.prog w 0 (fun _ => true) true fuel t cs
theorem spot_of {a : Addr} {v : Value} (h : w.cell? (a.add 0) = some v) : ∃ b o, a = ⟨b, o, none⟩ := by
  obtain ⟨b, o, s⟩ := a
  have e : Addr.add ⟨b, o, s⟩ 0 = ⟨b, o, s⟩ := by simp [Addr.add]
  rw [e] at h
  cases s with
  | none => exact ⟨b, o, rfl⟩
  | some x =>
    unfold World.cell? at h
    split at h
    · simp at h
    · cases h
theorem bulk_pos {H : Type} (d : DataW H) : 1 ≤ Rows.uptoBulk d := by
  cases d with
  | lit x => cases x <;> simp [Rows.uptoBulk]
  | _ => simp [Rows.uptoBulk]
theorem bulk_map {H : Type} {α : Type} (m : α → Nat) (f : Nat → α) (D : Nat → DataW H) : ∀ (l : List Nat), (∀ i ∈ l, m (f i) ≤ Rows.uptoBulk (D i)) → ((l.map f).map m).sum ≤ Rows.uptoBulkAll (l.map D)
  | [], _ => Nat.le_refl _
  | i :: l, h => by
    have h1 := bulk_map m f D l (fun j hj => h j (List.mem_cons_of_mem _ hj))
    have h2 := h i (List.mem_cons_self ..)
    simp only [List.map_cons, List.sum_cons, Rows.uptoBulkAll]
    omega
/-- A slice that came in: its row, and its bulk. -/
theorem open_row {α : Type} [Inhabited α] {t e : TypeId} (hu : Tryz.prog.underlying t = some (.slice e)) (R : Rel α) (hs : Tryz.prog.cellsOf e = R.s) (hs0 : 0 < R.s) (Q : α → Prop) (m : α → Nat)
    (each : ∀ (f : Nat) (cs : List Value) (x : DataW H × List MemPlace), trodA enc w f e cs = some x → ∃ y, R.r w cs y ∧ Q y ∧ m y ≤ Rows.uptoBulk x.1)
    {fuel : Nat} {c : Value} {x : DataW H × List MemPlace} (h : trodA enc w fuel t [c] = some x) : ∃ l, Row R w c l ∧ (∀ y ∈ l, Q y) ∧ (l.map m).sum + 1 ≤ Rows.uptoBulk x.1 := by
  rcases Go.Deep.open_slice hu h with ⟨hc, rfl⟩ | ⟨a, len, _, cap, n, D, Pl, hc, _, hl, hm, rfl, rfl, hx⟩
  · obtain rfl : c = .slice none 0 0 := by simpa using hc
    exact ⟨[], Row.nil _ _, fun y hy => by simp at hy, by simp [Rows.uptoBulk]⟩
  · have each' : ∀ i, i < cap → ∃ q : α, (∃ cs, R.r w cs q ∧ ∀ j u, cs[j]? = some u → w.cell? (a.add (i * R.s + j)) = some u) ∧ Q q ∧ m q ≤ Rows.uptoBulk (D i) := by
      intro i hi
      obtain ⟨cs', h1, h2⟩ := hx i hi
      obtain ⟨q, q1, q2, q3⟩ := each n cs' _ h2
      refine ⟨q, ⟨cs', q1, fun j u hj => ?_⟩, q2, q3⟩
      obtain ⟨_, hlen, hcell⟩ := World.cells?_some h1
      have hjl := (List.getElem?_eq_some_iff.1 hj).1
      have g0 := hcell j (by omega)
      rw [Go.Deep.add_add, hs] at g0
      rw [g0]
      exact hj
    obtain ⟨X, hX⟩ := Go.Deep.choose_lt each'
    obtain rfl : c = .slice (some a) len cap := by simpa using hc
    have hll : ((List.range len).map X).length = len := by simp
    have hcap : ∀ i, i < len → i < cap := fun i hi => by omega
    refine ⟨(List.range len).map X, ⟨some a, cap, by rw [hll], by rw [hll]; exact hl, (fun q => by cases q), fun i y hy => ?_⟩, fun y hy => ?_, ?_⟩
    · have hi := (List.getElem?_eq_some_iff.1 hy).1
      rw [hll] at hi
      rw [List.getElem?_map, List.getElem?_range hi] at hy
      simp at hy
      subst hy
      obtain ⟨⟨cs, r1, r2⟩, _, _⟩ := hX i (hcap i hi)
      obtain ⟨⟨cs0, s1, s2⟩, _, _⟩ := hX 0 (hcap 0 (by omega))
      obtain ⟨u0, hu0⟩ : ∃ u, cs0[0]? = some u := ⟨_, List.getElem?_eq_getElem (by rw [R.len s1]; exact hs0)⟩
      obtain ⟨b, o, rfl⟩ := spot_of (by have := s2 0 u0 hu0; simpa using this)
      refine ⟨b, o, cs, rfl, r1, fun j u hj => ?_⟩
      have := r2 j u hj
      rw [Addr.add_mid, ← Nat.add_assoc] at this
      exact this
    · obtain ⟨i, hi, rfl⟩ := List.mem_map.1 hy
      exact (hX i (hcap i (by simpa using hi))).2.1
    · have := bulk_map m X D (List.range len) (fun i hi => (hX i (hcap i (by simpa using hi))).2.2)
      simp only [Rows.uptoBulk]
      omega
theorem sum_one {α : Type} : ∀ l : List α, (l.map fun _ => 1).sum = l.length
  | [] => rfl
  | _ :: l => by simp only [List.map_cons, List.sum_cons, List.length_cons, sum_one l]; omega
theorem cells_u : Tryz.prog.cellsOf 5 = 1 := by kernel_rfl
theorem open_bytes {fuel : Nat} {c : Value} {x : DataW H × List MemPlace} (h : trodA enc w fuel 255 [c] = some x) : ∃ l, Rb w c l ∧ By l ∧ l.length + 1 ≤ Rows.uptoBulk x.1 := by
  obtain ⟨l, h1, h2, h3⟩ := open_row Tryz.underlying255 eB.rel cells_u (by decide) (fun x => x < 256) (fun _ => 1) (fun f cs y hy => by
    obtain ⟨q, e, _, hwf⟩ := DataW.trod_int Tryz.underlying5 hy
    have hb := bounds_u8 hwf
    refine ⟨q.toNat, ?_, by omega, bulk_pos _⟩
    show cs = [bv q.toNat]
    rw [e]
    have e2 : ((q.toNat : Nat) : Int) = q := by omega
    unfold bv
    rw [e2]) h
  rw [sum_one] at h3
  exact ⟨l, h1, h2, h3⟩
end
end Go.Proofs.YtifioikdhfhljaaGreatDoor
