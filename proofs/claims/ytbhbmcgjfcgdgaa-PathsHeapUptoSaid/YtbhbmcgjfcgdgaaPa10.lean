/- PathsOnce: the list of those that are in the heap. -/
import Derived.Test.YtbhbmcgjfcgdgaaPa9
namespace Go.Proofs.Ytbhbmcgjfcgdgaa
open Go.RowKit

theorem wpList_append_run {P : Program} {w : World} {ops : Array Oper} {rest : List Oper} {o : Oper} {a : Act} {Q : Exit → Act → World → Prop} (hgd : o.guard = none) (s x : Operand) (t : TypeId)
    (ho : o.op = .call { callee := .builtin .append, args := #[s, x], argTypes := #[t, t] }) (v z : Value) (hs : a.eval s = v) (hx : a.eval x = z) {v' : Value} {w' : World} (hr : (Builtin.append_ #[t, t] o.type #[v, z]).run P w = .ok v' w')
    (h : wpList P ops Q rest (a.put o.dst v') w') : wpList P ops Q (o :: rest) a w := by
  refine wpList_plain hgd fun K hK => ?_
  unfold Oper.wp execOp
  simp only [ho, resolve, invoke, builtin, Sem.run_bind, Sem.run_pure, Result.andThen_ok, List.map_toArray, List.map_cons, List.map_nil, hs, hx, hr]
  exact hK _ _ h
theorem info_i : ∃ i, Try.prog.info? 3 = some i ∧ i.zero = some (I 0) ∧ i.size = 1 ∧ i.bytes = 8 := info_parts (by kernel_rfl)
/-- Whole numbers in a row of one's own. -/
def IRow (w : World) (z : Nat) (v : Value) (ks : List Nat) : Prop := w.ownsRow z 3 1 v ks.length (ks.map fun (k : Nat) => I (k : Int))
theorem IRow.at {w : World} {z g n cap : Nat} {ks : List Nat} (h : IRow w z (.slice (some ⟨g, 0, none⟩) n cap) ks) {i k : Nat} (hi : ks[i]? = some k) : w.cell? ⟨g, i, none⟩ = some (I (k : Int)) := by
  have hc := World.ownsRow.cells h (g := g) rfl i (I (k : Int)) (by rw [List.getElem?_map, hi]; rfl)
  rw [Addr.add_mid, Nat.zero_add] at hc
  exact hc
/-- An append of some to a row of whole numbers. -/
theorem app_ints (w : World) (z : Nat) (v : Value) (ks : List Nat) (h : IRow w z v ks) (a : Addr) (m c : Nat) (ns : List Nat) (hl : ns.length = m) (hn : ∀ (j k : Nat), ns[j]? = some k → w.cell? (a.add j) = some (I (k : Int))) (hb : ks.length + m ≤ 1073741824) (hz : z ≤ w.heap.size) :
    ∃ v' w', (Builtin.append_ #[35, 35] 35 #[v, .slice (some a) m c]).run Try.prog w = .ok v' w' ∧ IRow w' z v' (ks ++ ns) ∧ Chg (fun k => v.ownBlock = some k) w w' ∧ (v'.ownBlock = v.ownBlock ∨ v'.ownBlock = some w.heap.size) := by
  obtain ⟨i0, hi0, hz0, hz1, hz2⟩ := info_i
  have hmx : (1073741824 : Nat) ≤ maxLen := of_decide_eq_true (by kernel_rfl)
  obtain ⟨v', w', hr, q2, q3, _, q5⟩ := run_append_own_at (P := Try.prog) w z 35 35 3 i0 _ 1 8 Try.underlying35 hi0 hz0 hz1 hz2 rfl (by decide) v ks.length _ h a m c (ns.map fun (k : Nat) => I (k : Int)) (by rw [List.length_map, Nat.mul_one]; exact hl) (fun j u hj => by
    rw [List.getElem?_map, Option.map_eq_some_iff] at hj
    obtain ⟨k, hk, rfl⟩ := hj
    exact hn j k hk) (fun u hu => by obtain ⟨k, _, rfl⟩ := List.mem_map.1 hu; rfl) (by omega) (by omega) hz
  refine ⟨v', w', hr, ?_, ⟨q3.os, q3.tape, q3.output, q3.size, fun k hk hn => q3.block k hk (fun e => hn e.symm)⟩, q5⟩
  unfold IRow
  rw [List.length_append, List.map_append, hl]
  exact q2
theorem IRow.G {w w' : World} {z : Nat} {v : Value} {ks : List Nat} (h : IRow w z v ks) (g : Go.Proofs.Ytbhbmcgjfcgdgaa.G w w') : IRow w' z v ks := own_G h g
theorem IRow.chg {F : Nat → Prop} {w w' : World} {z : Nat} {v : Value} {ks : List Nat} (h : IRow w z v ks) (g : Chg F w w') (hF : ∀ b, v.ownBlock = some b → ¬ F b) : IRow w' z v ks := own_chg h g hF
theorem IRow.nil (w : World) (z : Nat) : IRow w z (.slice none 0 0) [] := ⟨rfl, .inl ⟨rfl, rfl⟩⟩
theorem IRow.low {w : World} {z : Nat} {v : Value} {ks : List Nat} (h : IRow w z v ks) {b : Nat} (hb : v.ownBlock = some b) : z ≤ b := by
  rcases h.2 with ⟨rfl, _⟩ | ⟨g, cap, cur, rfl, hz, _⟩
  · simp [Value.ownBlock] at hb
  · have e : g = b := Option.some.inj hb
    omega
theorem IRow.slice {w : World} {z : Nat} {v : Value} {ks : List Nat} (h : IRow w z v ks) : ∃ a cap, v = .slice a ks.length cap := by
  rcases h.2 with ⟨rfl, h0⟩ | ⟨g, cap, cur, rfl, _⟩
  · exact ⟨none, 0, by rw [h0]⟩
  · exact ⟨_, _, rfl⟩
theorem IRow.cap {w : World} {z g n cap : Nat} {ks : List Nat} (h : IRow w z (.slice (some ⟨g, 0, none⟩) n cap) ks) : ks.length ≤ cap := by
  rcases h.2 with ⟨q, _⟩ | ⟨g', cap', cur, q, _, _, hc, _⟩
  · cases q
  · simp only [Value.slice.injEq] at q
    obtain ⟨_, _, rfl⟩ := q
    exact hc
theorem IRow.off {w : World} {z : Nat} {v : Value} {ks : List Nat} (h : IRow w z v ks) {g : Nat} {e : TypeId} {xs : List Value} (hb : Blk w g e xs) (he : 3 ≠ e) : v.ownBlock ≠ some g := own_ne h hb he
theorem IRow.hp {w : World} {z h : Nat} {v f hv : Value} {ks : List Nat} {l : List It} {t : Int} (k : IRow w z v ks) (o : HP w h f hv l t) {b : Nat} (hb : v.ownBlock = some b) : ¬ hpB h hv b := fun q => by
  rcases q with rfl | q
  · exact k.off o.blk (by decide) hb
  · rcases o.sl with ⟨rfl, _⟩ | ⟨g, cap, rest, rfl, hg, _⟩
    · simp [Value.ownBlock] at q
    · have e2 : g = b := Option.some.inj q
      subst e2
      exact k.off hg (by decide) hb
/-- The heap, and the list of the tags that are in it. -/
structure OS (W wr : World) (h : Nat) (f v : Value) (lt : Int × Int → Int × Int → Bool) (l : List It) (t : Int) (vin : Value) (ks : List Nat) (i : Nat) (key : Nat → Int) : Prop where
  o : Own W wr h f v lt l t
  r : IRow wr W.heap.size vin ks
  nd : ks.Nodup
  lt : ∀ k ∈ ks, k < i
  pm : (l.map (·.1)).Perm (ks.map fun (k : Nat) => (key k, (k : Int)))
  t0 : 0 ≤ t
  t1 : t ≤ i
theorem OS.len {W wr : World} {h : Nat} {f v : Value} {lt : Int × Int → Int × Int → Bool} {l : List It} {t : Int} {vin : Value} {ks : List Nat} {i : Nat} {key : Nat → Int} (s : OS W wr h f v lt l t vin ks i key) : l.length = ks.length := by
  have := s.pm.length_eq
  simpa using this
theorem OS.G {W wr w' : World} {h : Nat} {f v : Value} {lt : Int × Int → Int × Int → Bool} {l : List It} {t : Int} {vin : Value} {ks : List Nat} {i : Nat} {key : Nat → Int} (s : OS W wr h f v lt l t vin ks i key) (g : Go.Proofs.Ytbhbmcgjfcgdgaa.G wr w') : OS W w' h f v lt l t vin ks i key := ⟨s.o.G g, s.r.G g, s.nd, s.lt, s.pm, s.t0, s.t1⟩
theorem OS.few {W wr : World} {h : Nat} {f v : Value} {lt : Int × Int → Int × Int → Bool} {l : List It} {t : Int} {vin : Value} {ks : List Nat} {i : Nat} {key : Nat → Int} (s : OS W wr h f v lt l t vin ks i key) : ks.length ≤ i := by
  have := List.Nodup.length_le_of_subset s.nd (l₂ := List.range i) (fun k hk => List.mem_range.2 (s.lt k hk))
  simpa using this
/-- The list of tags grew by an append in its own block or in a new one. -/
theorem OS.row {W wr w' : World} {h : Nat} {f v : Value} {lt : Int × Int → Int × Int → Bool} {l : List It} {t : Int} {vin : Value} {ks : List Nat} (o : Own W wr h f v lt l t) (r : IRow wr W.heap.size vin ks) (c : Chg (fun k => vin.ownBlock = some k) wr w') : Own W w' h f v lt l t :=
  o.chg c (fun _ hb => ⟨r.low hb, r.hp o.hp hb⟩)
theorem erase_at {k : Nat} : ∀ {ks : List Nat} {n : Nat} (_ : ks.Nodup) (_ : ks[n]? = some k), ks.erase k = ks.take n ++ ks.drop (n + 1)
  | [], n, _, h => by simp at h
  | a :: bs, 0, _, h => by simp at h; subst h; simp
  | a :: bs, n + 1, hn, h => by
    have h2 : bs[n]? = some k := by simpa using h
    have hne : a ≠ k := fun e => by subst e; exact (List.nodup_cons.1 hn).1 (List.mem_of_getElem? h2)
    rw [List.erase_cons_tail (by simpa using hne), erase_at (List.nodup_cons.1 hn).2 h2]
    simp
end Go.Proofs.Ytbhbmcgjfcgdgaa
