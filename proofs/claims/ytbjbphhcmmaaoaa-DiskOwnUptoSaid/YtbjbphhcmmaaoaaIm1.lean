/- One operation on a disk: does. -/
import Derived.Test.YtbjbphhcmmaaoaaLwF
import Derived.Test.YtbjbphhcmmaaoaaFu2
namespace Go.Proofs.Ytbjbphhcmmaaoaa
open Go.RowKit

/-- 'append([]byte(nil), b...)'. -/
theorem app_bytes (ty : TypeId) {w : World} {kv : Value} {ks : List Nat} (hkl : ks.length ≤ 1073741824) (hk : Bytes w kv ks) (hv : kv = .slice none 0 0 ∨ ∃ ad n c, kv = .slice (some ad) n c) :
    ∃ v' w', (Builtin.append_ #[28, 28] ty #[.slice none 0 0, kv]).run Try.prog w = .ok v' w' ∧ G w w' ∧ Bytes w' v' ks ∧ ∀ j, Value.blk v' j → w.heap.size ≤ j := by
  obtain ⟨i, hi, hz0, hz1, hz2⟩ := info_u8
  obtain ⟨ka, kc, rfl, hkc, hcs⟩ := hk
  rcases hv with hv | ⟨ad, n, c, hv⟩
  · simp only [Value.slice.injEq] at hv
    obtain ⟨rfl, hl0, rfl⟩ := hv
    have hk0 : ks = [] := List.eq_nil_of_length_eq_zero hl0
    subst hk0
    exact ⟨.slice none 0 0, w, run_append_owned_none (P := Try.prog) w 0 28 ty 5 i 1 Try.underlying28 hi (.slice none 0 0) 0 [] (World.ownsRow_nil _ _ _ _), G.refl _, ⟨none, 0, rfl, Nat.le_refl _, .inl rfl⟩, fun j hj => by obtain ⟨a, n, c, h, _⟩ := hj; cases h⟩
  · simp only [Value.slice.injEq] at hv
    obtain ⟨rfl, _, _⟩ := hv
    obtain ⟨v', w', hr, q2, q3, _, q5⟩ := run_append_own_at (P := Try.prog) w 0 28 ty 5 i _ 1 1 Try.underlying28 hi hz0 hz1 hz2 rfl (by decide) (.slice none 0 0) 0 [] (World.ownsRow_nil _ _ _ _) ad ks.length kc (ks.map bv) (by simp) (fun j u hj => by
      rcases hcs with h | ⟨kb, ko, h, hc⟩
      · rw [h] at hj; simp at hj
      · cases h
        rw [List.getElem?_map, Option.map_eq_some_iff] at hj
        obtain ⟨b, hb, rfl⟩ := hj
        exact hc j b hb) (fun u hu => by obtain ⟨b, _, rfl⟩ := List.mem_map.1 hu; rfl) (by unfold maxLen; omega) (by omega) (Nat.zero_le _)
    rw [Nat.zero_add, List.nil_append] at q2
    have hg : G w w' := ⟨q3.os, q3.tape, q3.output, q3.size, fun k hk => q3.block k hk (by simp [Value.ownBlock])⟩
    refine ⟨v', w', hr, hg, ?_, fun j hj => ?_⟩
    · rcases q2.2 with ⟨rfl, hn⟩ | ⟨g, cap, cur, rfl, _, _, hc, _⟩
      · exact ⟨none, 0, by rw [hn], by omega, .inl (List.eq_nil_of_length_eq_zero hn)⟩
      · refine ⟨_, _, rfl, hc, .inr ⟨g, 0, rfl, fun j b hb => ?_⟩⟩
        exact q2.cells (g := g) rfl j (bv b) (by rw [List.getElem?_map, hb]; rfl)
    · obtain ⟨a, n, c, rfl, _, rfl⟩ := hj
      rcases q5 with q5 | q5
      · simp [Value.ownBlock] at q5
      · simp [Value.ownBlock] at q5; omega
/-- An append whose run is known, at the operation. -/
theorem wpList_append_run {P : Program} {w : World} {ops : Array Oper} {rest : List Oper} {o : Oper} {a : Act} {Q : Exit → Act → World → Prop} (hgd : o.guard = none) (s x : Operand) (t : TypeId)
    (ho : o.op = .call { callee := .builtin .append, args := #[s, x], argTypes := #[t, t] }) (v z : Value) (hs : a.eval s = v) (hx : a.eval x = z) {v' : Value} {w' : World} (hr : (Builtin.append_ #[t, t] o.type #[v, z]).run P w = .ok v' w')
    (h : wpList P ops Q rest (a.put o.dst v') w') : wpList P ops Q (o :: rest) a w := by
  refine wpList_plain hgd fun K hK => ?_
  unfold Oper.wp execOp
  simp only [ho, resolve, invoke, builtin, Sem.run_bind, Sem.run_pure, Result.andThen_ok, List.map_toArray, List.map_cons, List.map_nil, hs, hx, hr]
  exact hK _ _ h
/-- What an operation on one disk leaves. -/
def One (w : World) (q : Addr) (F : Nat → Prop) (m' : DM) (B : Nat) (w' : World) : Prop := ∃ F', SlP w' F' (.pointer (some q)) (some m') ∧ m'.few (B + 1) ∧ Chg F w w' ∧ (∀ k, F' k → F k ∨ (w.heap.size ≤ k ∧ k < w'.heap.size))
theorem One.back {w w1 w' : World} {q : Addr} {F : Nat → Prop} {m' : DM} {B : Nat} (h : One w1 q F m' B w') (g : G w w1) : One w q F m' B w' := by
  obtain ⟨F', h1, h2, h3, h4⟩ := h
  exact ⟨F', h1, h2, g.chg.trans h3, fun k hk => (h4 k hk).imp id (fun x => ⟨Nat.le_trans g.size x.1, x.2⟩)⟩
theorem One.on {w w1 w' : World} {q : Addr} {F : Nat → Prop} {m' : DM} {B : Nat} (h : One w q F m' B w1) (g : G w1 w') : One w q F m' B w' := by
  obtain ⟨F', h1, h2, h3, h4⟩ := h
  exact ⟨F', h1.G g, h2, h3.trans g.chg, fun k hk => (h4 k hk).imp id (fun x => ⟨x.1, Nat.lt_of_lt_of_le x.2 g.size⟩)⟩
theorem fewS {m : DM} {B : Nat} (h : m.few B) : fewO (some m) B := fun _ e => by cases e; exact h
theorem o_write (q : Addr) (F : Nat → Prop) (m : DM) (B : Nat) (hBB : B ≤ 549755813888) (hB : m.few B) (dv : Value) (n : Int) (xs : List Nat) (hxb : ∀ x ∈ xs, x < 256) (w : World) (h : SlP w F (.pointer (some q)) (some m)) (hbb : Bytes w dv xs) (hF : ∀ j, Value.blk dv j → ¬ F j) : Calls Try.prog 28 #[.pointer (some q), .int .i64 n, dv] w fun e w' => e = .returned (.int .i64 (m.write n xs).2) ∧ One w q F (m.write n xs).1 B w' := by
  refine (uP_write F (some m) _ dv n xs hxb (few_to hB hBB) w h hbb hF).mono ?_
  rintro e w' ⟨rfl, h1, h2⟩
  exact ⟨rfl, _, h1, few_wr (fewS hB) n xs _ rfl, h2, fun k hk => hk⟩
theorem o_flush (q : Addr) (F : Nat → Prop) (m : DM) (B : Nat) (hBB : B ≤ 549755813888) (hB : m.few B) (w : World) (h : SlP w F (.pointer (some q)) (some m)) : Calls Try.prog 25 #[.pointer (some q)] w fun e w' => e = .returned (.int .i64 m.flush.2) ∧ One w q F m.flush.1 B w' := by
  refine (uP_flush F (some m) _ w (few_to hB hBB) h).mono ?_
  rintro e w' ⟨rfl, h1, h2⟩
  exact ⟨rfl, _, h1, few_fl (fewS hB) _ rfl, h2, fun k hk => .inl hk⟩
theorem o_cut (q : Addr) (F : Nat → Prop) (m : DM) (B : Nat) (hB : m.few B) (n : Int) (hn : n ≤ 9223372036854775807) (w : World) (h : SlP w F (.pointer (some q)) (some m)) : Calls Try.prog 26 #[.pointer (some q), .int .i64 n] w fun e w' => e = .returned (.int .i64 (m.cut n).2) ∧ One w q F (m.cut n).1 B w' := by
  refine (uP_cut F (some m) _ n hn w h).mono ?_
  rintro e w' ⟨rfl, h1, h2⟩
  exact ⟨rfl, _, h1, few_cu (fewS hB) n _ rfl, h2, fun k hk => .inl hk⟩
theorem o_crash (q : Addr) (F : Nat → Prop) (m : DM) (B : Nat) (hBB : B ≤ 549755813888) (hB : m.few B) (kv : Value) (ks : List Bool) (hkl : ks.length ≤ 4611686018427387904) (w : World) (h : SlP w F (.pointer (some q)) (some m)) (hk : Keeps w kv ks) (hkF : ∀ j, Value.blk kv j → ¬ F j) : Calls Try.prog 13 #[.pointer (some q), kv] w fun e w' => e = .returned (.tuple #[.int .i64 (m.crash ks).2, .int .i64 0]) ∧ One w q F (m.crash ks).1 B w' := by
  refine (uP_crash F (some m) _ kv ks (few_to hB hBB) hkl w h hk hkF).mono ?_
  rintro e w' ⟨rfl, h1, h2⟩
  exact ⟨rfl, _, h1, few_cr (fewS hB) ks _ rfl, h2, fun k hk => .inl hk⟩
end Go.Proofs.Ytbjbphhcmmaaoaa
