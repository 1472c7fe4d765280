/- The fuse: what an operation answers, what it leaves. -/
import Derived.Test.YtbjbphhcmmaaoaaFu1
namespace Go.Proofs.Ytbjbphhcmmaaoaa
open Go.RowKit

/-- How the fuse stands, in the first turn (t = 0) and in the others; dn operations are done. -/
structure Fz (m : DM) (t after dn : Nat) : Prop where
  c : m.writes + m.flushes = dn
  a : t = 0 → (m.off = true ∧ dn = after) ∨ (m.off = false ∧ ∃ k, m.fuse = some k ∧ dn + k = after)
  b : t ≠ 0 → m.off = false ∧ m.fuse = none
theorem Fz.spent {m : DM} {t after dn : Nat} (h : Fz m t after dn) : (t = 0 ∧ after ≤ dn → m.spent.2 = false ∧ Fz m.spent.1 t after dn ∧ m.spent.1.off = true) ∧
    (¬ (t = 0 ∧ after ≤ dn) → m.spent.2 = true ∧ m.spent.1.off = false ∧ m.spent.1.writes = m.writes ∧ m.spent.1.flushes = m.flushes ∧ (t = 0 → ∃ k, m.spent.1.fuse = some k ∧ dn + 1 + k = after) ∧ (t ≠ 0 → m.spent.1.fuse = none)) := by
  obtain ⟨n, laid, pend, off, fuse, wr, fl⟩ := m
  obtain ⟨hc, ha, hb⟩ := h
  simp only at hc ha hb
  constructor
  · rintro ⟨rfl, hle⟩
    rcases ha rfl with ⟨rfl, he⟩ | ⟨rfl, k, rfl, he⟩
    · exact ⟨rfl, ⟨hc, fun _ => .inl ⟨rfl, he⟩, fun e => absurd rfl e⟩, rfl⟩
    · obtain rfl : k = 0 := by omega
      exact ⟨rfl, ⟨hc, fun _ => .inl ⟨rfl, by omega⟩, fun e => absurd rfl e⟩, rfl⟩
  · intro hn
    by_cases ht : t = 0
    · subst ht
      rcases ha rfl with ⟨rfl, he⟩ | ⟨rfl, k, rfl, he⟩
      · exact absurd ⟨rfl, Nat.le_of_eq he.symm⟩ hn
      · clear ha hb hc
        have hn' : ¬ after ≤ dn := fun e => hn ⟨rfl, e⟩
        clear hn
        obtain ⟨j, rfl⟩ : ∃ j, k = j + 1 := ⟨k - 1, by omega⟩
        exact ⟨rfl, rfl, rfl, rfl, fun _ => ⟨j, rfl, by omega⟩, fun e => absurd rfl e⟩
    · obtain ⟨rfl, rfl⟩ := hb ht
      exact ⟨rfl, rfl, rfl, rfl, fun e => absurd e ht, fun _ => rfl⟩
/-- What is known of the disk between two operations. -/
def FS (w W : World) (q : Addr) (n t after dn B : Nat) (o : Bool) : Prop := G w W ∧ ∃ m F, SlP W F (.pointer (some q)) (some m) ∧ m.n = n ∧ m.few B ∧ Fz m t after dn ∧ (∀ k, F k → w.heap.size ≤ k ∧ k < W.heap.size) ∧ m.off = o
theorem FS.G {w W W' : World} {q : Addr} {n t after dn B : Nat} {o : Bool} (h : FS w W q n t after dn B o) (g : Go.Proofs.Ytbjbphhcmmaaoaa.G W W') : FS w W' q n t after dn B o := by
  obtain ⟨h1, m, F, h2, h3, h4, h5, h6, h7⟩ := h
  exact ⟨h1.trans g, m, F, h2.G g, h3, h4, h5, fun k hk => ⟨(h6 k hk).1, Nat.lt_of_lt_of_le (h6 k hk).2 g.size⟩, h7⟩
theorem few_to {m : DM} {B : Nat} (h : m.few B) (hB : B ≤ 549755813888) : fewO (some m) 549755813888 := fun m' e => by
  cases e
  exact ⟨Nat.le_trans h.w hB, Nat.le_trans h.f hB, Nat.le_trans h.p hB⟩
theorem FS.less {w W : World} {q : Addr} {n t after dn B B' : Nat} {o : Bool} (h : FS w W q n t after dn B o) (hb : B ≤ B') : FS w W q n t after dn B' o := by
  obtain ⟨h1, m, F, h2, h3, h4, h5, h6, h7⟩ := h
  exact ⟨h1, m, F, h2, h3, ⟨Nat.le_trans h4.w hb, Nat.le_trans h4.f hb, Nat.le_trans h4.p hb⟩, h5, h6, h7⟩
/-- What an operation leaves. -/
def After (w w' : World) (q : Addr) (n t after dn B : Nat) (e : Ending) : Prop := (t = 0 ∧ after ≤ dn ∧ e = .returned (.int .i64 2) ∧ FS w w' q n t after dn B true) ∨ (¬ (t = 0 ∧ after ≤ dn) ∧ e = .returned (.int .i64 0) ∧ FS w w' q n t after (dn + 1) (B + 1) false)
theorem spent_keep (m : DM) : m.spent.1.n = m.n ∧ m.spent.1.laid = m.laid ∧ m.spent.1.pend = m.pend ∧ m.spent.1.writes = m.writes ∧ m.spent.1.flushes = m.flushes := by
  obtain ⟨n, laid, pend, off, fuse, wr, fl⟩ := m
  cases off with
  | true => exact ⟨rfl, rfl, rfl, rfl, rfl⟩
  | false =>
    cases fuse with
    | none => exact ⟨rfl, rfl, rfl, rfl, rfl⟩
    | some k => cases k <;> exact ⟨rfl, rfl, rfl, rfl, rfl⟩
theorem G.trans2' {w a b : World} {F : Nat → Prop} (h : Go.Proofs.Ytbjbphhcmmaaoaa.G w a) (k : Chg F a b) (hF : ∀ j, F j → w.heap.size ≤ j) : Go.Proofs.Ytbjbphhcmmaaoaa.G w b :=
  ((h.chg (F := fun j => w.heap.size ≤ j)).trans (k.mono hF)).G (fun _ h => h)
theorem fs_flush {w W : World} {q : Addr} {n t after dn B : Nat} {o : Bool} (hB : B ≤ 549755813888) (h : FS w W q n t after dn B o) : Calls Try.prog 25 #[.pointer (some q)] W fun e w' => After w w' q n t after dn B e := by
  obtain ⟨h1, m, F, h2, h3, h4, h5, h6, h7⟩ := h
  refine (uP_flush F (some m) _ W (few_to h4 hB) h2).mono ?_
  rintro e w' ⟨rfl, hp, hc⟩
  have hg : Go.Proofs.Ytbjbphhcmmaaoaa.G w w' := h1.trans2' hc (fun k hk => (h6 k hk).1)
  have h6' : ∀ k, F k → w.heap.size ≤ k ∧ k < w'.heap.size := fun k hk => ⟨(h6 k hk).1, Nat.lt_of_lt_of_le (h6 k hk).2 hc.size⟩
  obtain ⟨k1, k2, k3, k4, k5⟩ := spent_keep m
  simp only [flC, flM, Option.map_some, DM.flush] at hp ⊢
  by_cases ht : t = 0 ∧ after ≤ dn
  · obtain ⟨s1, s2, s3⟩ := h5.spent.1 ht
    rw [s1] at hp ⊢
    exact .inl ⟨ht.1, ht.2, rfl, hg, m.spent.1, F, hp, by rw [k1, h3], ⟨by rw [k4]; exact h4.w, by rw [k5]; exact h4.f, by rw [k3]; exact h4.p⟩, s2, h6', s3⟩
  · obtain ⟨s1, s2, s3, s4, s5, s6⟩ := h5.spent.2 ht
    rw [s1] at hp ⊢
    have hcc := h5.c
    exact .inr ⟨ht, rfl, hg, _, F, hp, by show m.spent.1.n = n; rw [k1, h3], ⟨by show m.spent.1.writes ≤ _; have := h4.w; omega, by show m.spent.1.flushes + 1 ≤ _; have := h4.f; omega, Nat.zero_le _⟩, ⟨by show m.spent.1.writes + (m.spent.1.flushes + 1) = _; omega, fun e => .inr ⟨s2, s5 e⟩, fun e => ⟨s2, s6 e⟩⟩, h6', s2⟩
theorem fs_write {w W : World} {q : Addr} {n t after dn B : Nat} {o : Bool} (hB : B ≤ 549755813888) (at' : Nat) (ha : at' < n) (x : Value) (xs : List Nat) (hx : xs.length = 128) (hxb : ∀ y ∈ xs, y < 256) (h : FS w W q n t after dn B o) {W' : World} (g : G W W') (hb : Bytes W' x xs) (hf : ∀ j, Value.blk x j → W.heap.size ≤ j) : Calls Try.prog 28 #[.pointer (some q), .int .i64 at', x] W' fun e w' => After w w' q n t after dn B e := by
  obtain ⟨h1, m, F, h2, h3, h4, h5, h6, h7⟩ := h
  refine (uP_write F (some m) _ x at' xs hxb (few_to h4 hB) W' (h2.G g) hb (fun j hj hF => by have := hf j hj; have := (h6 j hF).2; omega)).mono ?_
  rintro e w' ⟨rfl, hp, hc⟩
  have hg : Go.Proofs.Ytbjbphhcmmaaoaa.G w w' := (h1.trans g).trans2' hc (fun k hk => (h6 k hk).1)
  have hgs := g.size
  have h1s := h1.size
  have h6' : ∀ k, Up F W' w' k → w.heap.size ≤ k ∧ k < w'.heap.size := fun k hk => by
    have hs := hc.size
    rcases hk with hk | hk
    · exact ⟨(h6 k hk).1, by have := (h6 k hk).2; omega⟩
    · exact ⟨by omega, by omega⟩
  obtain ⟨k1, k2, k3, k4, k5⟩ := spent_keep m
  have hw : m.write at' xs = if m.spent.2 then ({ m.spent.1 with writes := m.spent.1.writes + 1, pend := m.spent.1.pend ++ [(at', xs)] }, 0) else (m.spent.1, 2) := by
    unfold DM.write
    rw [if_neg (by simp; omega), if_neg (by simp [hx])]
    rfl
  simp only [wrC, wrM, Option.map_some, hw] at hp ⊢
  by_cases ht : t = 0 ∧ after ≤ dn
  · obtain ⟨s1, s2, s3⟩ := h5.spent.1 ht
    rw [s1] at hp ⊢
    exact .inl ⟨ht.1, ht.2, rfl, hg, m.spent.1, _, hp, by rw [k1, h3], ⟨by rw [k4]; exact h4.w, by rw [k5]; exact h4.f, by rw [k3]; exact h4.p⟩, s2, h6', s3⟩
  · obtain ⟨s1, s2, s3, s4, s5, s6⟩ := h5.spent.2 ht
    rw [s1] at hp ⊢
    have hcc := h5.c
    exact .inr ⟨ht, rfl, hg, _, _, hp, by show m.spent.1.n = n; rw [k1, h3], ⟨by show m.spent.1.writes + 1 ≤ _; have := h4.w; omega, by show m.spent.1.flushes ≤ _; have := h4.f; omega, by show (m.spent.1.pend ++ [(at', xs)]).length ≤ _; rw [List.length_append, k3]; have := h4.p; simp; omega⟩, ⟨by show m.spent.1.writes + 1 + m.spent.1.flushes = _; omega, fun e => .inr ⟨s2, s5 e⟩, fun e => ⟨s2, s6 e⟩⟩, h6', s2⟩
theorem fs_read {w W : World} {q : Addr} {n t after dn B : Nat} (hB : B ≤ 549755813888) (h : FS w W q n t after dn B true) : Calls Try.prog 15 #[.pointer (some q), .int .i64 0] W fun e w' => ∃ x, e = .returned (.tuple #[x, .int .i64 2]) ∧ FS w w' q n t after dn B true := by
  have h0 := h
  obtain ⟨h1, m, F, h2, h3, h4, h5, h6, h7⟩ := h
  refine (uP_read F (some m) _ 0 W (few_to h4 hB) h2).mono ?_
  rintro e w' ⟨x, rfl, hg, _⟩
  obtain ⟨p, _, hd⟩ := h2
  have hn := hd.ok.n1
  exact ⟨x, by simp only [rdC, h7]; rw [if_pos (by omega)]; rfl, h0.G hg⟩
theorem fs_cut {w W : World} {q : Addr} {n t after dn B : Nat} (h : FS w W q n t after dn B true) : Calls Try.prog 26 #[.pointer (some q), .int .i64 9] W fun e w' => e = .returned (.int .i64 2) ∧ FS w w' q n t after dn B true := by
  obtain ⟨h1, m, F, h2, h3, h4, h5, h6, h7⟩ := h
  refine (uP_cut F (some m) _ 9 (by decide) W h2).mono ?_
  rintro e w' ⟨rfl, hp, hc⟩
  have hm : m.cut 9 = (m, 2) := by unfold DM.cut; rw [if_neg (by decide), h7, if_pos rfl]
  simp only [cuC, cuM, Option.map_some, hm] at hp ⊢
  exact ⟨trivial, h1.trans2' hc (fun k hk => (h6 k hk).1), m, F, hp, h3, h4, h5, fun k hk => ⟨(h6 k hk).1, Nat.lt_of_lt_of_le (h6 k hk).2 hc.size⟩, h7⟩
theorem fs_stat {w W : World} {q : Addr} {n t after dn B : Nat} {o : Bool} (h : FS w W q n t after dn B o) : Calls Try.prog 59 #[.pointer (some q)] W fun e w' => ∃ a b c : Nat, a + b = dn ∧ e = .returned (.agg #[I a, I b, I c, .bool o]) ∧ FS w w' q n t after dn B o := by
  have h0 := h
  obtain ⟨h1, m, F, h2, h3, h4, h5, h6, h7⟩ := h
  refine (uP_stat F (some m) _ W h2).mono ?_
  rintro e w' ⟨rfl, hg⟩
  exact ⟨m.writes, m.flushes, m.pend.length, h5.c, by simp only [stA, h7], h0.G hg⟩
theorem fs_crash {w W : World} {q : Addr} {n t after dn B : Nat} {o : Bool} (hB : B ≤ 549755813888) (h : FS w W q n t after dn B o) : Calls Try.prog 13 #[.pointer (some q), .slice none 0 0] W fun e w' => ∃ k : Int, e = .returned (.tuple #[.int .i64 k, .int .i64 0]) ∧ FS w w' q n (t + 1) after dn B false := by
  obtain ⟨h1, m, F, h2, h3, h4, h5, h6, h7⟩ := h
  refine (uP_crash F (some m) _ (.slice none 0 0) [] (few_to h4 hB) (by decide) W h2 ⟨none, 0, rfl, Nat.le_refl _, .inl rfl⟩ (fun j hj => by obtain ⟨_, _, _, e, _⟩ := hj; cases e)).mono ?_
  rintro e w' ⟨rfl, hp, hc⟩
  exact ⟨_, rfl, h1.trans2' hc (fun k hk => (h6 k hk).1), (m.crash []).1, F, hp, h3, ⟨h4.w, h4.f, Nat.zero_le _⟩, ⟨h5.c, fun e => by omega, fun _ => ⟨rfl, rfl⟩⟩, fun k hk => ⟨(h6 k hk).1, Nat.lt_of_lt_of_le (h6 k hk).2 hc.size⟩, rfl⟩
theorem fs_first {w W : World} {q : Addr} {n : Nat} (after : Nat) (ha : after ≤ 9223372036854775807) (g : G w W) (h : SlP W (fun k => w.heap.size ≤ k ∧ k < W.heap.size) (.pointer (some q)) (some (DM.new n))) : Calls Try.prog 26 #[.pointer (some q), .int .i64 after] W fun e w' => e = .returned (.int .i64 0) ∧ FS w w' q n 0 after 0 0 false := by
  refine (uP_cut _ (some (DM.new n)) _ after (by omega) W h).mono ?_
  rintro e w' ⟨rfl, hp, hc⟩
  have hm : (DM.new n).cut after = ({ DM.new n with fuse := some after }, 0) := by unfold DM.cut; rw [if_neg (by omega), if_neg (by simp [DM.new])]; rfl
  simp only [cuC, cuM, Option.map_some, hm] at hp ⊢
  exact ⟨trivial, g.trans2' hc (fun k hk => hk.1), _, _, hp, rfl, ⟨Nat.le_refl _, Nat.le_refl _, Nat.le_refl _⟩, ⟨rfl, fun _ => .inr ⟨rfl, after, rfl, Nat.zero_add _⟩, fun e => absurd rfl e⟩, fun k hk => ⟨hk.1, Nat.lt_of_lt_of_le hk.2 hc.size⟩, rfl⟩
theorem cut_neg {W : World} {F : Nat → Prop} {q : Addr} {m : DM} (n : Int) (hn : n < 0) (h : SlP W F (.pointer (some q)) (some m)) : Calls Try.prog 26 #[.pointer (some q), .int .i64 n] W fun e w' => e = .returned (.int .i64 1) ∧ Chg F W w' := by
  refine (uP_cut _ (some m) _ n (by omega) W h).mono ?_
  rintro e w' ⟨rfl, _, hc⟩
  exact ⟨by simp only [cuC, DM.cut, if_pos hn], hc⟩
end Go.Proofs.Ytbjbphhcmmaaoaa
