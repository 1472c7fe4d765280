/- The document's Scan. -/
import Derived.Test.YthpflfkgbapbnaaGreatDoorRt5
import Derived.Test.YthpflfkgbapbnaaGreatDoorBk9
import Derived.Test.YthpflfkgbapbnaaGreatDoorBk11
namespace Go.Proofs.YthpflfkgbapbnaaGreatDoor
section
open Go.RowKit Go.Lib Go.Shelf

theorem nd (x : UInt8) (h : ¬ (48 ≤ x.toNat ∧ x.toNat ≤ 57)) (y : List UInt8) : ∀ c t, x :: y = c :: t → isD c = false := fun c t e => by
  cases e
  simp [isD]
  omega
theorem tgd_id (c : UInt8) (k0 : Int) (hk : (c.toNat = 40 ∧ k0 = 5) ∨ (c.toNat = 91 ∧ k0 = 6)) (r : List UInt8) : TG (c :: r) k0 (dgN r) 0 E0 := by
  intro k a b s ok ha _ he
  obtain ⟨c', r', e, hc⟩ := lit_head ok
  have he' := he
  rw [e] at he'
  have h1 : c = c' := (List.cons.inj he').1
  subst h1
  rcases hk with ⟨hc0, rfl⟩ | ⟨hc0, rfl⟩
  · have hk : k = 5 := by omega
    subst hk
    obtain ⟨rfl, rfl⟩ := ok_5' ok
    refine ⟨rfl, ?_, rfl, rfl⟩
    rw [show litV 5 a 0 E0 = 40 :: (itoa a ++ [41]) by simp [litV]] at he
    rw [(List.cons.inj he).2]
    exact (dg_itoa a ha [41] (nd 41 (by decide) _)).1
  · have hk : k = 6 := by omega
    subst hk
    obtain ⟨rfl, rfl⟩ := ok_6' ok
    refine ⟨rfl, ?_, rfl, rfl⟩
    rw [show litV 6 a 0 E0 = 91 :: (itoa a ++ [93]) by simp [litV]] at he
    rw [(List.cons.inj he).2]
    exact (dg_itoa a ha [93] (nd 93 (by decide) _)).1
theorem cpx_at (a b : Int) (ha : R64 a) (hb : R64 b) (s : ByteArray) : dgN (litV 3 a b s) = a ∧ dgL (litV 3 a b s) = (itoa a).length ∧ dgN ((litV 3 a b s).drop (itoa a).length) = b ∧ (itoa a).length < (litV 3 a b s).length := by
  by_cases h : b < 0
  · have e : litV 3 a b s = itoa a ++ (itoa b ++ [105]) := by simp [litV, h]
    have hh : ∀ c t, itoa b ++ [105] = c :: t → isD c = false := fun c t he => by
      unfold itoa at he
      rw [if_pos h] at he
      exact nd 45 (by decide) _ c t he
    obtain ⟨h1, h2⟩ := dg_itoa a ha _ hh
    rw [e]
    refine ⟨h1, h2, ?_, by simp⟩
    rw [List.drop_left]
    exact (dg_itoa b hb [105] (nd 105 (by decide) _)).1
  · have e : litV 3 a b s = itoa a ++ (43 :: itoa b ++ [105]) := by simp [litV, h]
    obtain ⟨h1, h2⟩ := dg_itoa a ha (43 :: itoa b ++ [105]) (nd 43 (by decide) _)
    rw [e]
    refine ⟨h1, h2, ?_, by simp⟩
    rw [List.drop_left]
    exact dg_plus b hb h [105] (nd 105 (by decide) _)
theorem tgd_num {t : List UInt8} (h0 : t ≠ [110, 117, 108, 108]) (h1 : t ≠ [116, 114, 117, 101]) (h2 : t ≠ [102, 97, 108, 115, 101]) (h3 : ∀ c r, t = c :: r → c.toNat ≠ 39 ∧ c.toNat ≠ 40 ∧ c.toNat ≠ 91) : (dgL t = t.length → TG t 2 (dgN t) 0 E0) ∧ (dgL t ≠ t.length → TG t 3 (dgN t) (dgN (t.drop (dgL t))) E0) := by
  have key : ∀ k a b s, okV k a b s = true → R64 a → R64 b → t = litV k a b s → (k = 2 ∧ b = 0 ∧ s = E0 ∧ dgN t = a ∧ dgL t = t.length) ∨ (k = 3 ∧ s = E0 ∧ dgN t = a ∧ dgN (t.drop (dgL t)) = b ∧ dgL t ≠ t.length) := fun k a b s ok ha hb he => by
    obtain ⟨c, r, e, hc⟩ := lit_head ok
    have h5 := h3 c r (he.trans e)
    rcases okV_kinds ok with rfl | rfl | rfl | rfl | rfl | rfl | rfl
    · exact absurd he h0
    · obtain ⟨hx, rfl, rfl⟩ := ok_1 ok
      rcases hx with rfl | rfl
      · exact absurd he h2
      · exact absurd he h1
    · obtain ⟨rfl, rfl⟩ := ok_2 ok
      have e2 : t = itoa a ++ [] := by rw [he]; simp [litV]
      obtain ⟨q1, q2⟩ := dg_itoa a ha [] (fun c t h => by cases h)
      rw [← e2] at q1 q2
      exact .inl ⟨rfl, rfl, rfl, q1, by rw [q2, e2]; simp⟩
    · obtain ⟨_, _, rfl⟩ := ok_3 ok
      obtain ⟨q1, q2, q3, q4⟩ := cpx_at a b ha hb E0
      rw [← he] at q1 q2 q3 q4
      exact .inr ⟨rfl, rfl, q1, by rw [q2]; exact q3, by rw [q2]; omega⟩
    · omega
    · omega
    · omega
  refine ⟨fun hl k a b s ok ha hb he => ?_, fun hl k a b s ok ha hb he => ?_⟩
  · rcases key k a b s ok ha hb he with ⟨rfl, rfl, rfl, e1, _⟩ | ⟨_, _, _, _, e2⟩
    · exact ⟨rfl, e1, rfl, rfl⟩
    · exact absurd hl e2
  · rcases key k a b s ok ha hb he with ⟨_, _, _, _, e2⟩ | ⟨rfl, rfl, e1, e2, _⟩
    · exact absurd e2 hl
    · exact ⟨rfl, e1, e2, rfl⟩
/-- What a guess is. -/
def Gs (t : List UInt8) (z : Nat) (e : Ending) (w w' : World) : Prop := ∃ k a b s, e = .returned (V k a b s) ∧ TG t k a b s ∧ R64 a ∧ R64 b ∧ s.size ≤ z ∧ G w w'
theorem RZ0 : R64 0 := by unfold R64; omega
theorem RZ1 : R64 1 := by unfold R64; omega
end
open Go.RowKit Go.Lib Go.Shelf

/-- What the document's Scan answers. -/
def ScR (t : List UInt8) (x : Value) : Prop :=
  (∃ k a b s, okV k a b s = true ∧ R64 a ∧ R64 b ∧ litV k a b s = t ∧ x = .tuple #[V k a b s, .int .i64 0]) ∨
  ((∀ k a b s, okV k a b s = true → R64 a → R64 b → t ≠ litV k a b s) ∧ x = .tuple #[V 0 0 0 E0, .int .i64 14])
theorem ok_Rb {k a b : Int} {s : ByteArray} (h : okV k a b s = true) : R64 b := by
  unfold R64
  rcases okV_kinds h with rfl | rfl | rfl | rfl | rfl | rfl | rfl
  · have := (ok_0 h).2.1; omega
  · have := (ok_1 h).2.1; omega
  · have := (ok_2 h).1; omega
  · have := (ok_3 h).2.1; omega
  · have := (ok_4 h).2.1; omega
  · have := (ok_5' h).1; omega
  · have := (ok_6' h).1; omega
/-- Both answer the same. -/
theorem sc_one {t : List UInt8} {x y : Value} (h1 : ScA t x) (h2 : ScR t y) : x = y := by
  rcases h1 with ⟨k, a, b, s, ok, ha, hl, tg, rfl⟩ | ⟨hn, rfl⟩ <;> rcases h2 with ⟨k', a', b', s', ok', ha', hb', hl', rfl⟩ | ⟨hn', rfl⟩
  · obtain ⟨rfl, rfl, rfl, rfl⟩ := tg k' a' b' s' ok' ha' hb' hl'.symm
    rfl
  · exact absurd hl.symm (hn' k a b s ok ha (ok_Rb ok))
  · exact absurd hl'.symm (hn k' a' b' s' ok' ha' hb')
  · rfl
theorem sc_form {t : List UInt8} {x : Value} (h : ScR t x) : ∃ k a b s c, x = .tuple #[V k a b s, .int .i64 c] := by
  rcases h with ⟨k, a, b, s, _, _, _, _, rfl⟩ | ⟨_, rfl⟩
  · exact ⟨_, _, _, _, _, rfl⟩
  · exact ⟨_, _, _, _, _, rfl⟩
end Go.Proofs.YthpflfkgbapbnaaGreatDoor
