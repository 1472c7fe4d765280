/- value.Scan. -/
import Derived.Test.YthpflfkgbapbnaaGreatDoorBk10
import Derived.Test.YthpflfkgbapbnaaGreatDoorBk5
namespace Go.Proofs.YthpflfkgbapbnaaGreatDoor
open Go.RowKit Go.Lib Go.Shelf

/-- The result's cell and the guess's, as they are under way. -/
structure KC (w w1 : World) (k a b : Int) (s : ByteArray) (W : World) : Prop where
  kb : KB w W
  c : ∀ o, W.cell? { block := w1.heap.size, off := o } = [I k, I a, I b, .string s][o]?
  f : ∀ o, W.frozen? { block := w1.heap.size, off := o } = false
  z : w1.heap.size < W.heap.size
theorem KC.G {w w1 : World} {k a b : Int} {s : ByteArray} {W W' : World} (h : KC w w1 k a b s W) (g : G W W') : KC w w1 k a b s W' := ⟨h.kb.G g, G.cells g h.c h.z, G.frozens g h.f h.z, Nat.lt_of_lt_of_le h.z g.size⟩
/-- What Scan answers. -/
def ScA (t : List UInt8) (x : Value) : Prop :=
  (∃ k a b s, okV k a b s = true ∧ R64 a ∧ litV k a b s = t ∧ TG t k a b s ∧ x = .tuple #[V k a b s, .int .i64 0]) ∨
  ((∀ k a b s, okV k a b s = true → R64 a → R64 b → t ≠ litV k a b s) ∧ x = .tuple #[V 0 0 0 E0, .int .i64 14])
set_option maxRecDepth 100000 in
set_option maxHeartbeats 4000000 in
theorem scan_any (u : ByteArray) (hs : u.size ≤ 140737488351232) (w : World) (hE : Env w) : Calls Tryz.prog 95 #[.string u] w fun e w' => ∃ x, e = .returned x ∧ ScA u.data.toList x ∧ G w w' := by
  have HX : Hid (∀ w, Env w → Calls Tryz.prog 117 #[.string u] w fun e w' => ∃ k a b s, e = .returned (V k a b s) ∧ TG u.data.toList k a b s ∧ R64 a ∧ G w w') := fun w h => gt_any u hs w h
  have HE : Hid _ := hE
  clear hE hs
  have HK0 : Hid (KB w (w.alloc (.cells #[I 0, I 0, I 0, .string E0] 23))) := ⟨fun o => by simp, fun o => by simp, (G.refl w).alloc _, by simp⟩
  go_enter Tryz.func95, Tryz.ntmps95
  go_wp2_with fail
  generalize w.alloc (.cells #[I 0, I 0, I 0, .string E0] 23) = wa at HK0 ⊢
  refine (HX.out _ (HE.out.G HK0.out.g)).mono ?_
  rintro e w1 ⟨k, a, b, s, rfl, htg, hra, hb⟩
  have HKA : Hid (KB w w1) := KB.G HK0.out hb
  clear hb HK0
  have HI : Hid (∀ w, Tabs w → Calls Tryz.prog 118 #[V k a b s] w fun e w' => e = .returned (.tuple #[itemV k a b s, .bool (okV k a b s)]) ∧ G w w') := itemOf_any k a b s
  cases hok : okV k a b s with
  | false =>
    rw [hok] at HI
    have HT : Hid (ScA u.data.toList (.tuple #[V 0 0 0 E0, .int .i64 14])) := .inr ⟨fun k0 a0 b0 s0 h ha hb he => by
      obtain ⟨rfl, rfl, rfl, rfl⟩ := htg k0 a0 b0 s0 h ha hb he
      rw [hok] at h; exact absurd h (by decide), rfl⟩
    clear htg hra hok
    generalize itemV k a b s = x at HI
    have HKC : Hid (KC w w1 k a b s (w1.alloc (.cells #[I k, I a, I b, .string s] 23))) := ⟨HKA.out.G ((G.refl _).alloc _), fun o => by simp, fun o => by simp, by simp⟩
    go_wp2_with fail
    generalize w1.alloc (.cells #[I k, I a, I b, .string s] 23) = wb at HKC ⊢
    refine (HI.out _ (HE.out.G HKC.out.kb.g).t).mono ?_
    rintro e w2 ⟨rfl, hb⟩
    have HK2 : Hid (KC w w1 k a b s w2) := HKC.out.G hb
    clear hb HKC HKA
    have hcA := HK2.out.kb.c
    have hfA := HK2.out.kb.f
    go_wp2
    all_goals refine bodyPost_ret (v := .tuple #[V 0 0 0 E0, .int .i64 14]) (by simp [results, Tryz.results95, go_sem, hcA]) rfl ⟨_, rfl, HT.out, by repeat (first | exact HK2.out.kb.g | refine G.setCell ?_ (Nat.le_refl _) _)⟩
  | true =>
    rw [hok] at HI
    have HL : Hid _ := ilit_any k a b s hok hra
    cases hc : ((strU (litV k a b s)).toList == u.toList) with
    | true =>
      have HT : Hid (ScA u.data.toList (.tuple #[V k a b s, .int .i64 0])) := .inl ⟨k, a, b, s, hok, hra, by
        have := eq_of_beq hc
        rwa [data_list, data_list, strU_list] at this, htg, rfl⟩
      clear htg hra hok
      generalize itemV k a b s = x at HI HL
      generalize litV k a b s = l at HL hc
      obtain ⟨t, f, y, rfl, hm, hcf, hl⟩ := HL.out
      have HF : Hid _ := hl
      clear hl HL
      have HKC : Hid (KC w w1 k a b s (w1.alloc (.cells #[I k, I a, I b, .string s] 23))) := ⟨HKA.out.G ((G.refl _).alloc _), fun o => by simp, fun o => by simp, by simp⟩
      go_wp2_with fail
      generalize w1.alloc (.cells #[I k, I a, I b, .string s] 23) = wb at HKC ⊢
      refine (HI.out _ (HE.out.G HKC.out.kb.g).t).mono ?_
      rintro e w2 ⟨rfl, hb⟩
      have HK2 : Hid (KC w w1 k a b s w2) := HKC.out.G hb
      clear hb HKC HKA
      go_wp2_with fail
      refine (HF.out w2 (HE.out.G HK2.out.kb.g)).mono ?_
      rintro e w3 ⟨rfl, hb⟩
      have HK3 : Hid (KC w w1 k a b s w3) := HK2.out.G hb
      clear hb HK2
      have hcA := HK3.out.kb.c
      have hfA := HK3.out.kb.f
      have hcB := HK3.out.c
      go_wp2
      all_goals refine bodyPost_ret (v := .tuple #[V k a b s, .int .i64 0]) (by simp [results, Tryz.results95, go_sem, hcA]) rfl ⟨_, rfl, HT.out, by repeat (first | exact HK3.out.kb.g | refine G.setCell ?_ (Nat.le_refl _) _)⟩
    | false =>
      have HT : Hid (ScA u.data.toList (.tuple #[V 0 0 0 E0, .int .i64 14])) := .inr ⟨fun k0 a0 b0 s0 h ha hb he => by
        obtain ⟨rfl, rfl, rfl, rfl⟩ := htg k0 a0 b0 s0 h ha hb he
        rw [data_list, data_list, strU_list, he] at hc
        simp at hc, rfl⟩
      clear htg hra hok
      generalize itemV k a b s = x at HI HL
      generalize litV k a b s = l at HL hc
      obtain ⟨t, f, y, rfl, hm, hcf, hl⟩ := HL.out
      have HF : Hid _ := hl
      clear hl HL
      have HKC : Hid (KC w w1 k a b s (w1.alloc (.cells #[I k, I a, I b, .string s] 23))) := ⟨HKA.out.G ((G.refl _).alloc _), fun o => by simp, fun o => by simp, by simp⟩
      go_wp2_with fail
      generalize w1.alloc (.cells #[I k, I a, I b, .string s] 23) = wb at HKC ⊢
      refine (HI.out _ (HE.out.G HKC.out.kb.g).t).mono ?_
      rintro e w2 ⟨rfl, hb⟩
      have HK2 : Hid (KC w w1 k a b s w2) := HKC.out.G hb
      clear hb HKC HKA
      go_wp2_with fail
      refine (HF.out w2 (HE.out.G HK2.out.kb.g)).mono ?_
      rintro e w3 ⟨rfl, hb⟩
      have HK3 : Hid (KC w w1 k a b s w3) := HK2.out.G hb
      clear hb HK2
      have hcA := HK3.out.kb.c
      have hfA := HK3.out.kb.f
      have hcB := HK3.out.c
      go_wp2
      all_goals refine bodyPost_ret (v := .tuple #[V 0 0 0 E0, .int .i64 14]) (by simp [results, Tryz.results95, go_sem, hcA]) rfl ⟨_, rfl, HT.out, by repeat (first | exact HK3.out.kb.g | refine G.setCell ?_ (Nat.le_refl _) _)⟩
end Go.Proofs.YthpflfkgbapbnaaGreatDoor
