/- Compare, the program's and the document's. -/
import Derived.Test.YtdiikofgilplkaaDoorIVal
import Derived.Test.YtdiikofgilplkaaDoorRefCmp2
namespace Go.Proofs.YtdiikofgilplkaaDoor
open Go.RowKit Go.Lib Go.PlainAid Go.Shelf

set_option maxRecDepth 100000 in
set_option maxHeartbeats 1000000 in
theorem ion_yes (k a b : Int) (s : ByteArray) (hok : okV k a b s = true) (w : World) (hT : Tabs w) : Calls Tryd.prog 19 #[V k a b s] w fun e w' => e = .returned (itemV k a b s) ∧ G w w' := by
  have HI : Hid (∀ w, Tabs w → Calls Tryd.prog 21 #[V k a b s] w fun e w' => e = .returned (.tuple #[itemV k a b s, .bool true]) ∧ G w w') := by
    have := itemOf_any k a b s
    unfold ItemOf at this
    rw [hok] at this
    exact this
  clear hok
  generalize itemV k a b s = x at HI
  go_enter Tryd.func19, Tryd.ntmps19
  go_wp2_with fail
  refine (HI.out _ (hT.G ((G.refl w).alloc _))).mono ?_
  rintro e w1 ⟨rfl, hb1⟩
  go_wp2
  go_ret
  exact ⟨rfl, ((G.refl w).alloc _).trans hb1⟩
set_option maxRecDepth 100000 in
set_option maxHeartbeats 1000000 in
theorem ion_no (k a b : Int) (s : ByteArray) (hok : okV k a b s = false) (w : World) (hT : Tabs w) : Calls Tryd.prog 19 #[V k a b s] w fun e w' => e = .returned (.iface 72 (.agg #[])) ∧ G w w' := by
  have HI : Hid (∀ w, Tabs w → Calls Tryd.prog 21 #[V k a b s] w fun e w' => e = .returned (.tuple #[itemV k a b s, .bool false]) ∧ G w w') := by
    have := itemOf_any k a b s
    unfold ItemOf at this
    rw [hok] at this
    exact this
  clear hok
  generalize itemV k a b s = x at HI
  go_enter Tryd.func19, Tryd.ntmps19
  go_wp2_with fail
  refine (HI.out _ (hT.G ((G.refl w).alloc _))).mono ?_
  rintro e w1 ⟨rfl, hb1⟩
  go_wp2
  go_ret
  exact ⟨rfl, ((G.refl w).alloc _).trans hb1⟩
/-- What itemOrNull makes of a value. -/
noncomputable def ionV (k a b : Int) (s : ByteArray) : Value := if okV k a b s then itemV k a b s else .iface 72 (.agg #[])
theorem ion_any (k a b : Int) (s : ByteArray) (w : World) (hT : Tabs w) : Calls Tryd.prog 19 #[V k a b s] w fun e w' => e = .returned (ionV k a b s) ∧ G w w' := by
  unfold ionV
  cases hok : okV k a b s
  · exact ion_no k a b s hok w hT
  · exact ion_yes k a b s hok w hT
/-- What Compare takes a value for. -/
structure Nz (k a b : Int) (s : ByteArray) (n : Nat) (a1 b1 : Int) (s1 : ByteArray) : Prop where
  lt : n < 7
  ok : okV n a1 b1 s1 = true
  st : (okV k a b s = true ∧ k = n ∧ a = a1 ∧ b = b1 ∧ s = s1) ∨ (okV k a b s = false ∧ n = 0 ∧ a1 = 0 ∧ b1 = 0 ∧ s1 = E0)
theorem ok_null : okV 0 0 0 E0 = true := by
  have h : E0.toList = [] := by rw [ByteArray.toList_eq]
  simp [okV, h]
theorem nz_ex (k a b : Int) (s : ByteArray) : ∃ (n : Nat) (a1 b1 : Int) (s1 : ByteArray), Nz k a b s n a1 b1 s1 := by
  cases hok : okV k a b s
  · exact ⟨0, 0, 0, E0, by decide, ok_null, .inr ⟨hok, rfl, rfl, rfl, rfl⟩⟩
  · have hk := okV_kind k a b s hok
    obtain ⟨n, rfl⟩ : ∃ n : Nat, k = n := ⟨k.toNat, by omega⟩
    exact ⟨n, a, b, s, by omega, hok, .inl ⟨hok, rfl, rfl, rfl, rfl⟩⟩
theorem ion_nz {k a b : Int} {s : ByteArray} {n : Nat} {a1 b1 : Int} {s1 : ByteArray} (h : Nz k a b s n a1 b1 s1) : IVal (ionV k a b s) n a1 b1 s1 := by
  unfold ionV
  rcases h.st with ⟨hok, rfl, rfl, rfl, rfl⟩ | ⟨hok, rfl, rfl, rfl, rfl⟩
  · rw [hok]; exact ival_any _ _ _ _ hok
  · rw [hok]; exact iv_null
/-- What the program answers. -/
def cmpP (n n' : Nat) (a b a' b' : Int) (s s' : ByteArray) : Int := or5 (cI (rkP n) (rkP n')) (cI a a') (cI n n') (cI b b') (compareBytes s.data.toList s'.data.toList)
set_option maxRecDepth 100000 in
set_option maxHeartbeats 1000000 in
theorem Compare_any (k a b k' a' b' : Int) (s s' : ByteArray) (n n' : Nat) (a1 b1 a1' b1' : Int) (s1 s1' : ByteArray) (h : Nz k a b s n a1 b1 s1) (h' : Nz k' a' b' s' n' a1' b1' s1') (w : World) (hT : Tabs w) (hR : Rks w) :
    Calls Tryd.prog 7 #[V k a b s, V k' a' b' s'] w fun e w' => e = .returned (.int .i64 (cmpP n n' a1 b1 a1' b1' s1 s1')) ∧ G w w' := by
  have H1 : Hid (∀ k a b s W, G w W → Calls Tryd.prog 19 #[V k a b s] W fun e w' => e = .returned (ionV k a b s) ∧ G W w') := fun k a b s W g => ion_any k a b s W (hT.G g)
  have H3 : Hid (∀ W, G w W → Calls Tryd.prog 18 #[ionV k a b s, ionV k' a' b' s'] W fun e w' => e = .returned (.int .i64 (cmpP n n' a1 b1 a1' b1' s1 s1')) ∧ G W w') := fun W g => compare_any _ _ n n' a1 b1 a1' b1' s1 s1' (ion_nz h) (ion_nz h') h.lt h'.lt W (hR.G g)
  generalize cmpP n n' a1 b1 a1' b1' s1 s1' = r at H3
  clear h h' hT hR
  have hc0 : ∀ o, ((w.alloc (.cells #[I k, I a, I b, .string s] 30)).alloc (.cells #[I k', I a', I b', .string s'] 30)).cell? { block := w.heap.size, off := o } = [I k, I a, I b, Value.string s][o]? := fun o => by simp
  have hc1 : ∀ o, ((w.alloc (.cells #[I k, I a, I b, .string s] 30)).alloc (.cells #[I k', I a', I b', .string s'] 30)).cell? { block := w.heap.size + 1, off := o } = [I k', I a', I b', Value.string s'][o]? := fun o => by simp
  have hg0 : G w ((w.alloc (.cells #[I k, I a, I b, .string s] 30)).alloc (.cells #[I k', I a', I b', .string s'] 30)) := ((G.refl w).alloc _).alloc _
  have hz0 : w.heap.size < ((w.alloc (.cells #[I k, I a, I b, .string s] 30)).alloc (.cells #[I k', I a', I b', .string s'] 30)).heap.size := by simp; omega
  have hz1 : w.heap.size + 1 < ((w.alloc (.cells #[I k, I a, I b, .string s] 30)).alloc (.cells #[I k', I a', I b', .string s'] 30)).heap.size := by simp
  go_enter Tryd.func7, Tryd.ntmps7
  go_wp2
  generalize (w.alloc (.cells #[I k, I a, I b, .string s] 30)).alloc (.cells #[I k', I a', I b', .string s'] 30) = w1 at hc0 hc1 hg0 hz0 hz1 ⊢
  have hS0 : (∀ (o : Nat), w1.cell? { block := w.heap.size, off := o } = [I k, I a, I b, Value.string s][o]?) ∧ (∀ (o : Nat), w1.cell? { block := w.heap.size + 1, off := o } = [I k', I a', I b', Value.string s'][o]?) ∧ G w w1 ∧ w.heap.size < w1.heap.size ∧ w.heap.size + 1 < w1.heap.size := ⟨hc0, hc1, hg0, hz0, hz1⟩
  clear hc0 hc1 hg0 hz0 hz1
  go_region_held3 (fun W => (∀ (o : Nat), W.cell? { block := w.heap.size, off := o } = [I k, I a, I b, Value.string s][o]?) ∧ (∀ (o : Nat), W.cell? { block := w.heap.size + 1, off := o } = [I k', I a', I b', Value.string s'][o]?) ∧ G w W ∧ w.heap.size < W.heap.size ∧ w.heap.size + 1 < W.heap.size)
    ((first | assumption | exact keepE2 (by assumption) | exact keepC2 hb5 (by assumption) | exact keepC2 hb5 (keepE2 (by assumption)) | exact keepE2 (keepC2 hb5 (by assumption))))
    (first | (go_at_call 19; refine (H1.out _ _ _ _ _ (by first | assumption | exact G.drew (by assumption) | exact And.left (And.right (And.right (by assumption))) | exact G.drew (And.left (And.right (And.right (by assumption)))))).mono ?_; rintro e w5 ⟨rfl, hb5⟩) | (go_at_call 18; refine (H3.out _ (by first | assumption | exact G.drew (by assumption) | exact And.left (And.right (And.right (by assumption))) | exact G.drew (And.left (And.right (And.right (by assumption)))))).mono ?_; rintro e w5 ⟨rfl, hb5⟩) | fail)
  rename_i hH
  obtain ⟨hc2, hc3, hg2, hz2, hz3⟩ := hH
  go_wp2
  go_ret
  exact ⟨rfl, hg2⟩
theorem rv_nz {k a b : Int} {s : ByteArray} (q : Bool) (hs : s.size ≤ 4611686018427387904) (hok : okV k a b s = q) (w : World) : Calls Tryd.prog 15 #[V k a b s] w fun e w' => e = .returned (.bool q) ∧ G w w' := by
  have := rv_any k a b s hs w
  rw [hok] at this
  exact this
theorem cI_zero {x y : Int} : cI x y = 0 ↔ x = y := by
  unfold cI
  constructor
  · intro h
    by_cases c : x < y
    · rw [if_pos c] at h; omega
    · rw [if_neg c] at h
      by_cases d : y < x
      · rw [if_pos d] at h; omega
      · omega
  · rintro rfl; simp
theorem cI_rank (n n' : Nat) (h : n < 7) (h' : n' < 7) : cI (rkP n) (rkP n') = cI (rkR n) (rkR n') := by
  have a : n = 0 ∨ n = 1 ∨ n = 2 ∨ n = 3 ∨ n = 4 ∨ n = 5 ∨ n = 6 := by omega
  have b : n' = 0 ∨ n' = 1 ∨ n' = 2 ∨ n' = 3 ∨ n' = 4 ∨ n' = 5 ∨ n' = 6 := by omega
  rcases a with rfl | rfl | rfl | rfl | rfl | rfl | rfl <;> rcases b with rfl | rfl | rfl | rfl | rfl | rfl | rfl <;> rfl
/-- Of one rank: both strings, or no string in either. -/
theorem rank_str {n n' : Nat} {a b a' b' : Int} {s s' : ByteArray} (h : n < 7) (h' : n' < 7) (ok : okV n a b s = true) (ok' : okV n' a' b' s' = true) (he : rkR n = rkR n') :
    (a = 0 ∧ a' = 0 ∧ b = 0 ∧ b' = 0 ∧ n = n') ∨ (s = E0 ∧ s' = E0) := by
  have c : n = 0 ∨ n = 1 ∨ n = 2 ∨ n = 3 ∨ n = 4 ∨ n = 5 ∨ n = 6 := by omega
  have d : n' = 0 ∨ n' = 1 ∨ n' = 2 ∨ n' = 3 ∨ n' = 4 ∨ n' = 5 ∨ n' = 6 := by omega
  have st : ∀ (m : Nat) (x y : Int) (t : ByteArray), m < 7 → m ≠ 4 → okV m x y t = true → t = E0 := by
    intro m x y t hm h4 hk
    have e : m = 0 ∨ m = 1 ∨ m = 2 ∨ m = 3 ∨ m = 5 ∨ m = 6 := by omega
    rcases e with rfl | rfl | rfl | rfl | rfl | rfl
    · exact (ok_0 hk).2.2
    · exact (ok_1 hk).2.2
    · exact (ok_2 hk).2
    · exact (ok_3 hk).2.2
    · exact (ok_5 hk).2
    · exact (ok_6 hk).2
  by_cases e : n = 4
  · subst e
    have e' : n' = 4 := by
      rcases d with rfl | rfl | rfl | rfl | rfl | rfl | rfl <;> first | rfl | (exact absurd he (by decide))
    subst e'
    exact .inl ⟨(ok_4 ok).1, (ok_4 ok').1, (ok_4 ok).2.1, (ok_4 ok').2.1, rfl⟩
  · have e' : n' ≠ 4 := by
      rintro rfl
      rcases c with rfl | rfl | rfl | rfl | rfl | rfl | rfl <;> first | (exact absurd rfl e) | (exact absurd he (by decide))
    exact .inr ⟨st n a b s h e ok, st n' a' b' s' h' e' ok'⟩
theorem cmp_same {n n' : Nat} {a b a' b' : Int} {s s' : ByteArray} (h : n < 7) (h' : n' < 7) (ok : okV n a b s = true) (ok' : okV n' a' b' s' = true) : cmpP n n' a b a' b' s s' = cmpR n n' a b a' b' s s' := by
  unfold cmpP cmpR
  rw [cI_rank n n' h h']
  by_cases he : rkR n = rkR n'
  · have z : cI (rkR n) (rkR n') = 0 := cI_zero.2 he
    rcases rank_str h h' ok ok' he with ⟨rfl, rfl, rfl, rfl, rfl⟩ | ⟨rfl, rfl⟩
    · have z1 : cI 0 0 = 0 := rfl
      have z2 : cI (n : Int) n = 0 := cI_zero.2 rfl
      simp only [or5, z, z1, z2]
      simp
    · have z1 : compareBytes E0.data.toList E0.data.toList = 0 := rfl
      simp only [or5, z, z1]
      by_cases c1 : cI a a' = 0
      · by_cases c2 : cI (n : Int) n' = 0
        · by_cases c3 : cI b b' = 0
          · simp [c1, c2, c3]
          · simp [c1, c2, c3]
        · simp [c1, c2]
      · simp [c1]
  · have z : cI (rkR n) (rkR n') ≠ 0 := fun e => he (cI_zero.1 e)
    simp [or5, z]
end Go.Proofs.YtdiikofgilplkaaDoor
