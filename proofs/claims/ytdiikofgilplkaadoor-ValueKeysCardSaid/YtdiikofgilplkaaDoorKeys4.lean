/- ValueKeys: the law at any arguments. -/
import Derived.Test.YtdiikofgilplkaaDoorKeys3l
import Derived.Test.YtdiikofgilplkaaDoorKeys3g
import Derived.Test.YtdiikofgilplkaaDoorKeys3e
import Derived.Test.YtdiikofgilplkaaDoorEncLt
namespace Go.Proofs.YtdiikofgilplkaaDoor
open Go.RowKit

set_option maxRecDepth 100000 in
set_option maxHeartbeats 4000000 in
theorem keys_no0 (l m : ByteArray) (k a b k' a' b' : Int) (s s' : ByteArray) (p q : Int) (hnm1 : nameB l = false) (w : World) : Calls Tryd.prog 4 #[.string l, .string m, V k a b s, V k' a' b' s', .int .i64 p, .int .i64 q] w fun e w' => e = .returned (.bool true) ∧ G w w' := by
  have Hnm1 : Hid (∀ w, Calls Tryd.prog 10 #[.string l] w fun e w' => e = .returned (.bool (nameB l)) ∧ w' = w) := rnm_any l
  rw [hnm1] at Hnm1
  clear hnm1
  have hks := KS.start w k a b k' a' b' s s'
  go_enter Tryd.func4, Tryd.ntmps4
  go_wp2_with fail
  generalize (w.alloc (.cells #[I k, I a, I b, .string s] 30)).alloc (.cells #[I k', I a', I b', .string s'] 30) = w0 at hks ⊢
  refine (Hnm1.out _).mono ?_
  rintro e w1 ⟨rfl, hw⟩
  rw [hw]
  clear hw w1
  go_wp2
  go_ret
  exact ⟨rfl, hks.g⟩
set_option maxRecDepth 100000 in
set_option maxHeartbeats 4000000 in
theorem keys_no1 (l m : ByteArray) (k a b k' a' b' : Int) (s s' : ByteArray) (p q : Int) (hnm1 : nameB l = true) (hnm2 : nameB m = false) (w : World) : Calls Tryd.prog 4 #[.string l, .string m, V k a b s, V k' a' b' s', .int .i64 p, .int .i64 q] w fun e w' => e = .returned (.bool true) ∧ G w w' := by
  have Hnm1 : Hid (∀ w, Calls Tryd.prog 10 #[.string l] w fun e w' => e = .returned (.bool (nameB l)) ∧ w' = w) := rnm_any l
  rw [hnm1] at Hnm1
  clear hnm1
  have Hnm2 : Hid (∀ w, Calls Tryd.prog 10 #[.string m] w fun e w' => e = .returned (.bool (nameB m)) ∧ w' = w) := rnm_any m
  rw [hnm2] at Hnm2
  clear hnm2
  have hks := KS.start w k a b k' a' b' s s'
  go_enter Tryd.func4, Tryd.ntmps4
  go_wp2_with fail
  generalize (w.alloc (.cells #[I k, I a, I b, .string s] 30)).alloc (.cells #[I k', I a', I b', .string s'] 30) = w0 at hks ⊢
  refine (Hnm1.out _).mono ?_
  rintro e w1 ⟨rfl, hw⟩
  rw [hw]
  clear hw w1
  have hx1 := hks.c1
  have hx2 := hks.c2
  go_wp2_with fail
  clear hx1 hx2
  refine (Hnm2.out _).mono ?_
  rintro e w1 ⟨rfl, hw⟩
  rw [hw]
  clear hw w1
  go_wp2
  go_ret
  exact ⟨rfl, hks.g⟩
set_option maxRecDepth 100000 in
set_option maxHeartbeats 4000000 in
theorem keys_no2 (l m : ByteArray) (k a b k' a' b' : Int) (s s' : ByteArray) (p q : Int) (hs : s.size ≤ 4611686018427387904) (hnm1 : nameB l = true) (hnm2 : nameB m = true) (hst1 : stoV k a b s = false) (w : World) : Calls Tryd.prog 4 #[.string l, .string m, V k a b s, V k' a' b' s', .int .i64 p, .int .i64 q] w fun e w' => e = .returned (.bool true) ∧ G w w' := by
  have Hnm1 : Hid (∀ w, Calls Tryd.prog 10 #[.string l] w fun e w' => e = .returned (.bool (nameB l)) ∧ w' = w) := rnm_any l
  rw [hnm1] at Hnm1
  clear hnm1
  have Hnm2 : Hid (∀ w, Calls Tryd.prog 10 #[.string m] w fun e w' => e = .returned (.bool (nameB m)) ∧ w' = w) := rnm_any m
  rw [hnm2] at Hnm2
  clear hnm2
  have Hst1 : Hid (∀ w, Calls Tryd.prog 11 #[V k a b s] w fun e w' => e = .returned (.bool (stoV k a b s)) ∧ G w w') := rst_any k a b s hs
  rw [hst1] at Hst1
  clear hst1
  have hks := KS.start w k a b k' a' b' s s'
  go_enter Tryd.func4, Tryd.ntmps4
  go_wp2_with fail
  generalize (w.alloc (.cells #[I k, I a, I b, .string s] 30)).alloc (.cells #[I k', I a', I b', .string s'] 30) = w0 at hks ⊢
  refine (Hnm1.out _).mono ?_
  rintro e w1 ⟨rfl, hw⟩
  rw [hw]
  clear hw w1
  have hx1 := hks.c1
  have hx2 := hks.c2
  go_wp2_with fail
  clear hx1 hx2
  refine (Hnm2.out _).mono ?_
  rintro e w1 ⟨rfl, hw⟩
  rw [hw]
  clear hw w1
  have hx1 := hks.c1
  have hx2 := hks.c2
  go_wp2_with fail
  clear hx1 hx2
  refine (Hst1.out _).mono ?_
  rintro e w1 ⟨rfl, hb⟩
  replace hks := hks.keep hb
  clear hb
  go_wp2
  go_ret
  exact ⟨rfl, hks.g⟩
set_option maxRecDepth 100000 in
set_option maxHeartbeats 4000000 in
theorem keys_no3 (l m : ByteArray) (k a b k' a' b' : Int) (s s' : ByteArray) (p q : Int) (hs : s.size ≤ 4611686018427387904) (hs' : s'.size ≤ 4611686018427387904) (hnm1 : nameB l = true) (hnm2 : nameB m = true) (hst1 : stoV k a b s = true) (hst2 : stoV k' a' b' s' = false) (w : World) : Calls Tryd.prog 4 #[.string l, .string m, V k a b s, V k' a' b' s', .int .i64 p, .int .i64 q] w fun e w' => e = .returned (.bool true) ∧ G w w' := by
  have Hnm1 : Hid (∀ w, Calls Tryd.prog 10 #[.string l] w fun e w' => e = .returned (.bool (nameB l)) ∧ w' = w) := rnm_any l
  rw [hnm1] at Hnm1
  clear hnm1
  have Hnm2 : Hid (∀ w, Calls Tryd.prog 10 #[.string m] w fun e w' => e = .returned (.bool (nameB m)) ∧ w' = w) := rnm_any m
  rw [hnm2] at Hnm2
  clear hnm2
  have Hst1 : Hid (∀ w, Calls Tryd.prog 11 #[V k a b s] w fun e w' => e = .returned (.bool (stoV k a b s)) ∧ G w w') := rst_any k a b s hs
  rw [hst1] at Hst1
  clear hst1
  have Hst2 : Hid (∀ w, Calls Tryd.prog 11 #[V k' a' b' s'] w fun e w' => e = .returned (.bool (stoV k' a' b' s')) ∧ G w w') := rst_any k' a' b' s' hs'
  rw [hst2] at Hst2
  clear hst2
  have hks := KS.start w k a b k' a' b' s s'
  go_enter Tryd.func4, Tryd.ntmps4
  go_wp2_with fail
  generalize (w.alloc (.cells #[I k, I a, I b, .string s] 30)).alloc (.cells #[I k', I a', I b', .string s'] 30) = w0 at hks ⊢
  refine (Hnm1.out _).mono ?_
  rintro e w1 ⟨rfl, hw⟩
  rw [hw]
  clear hw w1
  have hx1 := hks.c1
  have hx2 := hks.c2
  go_wp2_with fail
  clear hx1 hx2
  refine (Hnm2.out _).mono ?_
  rintro e w1 ⟨rfl, hw⟩
  rw [hw]
  clear hw w1
  have hx1 := hks.c1
  have hx2 := hks.c2
  go_wp2_with fail
  clear hx1 hx2
  refine (Hst1.out _).mono ?_
  rintro e w1 ⟨rfl, hb⟩
  replace hks := hks.keep hb
  clear hb
  have hx1 := hks.c1
  have hx2 := hks.c2
  go_wp2_with fail
  clear hx1 hx2
  refine (Hst2.out _).mono ?_
  rintro e w2 ⟨rfl, hb⟩
  replace hks := hks.keep hb
  clear hb
  go_wp2
  go_ret
  exact ⟨rfl, hks.g⟩
set_option maxRecDepth 100000 in
set_option maxHeartbeats 4000000 in
theorem keys_no4 (l m : ByteArray) (k a b k' a' b' : Int) (s s' : ByteArray) (p q : Int) (hs : s.size ≤ 4611686018427387904) (hs' : s'.size ≤ 4611686018427387904) (hnm1 : nameB l = true) (hnm2 : nameB m = true) (hst1 : stoV k a b s = true) (hst2 : stoV k' a' b' s' = true) (hp1 : p < 1) (w : World) : Calls Tryd.prog 4 #[.string l, .string m, V k a b s, V k' a' b' s', .int .i64 p, .int .i64 q] w fun e w' => e = .returned (.bool true) ∧ G w w' := by
  have Hnm1 : Hid (∀ w, Calls Tryd.prog 10 #[.string l] w fun e w' => e = .returned (.bool (nameB l)) ∧ w' = w) := rnm_any l
  rw [hnm1] at Hnm1
  clear hnm1
  have Hnm2 : Hid (∀ w, Calls Tryd.prog 10 #[.string m] w fun e w' => e = .returned (.bool (nameB m)) ∧ w' = w) := rnm_any m
  rw [hnm2] at Hnm2
  clear hnm2
  have Hst1 : Hid (∀ w, Calls Tryd.prog 11 #[V k a b s] w fun e w' => e = .returned (.bool (stoV k a b s)) ∧ G w w') := rst_any k a b s hs
  rw [hst1] at Hst1
  clear hst1
  have Hst2 : Hid (∀ w, Calls Tryd.prog 11 #[V k' a' b' s'] w fun e w' => e = .returned (.bool (stoV k' a' b' s')) ∧ G w w') := rst_any k' a' b' s' hs'
  rw [hst2] at Hst2
  clear hst2
  have hks := KS.start w k a b k' a' b' s s'
  go_enter Tryd.func4, Tryd.ntmps4
  go_wp2_with fail
  generalize (w.alloc (.cells #[I k, I a, I b, .string s] 30)).alloc (.cells #[I k', I a', I b', .string s'] 30) = w0 at hks ⊢
  refine (Hnm1.out _).mono ?_
  rintro e w1 ⟨rfl, hw⟩
  rw [hw]
  clear hw w1
  have hx1 := hks.c1
  have hx2 := hks.c2
  go_wp2_with fail
  clear hx1 hx2
  refine (Hnm2.out _).mono ?_
  rintro e w1 ⟨rfl, hw⟩
  rw [hw]
  clear hw w1
  have hx1 := hks.c1
  have hx2 := hks.c2
  go_wp2_with fail
  clear hx1 hx2
  refine (Hst1.out _).mono ?_
  rintro e w1 ⟨rfl, hb⟩
  replace hks := hks.keep hb
  clear hb
  have hx1 := hks.c1
  have hx2 := hks.c2
  go_wp2_with fail
  clear hx1 hx2
  refine (Hst2.out _).mono ?_
  rintro e w2 ⟨rfl, hb⟩
  replace hks := hks.keep hb
  clear hb
  go_wp2
  go_ret
  exact ⟨rfl, hks.g⟩
set_option maxRecDepth 100000 in
set_option maxHeartbeats 4000000 in
theorem keys_no5 (l m : ByteArray) (k a b k' a' b' : Int) (s s' : ByteArray) (p q : Int) (hs : s.size ≤ 4611686018427387904) (hs' : s'.size ≤ 4611686018427387904) (hnm1 : nameB l = true) (hnm2 : nameB m = true) (hst1 : stoV k a b s = true) (hst2 : stoV k' a' b' s' = true) (hp1 : 1 ≤ p) (hq1 : q < 1) (w : World) : Calls Tryd.prog 4 #[.string l, .string m, V k a b s, V k' a' b' s', .int .i64 p, .int .i64 q] w fun e w' => e = .returned (.bool true) ∧ G w w' := by
  have Hnm1 : Hid (∀ w, Calls Tryd.prog 10 #[.string l] w fun e w' => e = .returned (.bool (nameB l)) ∧ w' = w) := rnm_any l
  rw [hnm1] at Hnm1
  clear hnm1
  have Hnm2 : Hid (∀ w, Calls Tryd.prog 10 #[.string m] w fun e w' => e = .returned (.bool (nameB m)) ∧ w' = w) := rnm_any m
  rw [hnm2] at Hnm2
  clear hnm2
  have Hst1 : Hid (∀ w, Calls Tryd.prog 11 #[V k a b s] w fun e w' => e = .returned (.bool (stoV k a b s)) ∧ G w w') := rst_any k a b s hs
  rw [hst1] at Hst1
  clear hst1
  have Hst2 : Hid (∀ w, Calls Tryd.prog 11 #[V k' a' b' s'] w fun e w' => e = .returned (.bool (stoV k' a' b' s')) ∧ G w w') := rst_any k' a' b' s' hs'
  rw [hst2] at Hst2
  clear hst2
  have hks := KS.start w k a b k' a' b' s s'
  go_enter Tryd.func4, Tryd.ntmps4
  go_wp2_with fail
  generalize (w.alloc (.cells #[I k, I a, I b, .string s] 30)).alloc (.cells #[I k', I a', I b', .string s'] 30) = w0 at hks ⊢
  refine (Hnm1.out _).mono ?_
  rintro e w1 ⟨rfl, hw⟩
  rw [hw]
  clear hw w1
  have hx1 := hks.c1
  have hx2 := hks.c2
  go_wp2_with fail
  clear hx1 hx2
  refine (Hnm2.out _).mono ?_
  rintro e w1 ⟨rfl, hw⟩
  rw [hw]
  clear hw w1
  have hx1 := hks.c1
  have hx2 := hks.c2
  go_wp2_with fail
  clear hx1 hx2
  refine (Hst1.out _).mono ?_
  rintro e w1 ⟨rfl, hb⟩
  replace hks := hks.keep hb
  clear hb
  have hx1 := hks.c1
  have hx2 := hks.c2
  go_wp2_with fail
  clear hx1 hx2
  refine (Hst2.out _).mono ?_
  rintro e w2 ⟨rfl, hb⟩
  replace hks := hks.keep hb
  clear hb
  go_wp2
  go_ret
  exact ⟨rfl, hks.g⟩
set_option maxRecDepth 100000 in
set_option maxHeartbeats 4000000 in
theorem keys_no6 (l m : ByteArray) (k a b k' a' b' : Int) (s s' : ByteArray) (p q : Int) (hs : s.size ≤ 4611686018427387904) (hs' : s'.size ≤ 4611686018427387904) (hnm1 : nameB l = true) (hnm2 : nameB m = true) (hst1 : stoV k a b s = true) (hst2 : stoV k' a' b' s' = true) (hp1 : 1 ≤ p) (hq1 : 1 ≤ q) (hp2 : 4294967295 < p) (w : World) : Calls Tryd.prog 4 #[.string l, .string m, V k a b s, V k' a' b' s', .int .i64 p, .int .i64 q] w fun e w' => e = .returned (.bool true) ∧ G w w' := by
  have Hnm1 : Hid (∀ w, Calls Tryd.prog 10 #[.string l] w fun e w' => e = .returned (.bool (nameB l)) ∧ w' = w) := rnm_any l
  rw [hnm1] at Hnm1
  clear hnm1
  have Hnm2 : Hid (∀ w, Calls Tryd.prog 10 #[.string m] w fun e w' => e = .returned (.bool (nameB m)) ∧ w' = w) := rnm_any m
  rw [hnm2] at Hnm2
  clear hnm2
  have Hst1 : Hid (∀ w, Calls Tryd.prog 11 #[V k a b s] w fun e w' => e = .returned (.bool (stoV k a b s)) ∧ G w w') := rst_any k a b s hs
  rw [hst1] at Hst1
  clear hst1
  have Hst2 : Hid (∀ w, Calls Tryd.prog 11 #[V k' a' b' s'] w fun e w' => e = .returned (.bool (stoV k' a' b' s')) ∧ G w w') := rst_any k' a' b' s' hs'
  rw [hst2] at Hst2
  clear hst2
  have hks := KS.start w k a b k' a' b' s s'
  go_enter Tryd.func4, Tryd.ntmps4
  go_wp2_with fail
  generalize (w.alloc (.cells #[I k, I a, I b, .string s] 30)).alloc (.cells #[I k', I a', I b', .string s'] 30) = w0 at hks ⊢
  refine (Hnm1.out _).mono ?_
  rintro e w1 ⟨rfl, hw⟩
  rw [hw]
  clear hw w1
  have hx1 := hks.c1
  have hx2 := hks.c2
  go_wp2_with fail
  clear hx1 hx2
  refine (Hnm2.out _).mono ?_
  rintro e w1 ⟨rfl, hw⟩
  rw [hw]
  clear hw w1
  have hx1 := hks.c1
  have hx2 := hks.c2
  go_wp2_with fail
  clear hx1 hx2
  refine (Hst1.out _).mono ?_
  rintro e w1 ⟨rfl, hb⟩
  replace hks := hks.keep hb
  clear hb
  have hx1 := hks.c1
  have hx2 := hks.c2
  go_wp2_with fail
  clear hx1 hx2
  refine (Hst2.out _).mono ?_
  rintro e w2 ⟨rfl, hb⟩
  replace hks := hks.keep hb
  clear hb
  go_wp2
  go_ret
  exact ⟨rfl, hks.g⟩
set_option maxRecDepth 100000 in
set_option maxHeartbeats 4000000 in
theorem keys_no7 (l m : ByteArray) (k a b k' a' b' : Int) (s s' : ByteArray) (p q : Int) (hs : s.size ≤ 4611686018427387904) (hs' : s'.size ≤ 4611686018427387904) (hnm1 : nameB l = true) (hnm2 : nameB m = true) (hst1 : stoV k a b s = true) (hst2 : stoV k' a' b' s' = true) (hp1 : 1 ≤ p) (hq1 : 1 ≤ q) (hp2 : p ≤ 4294967295) (hq2 : 4294967295 < q) (w : World) : Calls Tryd.prog 4 #[.string l, .string m, V k a b s, V k' a' b' s', .int .i64 p, .int .i64 q] w fun e w' => e = .returned (.bool true) ∧ G w w' := by
  have Hnm1 : Hid (∀ w, Calls Tryd.prog 10 #[.string l] w fun e w' => e = .returned (.bool (nameB l)) ∧ w' = w) := rnm_any l
  rw [hnm1] at Hnm1
  clear hnm1
  have Hnm2 : Hid (∀ w, Calls Tryd.prog 10 #[.string m] w fun e w' => e = .returned (.bool (nameB m)) ∧ w' = w) := rnm_any m
  rw [hnm2] at Hnm2
  clear hnm2
  have Hst1 : Hid (∀ w, Calls Tryd.prog 11 #[V k a b s] w fun e w' => e = .returned (.bool (stoV k a b s)) ∧ G w w') := rst_any k a b s hs
  rw [hst1] at Hst1
  clear hst1
  have Hst2 : Hid (∀ w, Calls Tryd.prog 11 #[V k' a' b' s'] w fun e w' => e = .returned (.bool (stoV k' a' b' s')) ∧ G w w') := rst_any k' a' b' s' hs'
  rw [hst2] at Hst2
  clear hst2
  have hks := KS.start w k a b k' a' b' s s'
  go_enter Tryd.func4, Tryd.ntmps4
  go_wp2_with fail
  generalize (w.alloc (.cells #[I k, I a, I b, .string s] 30)).alloc (.cells #[I k', I a', I b', .string s'] 30) = w0 at hks ⊢
  refine (Hnm1.out _).mono ?_
  rintro e w1 ⟨rfl, hw⟩
  rw [hw]
  clear hw w1
  have hx1 := hks.c1
  have hx2 := hks.c2
  go_wp2_with fail
  clear hx1 hx2
  refine (Hnm2.out _).mono ?_
  rintro e w1 ⟨rfl, hw⟩
  rw [hw]
  clear hw w1
  have hx1 := hks.c1
  have hx2 := hks.c2
  go_wp2_with fail
  clear hx1 hx2
  refine (Hst1.out _).mono ?_
  rintro e w1 ⟨rfl, hb⟩
  replace hks := hks.keep hb
  clear hb
  have hx1 := hks.c1
  have hx2 := hks.c2
  go_wp2_with fail
  clear hx1 hx2
  refine (Hst2.out _).mono ?_
  rintro e w2 ⟨rfl, hb⟩
  replace hks := hks.keep hb
  clear hb
  go_wp2
  go_ret
  exact ⟨rfl, hks.g⟩
theorem stoV_ok {k a b : Int} {s : ByteArray} (h : stoV k a b s = true) : okV k a b s = true := by
  unfold stoV at h
  exact (Bool.and_eq_true_iff.1 h).1
theorem keys_yes (l m : ByteArray) (k a b k' a' b' : Int) (s s' : ByteArray) (p q : Nat) (hl : NameP l) (hm : NameP m) (hv : stoV k a b s = true) (hv' : stoV k' a' b' s' = true) (hs : s.size ≤ 4611686018427387904) (hs' : s'.size ≤ 4611686018427387904) (ha : R64 a) (hb : R64 b) (ha' : R64 a') (hb' : R64 b')
    (p1 : 1 ≤ p) (p2 : p ≤ 4294967295) (q1 : 1 ≤ q) (q2 : q ≤ 4294967295) (w : World) (hT : Tabs w) (hR : Rks w) : Calls Tryd.prog 4 #[.string l, .string m, V k a b s, V k' a' b' s', .int .i64 p, .int .i64 q] w fun e w' => e = .returned (.bool true) ∧ G w w' := by
  have ok := stoV_ok hv
  have ok' := stoV_ok hv'
  obtain ⟨pl, el⟩ : ∃ n : Nat, (n : Int) = packK l 8 := ⟨(packK l 8).toNat, by have := (packK_bd l hl 8).1; omega⟩
  obtain ⟨pm, em⟩ : ∃ n : Nat, (n : Int) = packK m 8 := ⟨(packK m 8).toNat, by have := (packK_bd m hm 8).1; omega⟩
  have bpl : pl < 9223372036854775807 := by have := (packK_bd l hl 8).2; rw [← el] at this; omega
  obtain ⟨z, hcm, hz⟩ := cmp_ok k a b k' a' b' s s' ok ok' ha hb ha' hb'
  have N1 : Hid (∀ w, Calls Tryd.prog 10 #[.string l] w fun e w' => e = .returned (.bool true) ∧ w' = w) := by have := rnm_any l; rwa [(nameB_iff l).2 hl] at this
  have N2 : Hid (∀ w, Calls Tryd.prog 10 #[.string m] w fun e w' => e = .returned (.bool true) ∧ w' = w) := by have := rnm_any m; rwa [(nameB_iff m).2 hm] at this
  have S1 : Hid (∀ w, Calls Tryd.prog 11 #[V k a b s] w fun e w' => e = .returned (.bool true) ∧ G w w') := by have := rst_any k a b s hs; rwa [hv] at this
  have S2 : Hid (∀ w, Calls Tryd.prog 11 #[V k' a' b' s'] w fun e w' => e = .returned (.bool true) ∧ G w w') := by have := rst_any k' a' b' s' hs'; rwa [hv'] at this
  have key : ∀ (l m : ByteArray) (hl : NameP l) (hm : NameP m) (pl pm : Nat) (el : (pl : Int) = packK l 8) (em : (pm : Int) = packK m 8) (k a b : Int) (s : ByteArray) (id : Nat) (ok : okV k a b s = true) (hv : stoV k a b s = true) (ha : R64 a) (i1 : 1 ≤ id) (i2 : id ≤ 4294967295),
      Hid (∀ w, Tabs w → Calls Tryd.prog 12 #[.string l, .string m, V k a b s, .int .i64 id] w fun e w' => e = .returned (.tuple #[.agg (cellsOf (keyF pl pm (encV k a b s) id)).toArray, .int .i64 0]) ∧ G w w') := by
    intro l m hl hm pl pm el em k a b s id ok hv ha i1 i2 w hT
    refine (ko_yes l m k a b s id hl hm ok hv i1 i2 ha w hT).mono ?_
    rintro e w' ⟨xl, xm, h1, h2, rfl, hg⟩
    obtain rfl : xl = pl := by omega
    obtain rfl : xm = pm := by omega
    exact ⟨rfl, hg⟩
  have K1 := key l m hl hm pl pm el em k a b s p ok hv ha p1 p2
  have K2 := key l m hl hm pl pm el em k' a' b' s' q ok' hv' ha' q1 q2
  have K3 := key m l hm hl pm pl em el k' a' b' s' q ok' hv' ha' q1 q2
  have P1 : Hid (∀ w, Calls Tryd.prog 13 #[.string l] w fun e w' => e = .returned (.tuple #[.int .i64 pl, .int .i64 0]) ∧ w' = w) := by have := Pk_yes l hl; rwa [← el] at this
  have P2 : Hid (∀ w, Calls Tryd.prog 13 #[.string m] w fun e w' => e = .returned (.tuple #[.int .i64 pm, .int .i64 0]) ∧ w' = w) := by have := Pk_yes m hm; rwa [← em] at this
  have U : Hid (∀ w, Calls Tryd.prog 14 #[.int .i64 pl] w fun e w' => e = .returned (.tuple #[.string l, .int .i64 0]) ∧ G w w') := fun w => by
    refine (un_any pl (by omega) (by omega) w).mono ?_
    rintro e w' ⟨t, c, rfl, hu, hg⟩
    rcases hu with ⟨_, _, h3, rfl⟩ | ⟨h1, _, _⟩
    · rw [h3 l hl el.symm]; exact ⟨rfl, hg⟩
    · exact absurd el.symm (h1 l hl)
  have B1 : Hid (∀ j, j < 24 → keyF pl pm (encV k a b s) p j < 256) := key_lt _ _ _ _ (enc_lt k a b s ok ha hb)
  have B2 : Hid (∀ j, j < 24 → keyF pl pm (encV k' a' b' s') q j < 256) := key_lt _ _ _ _ (enc_lt k' a' b' s' ok' ha' hb')
  have B3 : Hid (∀ j, j < 24 → keyF pm pl (encV k' a' b' s') q j < 256) := key_lt _ _ _ _ (enc_lt k' a' b' s' ok' ha' hb')
  have E : Hid (lx (sub (keyF pl pm (encV k a b s) p) 0 12) (sub (keyF pl pm (encV k' a' b' s') q) 0 12) = 0) := by unfold Hid; rw [key_12, key_12, lx_self]
  have II : Hid _ := key_ids p q p2 q2 pl pm (encV k a b s) (encV k' a' b' s')
  have ZZ := key_vals pl pm (encV k a b s) (encV k' a' b' s') p q z (by
    rcases hz with h | h | ⟨h, rfl, rfl, rfl, rfl⟩
    · exact .inl h
    · exact .inr (.inl h)
    · exact .inr (.inr ⟨h, rfl⟩))
  have D := key_names hl hm pl pm el em (encV k a b s) (encV k' a' b' s') p q
  have h8 := hl.2.1
  have h8' := hm.2.1
  rcases D with ⟨d1, d2, d3⟩ | ⟨d1, d2, d3⟩ | ⟨d1, d2⟩
  · rcases ZZ with ⟨z1, z2⟩ | ⟨z1, z2⟩ | ⟨z1, z2⟩
    · exact keys_ll l m k a b k' a' b' s s' p q _ _ _ pl pm z N1 N2 S1 S2 K1 K2 K3 P1 P2 U hcm B1 B2 B3 h8 h8' ⟨d1, d2, d3⟩ E ⟨z1, by omega⟩ II p1 p2 q1 q2 w hT hR
    · exact keys_lg l m k a b k' a' b' s s' p q _ _ _ pl pm z N1 N2 S1 S2 K1 K2 K3 P1 P2 U hcm B1 B2 B3 h8 h8' ⟨d1, d2, d3⟩ E ⟨z1, by omega⟩ II p1 p2 q1 q2 w hT hR
    · exact keys_le l m k a b k' a' b' s s' p q _ _ _ pl pm z N1 N2 S1 S2 K1 K2 K3 P1 P2 U hcm B1 B2 B3 h8 h8' ⟨d1, d2, d3⟩ E ⟨z1, z2⟩ II p1 p2 q1 q2 w hT hR
  · rcases ZZ with ⟨z1, z2⟩ | ⟨z1, z2⟩ | ⟨z1, z2⟩
    · exact keys_gl l m k a b k' a' b' s s' p q _ _ _ pl pm z N1 N2 S1 S2 K1 K2 K3 P1 P2 U hcm B1 B2 B3 h8 h8' ⟨d1, d2, d3⟩ E ⟨z1, by omega⟩ II p1 p2 q1 q2 w hT hR
    · exact keys_gg l m k a b k' a' b' s s' p q _ _ _ pl pm z N1 N2 S1 S2 K1 K2 K3 P1 P2 U hcm B1 B2 B3 h8 h8' ⟨d1, d2, d3⟩ E ⟨z1, by omega⟩ II p1 p2 q1 q2 w hT hR
    · exact keys_ge l m k a b k' a' b' s s' p q _ _ _ pl pm z N1 N2 S1 S2 K1 K2 K3 P1 P2 U hcm B1 B2 B3 h8 h8' ⟨d1, d2, d3⟩ E ⟨z1, z2⟩ II p1 p2 q1 q2 w hT hR
  · rcases ZZ with ⟨z1, z2⟩ | ⟨z1, z2⟩ | ⟨z1, z2⟩
    · exact keys_el l m k a b k' a' b' s s' p q _ _ _ pl pm z N1 N2 S1 S2 K1 K2 K3 P1 P2 U hcm B1 B2 B3 h8 h8' ⟨d1, d2, rfl⟩ E ⟨z1, by omega⟩ II p1 p2 q1 q2 w hT hR
    · exact keys_eg l m k a b k' a' b' s s' p q _ _ _ pl pm z N1 N2 S1 S2 K1 K2 K3 P1 P2 U hcm B1 B2 B3 h8 h8' ⟨d1, d2, rfl⟩ E ⟨z1, by omega⟩ II p1 p2 q1 q2 w hT hR
    · exact keys_ee l m k a b k' a' b' s s' p q _ _ _ pl pm z N1 N2 S1 S2 K1 K2 K3 P1 P2 U hcm B1 B2 B3 h8 h8' ⟨d1, d2, rfl⟩ E ⟨z1, z2⟩ II p1 p2 q1 q2 w hT hR
theorem keys_any (l m : ByteArray) (k a b k' a' b' : Int) (s s' : ByteArray) (p q : Int) (hs : s.size ≤ 4611686018427387904) (hs' : s'.size ≤ 4611686018427387904) (ha : R64 a) (hb : R64 b) (ha' : R64 a') (hb' : R64 b') (w : World) (hT : Tabs w) (hR : Rks w) :
    Calls Tryd.prog 4 #[.string l, .string m, V k a b s, V k' a' b' s', .int .i64 p, .int .i64 q] w fun e w' => e = .returned (.bool true) ∧ G w w' := by
  cases h1 : nameB l
  · exact keys_no0 l m k a b k' a' b' s s' p q h1 w
  cases h2 : nameB m
  · exact keys_no1 l m k a b k' a' b' s s' p q h1 h2 w
  cases h3 : stoV k a b s
  · exact keys_no2 l m k a b k' a' b' s s' p q hs h1 h2 h3 w
  cases h4 : stoV k' a' b' s'
  · exact keys_no3 l m k a b k' a' b' s s' p q hs hs' h1 h2 h3 h4 w
  by_cases h5 : p < 1
  · exact keys_no4 l m k a b k' a' b' s s' p q hs hs' h1 h2 h3 h4 h5 w
  by_cases h6 : q < 1
  · exact keys_no5 l m k a b k' a' b' s s' p q hs hs' h1 h2 h3 h4 (by omega) h6 w
  by_cases h7 : 4294967295 < p
  · exact keys_no6 l m k a b k' a' b' s s' p q hs hs' h1 h2 h3 h4 (by omega) (by omega) h7 w
  by_cases h8 : 4294967295 < q
  · exact keys_no7 l m k a b k' a' b' s s' p q hs hs' h1 h2 h3 h4 (by omega) (by omega) (by omega) h8 w
  obtain ⟨p, rfl⟩ : ∃ n : Nat, p = n := ⟨p.toNat, by omega⟩
  obtain ⟨q, rfl⟩ : ∃ n : Nat, q = n := ⟨q.toNat, by omega⟩
  exact keys_yes l m k a b k' a' b' s s' p q ((nameB_iff l).1 h1) ((nameB_iff m).1 h2) h3 h4 hs hs' ha hb ha' hb' (by omega) (by omega) (by omega) (by omega) w hT hR
end Go.Proofs.YtdiikofgilplkaaDoor
