/- DiskOwn: the script. -/
import Derived.Test.YtbjbphhcmmaaoaaOw12
namespace Go.Proofs.Ytbjbphhcmmaaoaa
open Go.RowKit

theorem OI.new (w : World) : OI ((w.alloc (.cells #[.pointer none, .pointer none, .pointer none, .pointer none] 57)).alloc (.cells #[.slice none 0 0, .slice none 0 0, .slice none 0 0, .slice none 0 0] 61)) w.heap.size w.heap.size (w.heap.size + 1) 0 0 0 (fun j => j = w.heap.size) (fun _ => False) (fun j => j = w.heap.size + 1) (fun _ => .slice none 0 0) (fun _ => .slice none 0 0) (fun _ => .slice none 0 0) (fun _ => .slice none 0 0) := by
  have hb := Blk.new w [.pointer none, .pointer none, .pointer none, .pointer none] 57
  have hk := Blk.new (w.alloc (.cells #[.pointer none, .pointer none, .pointer none, .pointer none] 57)) [.slice none 0 0, .slice none 0 0, .slice none 0 0, .slice none 0 0] 61
  have hz : (w.alloc (.cells #[.pointer none, .pointer none, .pointer none, .pointer none] 57)).heap.size = w.heap.size + 1 := by simp
  rw [hz] at hk
  have ht : TD (w.alloc (.cells #[.pointer none, .pointer none, .pointer none, .pointer none] 57)) w.heap.size w.heap.size 0 0 (fun j => j = w.heap.size) := ⟨_, .pointer none, .pointer none, fun _ => False, fun _ => False, none, .pointer none, .pointer none, fun _ => False, fun _ => False, none, ⟨⟨hb, rfl, by decide, rfl, rfl, rfl, rfl, fun _ h => h.elim, fun _ h => by simp at h⟩, ⟨hb, rfl, by decide, rfl, rfl, rfl, rfl, fun _ h => h.elim, fun _ h => by simp at h⟩, fun _ h => by simp at h, fun _ h => by simp at h, fun _ h => (by cases h), fun _ h => (by cases h), Nat.le_refl _⟩, fun j hj => by simpa using hj⟩
  refine ⟨ht.chg (F := fun _ => False) (((G.refl _).alloc _).chg) (fun _ _ e => e), ⟨⟨_, _, _, _, hk, World.ownsRow_nil _ _ _ _, World.ownsRow_nil _ _ _ _, World.ownsRow_nil _ _ _ _, World.ownsRow_nil _ _ _ _, fun g hg => by simp [Value.ownBlock] at hg, fun g hg => by simp [Value.ownBlock] at hg, fun g hg => by simp [Value.ownBlock] at hg⟩, fun i hi => by omega, fun i hi => by omega, rfl, Nat.le_refl _, Nat.le_refl _, by decide, by decide⟩, fun j hj => ?_, fun j hj => ?_⟩
  · subst hj
    refine ⟨Nat.le_refl _, ?_, fun h => h, fun h => by omega⟩
    simp only [World.size_alloc]
    omega
  · rcases hj with hj | hj
    · exact hj.elim
    · subst hj
      refine ⟨by omega, ?_⟩
      simp only [World.size_alloc]
      omega
theorem OI.stepA {w w' : World} {z t s bb B n m : Nat} {D K R : Nat → Prop} {X Y U V : Nat → Value} (h : OI w z t bb B n m D K R X Y U V) {cs : List Value} {pv rv : Value} {FP FR : Nat → Prop} {mo : Option DM} {pv' rv' : Value} {FP' FR' : Nat → Prop} {mo' : Option DM} (hT : TW' w z t s B cs pv rv FP FR mo pv' rv' FP' FR' mo') (hD : ∀ j, FP j ∨ FR j ∨ FP' j ∨ FR' j ∨ j = t → D j) (k : StepA w t s cs FP FR B w') : OA w z t bb B n m w' := by
  obtain ⟨h1, h2⟩ := h.step hT hD k
  exact ⟨n, m, _, K, R, X, Y, U, V, h1, by omega, by omega, h2.mono (fun j hj => (h.d j hj).1)⟩
/-- The number of lists stays within the bounds. -/
theorem own_bound {i n nl : Nat} (hn : n ≤ 1048576) (hi : i < n) (h : nl ≤ i * (2 * n + 3)) : nl + 2 * i + 3 ≤ (i + 1) * (2 * n + 3) ∧ nl + 2 * i + 3 ≤ 5864062014805 := by
  have h1 : (i + 1) * (2 * n + 3) = i * (2 * n + 3) + (2 * n + 3) := Nat.succ_mul _ _
  have h2 : (i + 1) * (2 * n + 3) ≤ 1048576 * 2097155 := Nat.mul_le_mul (by omega) (by omega)
  omega
set_option maxRecDepth 100000 in
set_option maxHeartbeats 8000000 in
theorem own_some (b off n cap : Nat) (hn : n ≤ 1048576) (E : Nat → Op) (w : World) (hE : Ops w b off n E) (hK : ∀ i, i < n → OpOk w (E i)) (hL : ∀ i, i < n → ∀ a k c, (E i).dv = .slice a k c → k ≤ 1048576) :
    Calls Try.prog 5 #[.slice (some ⟨b, off, none⟩) n cap] w fun r w' => r = .returned (.bool true) ∧ G w w' := by
  have HE := hide hE
  have HK := hide hK
  have HL := hide hL
  have HI0 := hide (OI.new w)
  have HG0 := hide (((G.refl w).alloc (.cells #[.pointer none, .pointer none, .pointer none, .pointer none] 57)).alloc (.cells #[.slice none 0 0, .slice none 0 0, .slice none 0 0, .slice none 0 0] 61))
  clear hE hK hL
  go_enter Try.func5, Try.ntmps5
  go_wp2
  generalize ((w.alloc (.cells #[.pointer none, .pointer none, .pointer none, .pointer none] 57)).alloc (.cells #[.slice none 0 0, .slice none 0 0, .slice none 0 0, .slice none 0 0] 61)) = w0 at HI0 HG0 ⊢
  go_loopw [5, 6, 7] (fun c _ _ W => ∃ i : Nat, i ≤ n ∧ c = .int .i64 i ∧ ∃ nl ml D K R X Y U V, OI W w.heap.size w.heap.size (w.heap.size + 1) i nl ml D K R X Y U V ∧ nl ≤ i * (2 * n + 3) ∧ ml ≤ 2 * i ∧ G w W) (fun c _ _ _ => n - (RowKit.intOf c).toNat)
  case atStart => exact ⟨0, by omega, rfl, 0, 0, _, _, _, _, _, _, _, HI0.out, by omega, by omega, HG0.out⟩
  case round =>
    obtain ⟨i, hi, rfl, nl, ml, D, K, R, X, Y, U, V, hoi, hnl, hml, hg⟩ := hrel
    have HOI0 := hide hoi
    have HG := hide hg
    have HNL := hide hnl
    have HML0 := hide hml
    clear hoi hg hnl hml HI0 HG0
    by_cases hlt : i < n
    · have HBD := hide (own_bound hn hlt HNL.out)
      have HML : Hid (ml + 2 ≤ 2 * (i + 1) ∧ ml + 2 ≤ 5864062014805) := by have := HML0.out; exact ⟨by omega, by omega⟩
      have HX := hide (rangeAt_G (HE.out i hlt) HG.out)
      have HO := hide ((HK.out i hlt).G HG.out)
      have HO0 := hide (HK.out i hlt)
      have HLL := hide (HL.out i hlt)
      generalize E i = e at HX HO HO0 HLL
      obtain ⟨kind, who, nn, dv, kv⟩ := e
      obtain ⟨xs, hxb, _, hxd⟩ := HO.out.d
      obtain ⟨ks, hkl, hkk⟩ := HO.out.k
      obtain ⟨da, dl, dc, rfl⟩ : ∃ a l c, dv = .slice a l c := by obtain ⟨_, c, h, _⟩ := hxd; exact ⟨_, _, _, h⟩
      obtain ⟨ka, kl, kc, rfl⟩ : ∃ a l c, kv = .slice a l c := by obtain ⟨_, c, h, _⟩ := hkk; exact ⟨_, _, _, h⟩
      have HXL : Hid (xs.length ≤ 1048576) := by
        obtain ⟨_, _, h, _⟩ := hxd
        exact HLL.out _ _ _ h
      have HXB := hide hxb
      have HXD := hide hxd
      have HKL := hide hkl
      have HKK := hide hkk
      have HKN := hide HO.out.kn
      have HZB : Hid (∀ j, Value.blk (.slice da dl dc) j ∨ Value.blk (.slice ka kl kc) j → j < w.heap.size) := fun j hj => hj.elim (HO0.out.db j) (HO0.out.kb j)
      clear hxb hxd hkl hkk HLL HO0
      obtain ⟨s, hs, hw⟩ := and1 who
      obtain ⟨cs, pv, rv, FP, FR, mo, pv', rv', FP', FR', mo', hTW, hDD⟩ := HOI0.out.td.at hs
      have HTW := hide hTW
      have HDD := hide hDD
      clear hTW hDD
      have hiI : (i : Int) < (n : Int) := by omega
      by_cases h4 : kind = 4
      · subst h4
        have HGA := hide ((G.refl wr).alloc (.cells #[I 4, I who, I nn, .slice da dl dc, .slice ka kl kc] 39))
        have HC := hide (gives_read who nn (.slice da dl dc) (.slice ka kl kc) w.heap.size w.heap.size s (w.heap.size + 1) i nl ml D K R X Y U V hs hw (by omega) (by have := HBD.out; omega) _ (HOI0.out.G HGA.out))
        have HR1 : Hid (((wr.alloc (.cells #[I 4, I who, I nn, .slice da dl dc, .slice ka kl kc] 39))).rangeAt wr.heap.size 0 [I 4, I who, I nn, .slice da dl dc, .slice ka kl kc]) := fun j v hv => by rw [Nat.zero_add]; simpa using hv
        go_wp2_with (first | (refine wpList_load_mid rfl 39 _ rfl b (off + i * 5) rfl [I 4, I who, I nn, .slice da dl dc, .slice ka kl kc] _ HX.out Try.underlying39 rfl (by kernel_rfl) ?_) | (refine wpList_load_mid rfl 39 _ rfl wr.heap.size 0 rfl [I 4, I who, I nn, .slice da dl dc, .slice ka kl kc] _ HR1.out Try.underlying39 rfl (by kernel_rfl) ?_) | fail)
        refine HC.out.mono ?_
        rintro e' w2 ⟨rfl, n', m', D', K', R', X', Y', U', V', hoi, hn', hm', hcz⟩
        have HN' := hide hn'
        have HM' := hide hm'
        have HOI := hide hoi
        have HG2 := hide ((HG.out.trans ((G.refl wr).alloc (.cells #[I 4, I who, I nn, .slice da dl dc, .slice ka kl kc] 39))).trans2 hcz)
        clear HC HR1 hoi hcz hn' hm'
        go_wp2_with fail
        refine (kept_any K' R' 0 (w.heap.size + 1) n' m' X' Y' U' V' w2 HOI.out.bk).mono ?_
        rintro e' w3 ⟨rfl, hg3⟩
        have HG3 := hide hg3
        clear hg3
        go_wp2
        go_roundw
        case rel => exact ⟨i + 1, by omega, by go_num, n', m', D', K', R', X', Y', U', V', HOI.out.G HG3.out, by have := HN'.out; have := HBD.out; omega, by have := HM'.out; have := HML.out; omega, HG2.out.trans HG3.out⟩
        case measure => simp [RowKit.intOf]; omega
      by_cases h10 : kind = 10
      · subst h10
        have HGA := hide ((G.refl wr).alloc (.cells #[I 10, I who, I nn, .slice da dl dc, .slice ka kl kc] 39))
        have HC := hide (gives_image who nn (.slice da dl dc) (.slice ka kl kc) w.heap.size w.heap.size s (w.heap.size + 1) i nl ml D K R X Y U V hs hw (by omega) (by have := HBD.out; omega) _ (HOI0.out.G HGA.out))
        have HR1 : Hid (((wr.alloc (.cells #[I 10, I who, I nn, .slice da dl dc, .slice ka kl kc] 39))).rangeAt wr.heap.size 0 [I 10, I who, I nn, .slice da dl dc, .slice ka kl kc]) := fun j v hv => by rw [Nat.zero_add]; simpa using hv
        go_wp2_with (first | (refine wpList_load_mid rfl 39 _ rfl b (off + i * 5) rfl [I 10, I who, I nn, .slice da dl dc, .slice ka kl kc] _ HX.out Try.underlying39 rfl (by kernel_rfl) ?_) | (refine wpList_load_mid rfl 39 _ rfl wr.heap.size 0 rfl [I 10, I who, I nn, .slice da dl dc, .slice ka kl kc] _ HR1.out Try.underlying39 rfl (by kernel_rfl) ?_) | fail)
        refine HC.out.mono ?_
        rintro e' w2 ⟨rfl, n', m', D', K', R', X', Y', U', V', hoi, hn', hm', hcz⟩
        have HN' := hide hn'
        have HM' := hide hm'
        have HOI := hide hoi
        have HG2 := hide ((HG.out.trans ((G.refl wr).alloc (.cells #[I 10, I who, I nn, .slice da dl dc, .slice ka kl kc] 39))).trans2 hcz)
        clear HC HR1 hoi hcz hn' hm'
        go_wp2_with fail
        refine (kept_any K' R' 0 (w.heap.size + 1) n' m' X' Y' U' V' w2 HOI.out.bk).mono ?_
        rintro e' w3 ⟨rfl, hg3⟩
        have HG3 := hide hg3
        clear hg3
        go_wp2
        go_roundw
        case rel => exact ⟨i + 1, by omega, by go_num, n', m', D', K', R', X', Y', U', V', HOI.out.G HG3.out, by have := HN'.out; have := HBD.out; omega, by have := HM'.out; have := HML.out; omega, HG2.out.trans HG3.out⟩
        case measure => simp [RowKit.intOf]; omega
      by_cases h9 : kind = 9
      · subst h9
        have HGA := hide ((G.refl wr).alloc (.cells #[I 9, I who, I nn, .slice da dl dc, .slice ka kl kc] 39))
        have HC := hide (gives_pending who nn (.slice da dl dc) (.slice ka kl kc) w.heap.size w.heap.size s (w.heap.size + 1) i nl ml D K R X Y U V hs hw (by omega) (by have := HBD.out; omega) (by have := HML.out; omega) _ (HOI0.out.G HGA.out))
        have HR1 : Hid (((wr.alloc (.cells #[I 9, I who, I nn, .slice da dl dc, .slice ka kl kc] 39))).rangeAt wr.heap.size 0 [I 9, I who, I nn, .slice da dl dc, .slice ka kl kc]) := fun j v hv => by rw [Nat.zero_add]; simpa using hv
        go_wp2_with (first | (refine wpList_load_mid rfl 39 _ rfl b (off + i * 5) rfl [I 9, I who, I nn, .slice da dl dc, .slice ka kl kc] _ HX.out Try.underlying39 rfl (by kernel_rfl) ?_) | (refine wpList_load_mid rfl 39 _ rfl wr.heap.size 0 rfl [I 9, I who, I nn, .slice da dl dc, .slice ka kl kc] _ HR1.out Try.underlying39 rfl (by kernel_rfl) ?_) | fail)
        refine HC.out.mono ?_
        rintro e' w2 ⟨rfl, n', m', D', K', R', X', Y', U', V', hoi, hn', hm', hcz⟩
        have HN' := hide hn'
        have HM' := hide hm'
        have HOI := hide hoi
        have HG2 := hide ((HG.out.trans ((G.refl wr).alloc (.cells #[I 9, I who, I nn, .slice da dl dc, .slice ka kl kc] 39))).trans2 hcz)
        clear HC HR1 hoi hcz hn' hm'
        go_wp2_with fail
        refine (kept_any K' R' 0 (w.heap.size + 1) n' m' X' Y' U' V' w2 HOI.out.bk).mono ?_
        rintro e' w3 ⟨rfl, hg3⟩
        have HG3 := hide hg3
        clear hg3
        go_wp2
        go_roundw
        case rel => exact ⟨i + 1, by omega, by go_num, n', m', D', K', R', X', Y', U', V', HOI.out.G HG3.out, by have := HN'.out; have := HBD.out; omega, by have := HM'.out; have := HML.out; omega, HG2.out.trans HG3.out⟩
        case measure => simp [RowKit.intOf]; omega
      by_cases h5 : kind = 5
      · subst h5
        have HGA := hide ((G.refl wr).alloc (.cells #[I 5, I who, I nn, .slice da dl dc, .slice ka kl kc] 39))
        have HC := hide (takes_any 5 who nn (.slice da dl dc) (.slice ka kl kc) w.heap.size w.heap.size s (w.heap.size + 1) i nl ml D K R X Y U V (.inl rfl) hs hw (by omega) (by have := HBD.out; omega) xs HXB.out HXL.out _ (HXD.out.G HGA.out) (fun j hj => HZB.out j (.inl hj)) (HOI0.out.G HGA.out))
        have HR1 : Hid (((wr.alloc (.cells #[I 5, I who, I nn, .slice da dl dc, .slice ka kl kc] 39))).rangeAt wr.heap.size 0 [I 5, I who, I nn, .slice da dl dc, .slice ka kl kc]) := fun j v hv => by rw [Nat.zero_add]; simpa using hv
        go_wp2_with (first | (refine wpList_load_mid rfl 39 _ rfl b (off + i * 5) rfl [I 5, I who, I nn, .slice da dl dc, .slice ka kl kc] _ HX.out Try.underlying39 rfl (by kernel_rfl) ?_) | (refine wpList_load_mid rfl 39 _ rfl wr.heap.size 0 rfl [I 5, I who, I nn, .slice da dl dc, .slice ka kl kc] _ HR1.out Try.underlying39 rfl (by kernel_rfl) ?_) | fail)
        refine HC.out.mono ?_
        rintro e' w2 ⟨rfl, n', m', D', K', R', X', Y', U', V', hoi, hn', hm', hcz⟩
        have HN' := hide hn'
        have HM' := hide hm'
        have HOI := hide hoi
        have HG2 := hide ((HG.out.trans ((G.refl wr).alloc (.cells #[I 5, I who, I nn, .slice da dl dc, .slice ka kl kc] 39))).trans2 hcz)
        clear HC HR1 hoi hcz hn' hm'
        go_wp2_with fail
        refine (kept_any K' R' 0 (w.heap.size + 1) n' m' X' Y' U' V' w2 HOI.out.bk).mono ?_
        rintro e' w3 ⟨rfl, hg3⟩
        have HG3 := hide hg3
        clear hg3
        go_wp2
        go_roundw
        case rel => exact ⟨i + 1, by omega, by go_num, n', m', D', K', R', X', Y', U', V', HOI.out.G HG3.out, by have := HN'.out; have := HBD.out; omega, by have := HM'.out; have := HML.out; omega, HG2.out.trans HG3.out⟩
        case measure => simp [RowKit.intOf]; omega
      by_cases h2 : kind = 2
      · subst h2
        have HGA := hide ((G.refl wr).alloc (.cells #[I 2, I who, I nn, .slice da dl dc, .slice ka kl kc] 39))
        have HC := hide (takes_any 2 who nn (.slice da dl dc) (.slice ka kl kc) w.heap.size w.heap.size s (w.heap.size + 1) i nl ml D K R X Y U V (.inr rfl) hs hw (by omega) (by have := HBD.out; omega) xs HXB.out HXL.out _ (HXD.out.G HGA.out) (fun j hj => HZB.out j (.inl hj)) (HOI0.out.G HGA.out))
        have HR1 : Hid (((wr.alloc (.cells #[I 2, I who, I nn, .slice da dl dc, .slice ka kl kc] 39))).rangeAt wr.heap.size 0 [I 2, I who, I nn, .slice da dl dc, .slice ka kl kc]) := fun j v hv => by rw [Nat.zero_add]; simpa using hv
        go_wp2_with (first | (refine wpList_load_mid rfl 39 _ rfl b (off + i * 5) rfl [I 2, I who, I nn, .slice da dl dc, .slice ka kl kc] _ HX.out Try.underlying39 rfl (by kernel_rfl) ?_) | (refine wpList_load_mid rfl 39 _ rfl wr.heap.size 0 rfl [I 2, I who, I nn, .slice da dl dc, .slice ka kl kc] _ HR1.out Try.underlying39 rfl (by kernel_rfl) ?_) | fail)
        refine HC.out.mono ?_
        rintro e' w2 ⟨rfl, n', m', D', K', R', X', Y', U', V', hoi, hn', hm', hcz⟩
        have HN' := hide hn'
        have HM' := hide hm'
        have HOI := hide hoi
        have HG2 := hide ((HG.out.trans ((G.refl wr).alloc (.cells #[I 2, I who, I nn, .slice da dl dc, .slice ka kl kc] 39))).trans2 hcz)
        clear HC HR1 hoi hcz hn' hm'
        go_wp2_with fail
        refine (kept_any K' R' 0 (w.heap.size + 1) n' m' X' Y' U' V' w2 HOI.out.bk).mono ?_
        rintro e' w3 ⟨rfl, hg3⟩
        have HG3 := hide hg3
        clear hg3
        go_wp2
        go_roundw
        case rel => exact ⟨i + 1, by omega, by go_num, n', m', D', K', R', X', Y', U', V', HOI.out.G HG3.out, by have := HN'.out; have := HBD.out; omega, by have := HM'.out; have := HML.out; omega, HG2.out.trans HG3.out⟩
        case measure => simp [RowKit.intOf]; omega
      by_cases h8 : kind = 8
      · subst h8
        have HGA := hide ((G.refl wr).alloc (.cells #[I 8, I who, I nn, .slice da dl dc, .slice ka kl kc] 39))
        have HC : Hid (Calls Try.prog 20 #[.pointer (some ⟨w.heap.size, 0, none⟩), .agg #[I 8, I who, I nn, .slice da dl dc, .slice ka kl kc]] (wr.alloc (.cells #[I 8, I who, I nn, .slice da dl dc, .slice ka kl kc] 39)) fun e w' => e = .returned (.bool true) ∧ OA (wr.alloc (.cells #[I 8, I who, I nn, .slice da dl dc, .slice ka kl kc] 39)) w.heap.size w.heap.size (w.heap.size + 1) i nl ml w') := ((crashes_any who nn (.slice da dl dc) (.slice ka kl kc) w.heap.size s cs pv rv FP FR mo i hw (by omega) ks HKL.out _ (HKK.out.G HGA.out) HKN.out (fun j hj => ⟨fun e => by have := (HOI0.out.d j (HDD.out j (.inl e))).1; have := HZB.out j (.inr hj); omega, fun e => by have := (HOI0.out.d j (HDD.out j (.inr (.inl e)))).1; have := HZB.out j (.inr hj); omega⟩) HTW.out.x (HTW.out.a.G HGA.out)).mono fun e w' h => ⟨h.1, (HOI0.out.G HGA.out).stepA (HTW.out.G HGA.out) HDD.out h.2⟩)
        have HR1 : Hid (((wr.alloc (.cells #[I 8, I who, I nn, .slice da dl dc, .slice ka kl kc] 39))).rangeAt wr.heap.size 0 [I 8, I who, I nn, .slice da dl dc, .slice ka kl kc]) := fun j v hv => by rw [Nat.zero_add]; simpa using hv
        go_wp2_with (first | (refine wpList_load_mid rfl 39 _ rfl b (off + i * 5) rfl [I 8, I who, I nn, .slice da dl dc, .slice ka kl kc] _ HX.out Try.underlying39 rfl (by kernel_rfl) ?_) | (refine wpList_load_mid rfl 39 _ rfl wr.heap.size 0 rfl [I 8, I who, I nn, .slice da dl dc, .slice ka kl kc] _ HR1.out Try.underlying39 rfl (by kernel_rfl) ?_) | fail)
        refine HC.out.mono ?_
        rintro e' w2 ⟨rfl, n', m', D', K', R', X', Y', U', V', hoi, hn', hm', hcz⟩
        have HN' := hide hn'
        have HM' := hide hm'
        have HOI := hide hoi
        have HG2 := hide ((HG.out.trans ((G.refl wr).alloc (.cells #[I 8, I who, I nn, .slice da dl dc, .slice ka kl kc] 39))).trans2 hcz)
        clear HC HR1 hoi hcz hn' hm'
        go_wp2_with fail
        refine (kept_any K' R' 0 (w.heap.size + 1) n' m' X' Y' U' V' w2 HOI.out.bk).mono ?_
        rintro e' w3 ⟨rfl, hg3⟩
        have HG3 := hide hg3
        clear hg3
        go_wp2
        go_roundw
        case rel => exact ⟨i + 1, by omega, by go_num, n', m', D', K', R', X', Y', U', V', HOI.out.G HG3.out, by have := HN'.out; have := HBD.out; omega, by have := HM'.out; have := HML.out; omega, HG2.out.trans HG3.out⟩
        case measure => simp [RowKit.intOf]; omega
      have HGA := hide ((G.refl wr).alloc (.cells #[I kind, I who, I nn, .slice da dl dc, .slice ka kl kc] 39))
      have HC : Hid (Calls Try.prog 21 #[.pointer (some ⟨w.heap.size, 0, none⟩), .agg #[I kind, I who, I nn, .slice da dl dc, .slice ka kl kc]] (wr.alloc (.cells #[I kind, I who, I nn, .slice da dl dc, .slice ka kl kc] 39)) fun e w' => e = .returned (.bool true) ∧ OA (wr.alloc (.cells #[I kind, I who, I nn, .slice da dl dc, .slice ka kl kc] 39)) w.heap.size w.heap.size (w.heap.size + 1) i nl ml w') := ((step_any ⟨kind, who, nn, .slice da dl dc, .slice ka kl kc⟩ w.heap.size s cs pv rv FP FR mo i hw (by omega) _ (HO.out.G HGA.out) (fun j hj => ⟨fun e => by have := (HOI0.out.d j (HDD.out j (.inl e))).1; have := HZB.out j (hj); omega, fun e => by have := (HOI0.out.d j (HDD.out j (.inr (.inl e)))).1; have := HZB.out j (hj); omega⟩) HTW.out.x (HTW.out.a.G HGA.out)).mono fun e w' h => ⟨h.1, (HOI0.out.G HGA.out).stepA (HTW.out.G HGA.out) HDD.out h.2⟩)
      have HR1 : Hid (((wr.alloc (.cells #[I kind, I who, I nn, .slice da dl dc, .slice ka kl kc] 39))).rangeAt wr.heap.size 0 [I kind, I who, I nn, .slice da dl dc, .slice ka kl kc]) := fun j v hv => by rw [Nat.zero_add]; simpa using hv
      go_wp2_with (first | (refine wpList_load_mid rfl 39 _ rfl b (off + i * 5) rfl [I kind, I who, I nn, .slice da dl dc, .slice ka kl kc] _ HX.out Try.underlying39 rfl (by kernel_rfl) ?_) | (refine wpList_load_mid rfl 39 _ rfl wr.heap.size 0 rfl [I kind, I who, I nn, .slice da dl dc, .slice ka kl kc] _ HR1.out Try.underlying39 rfl (by kernel_rfl) ?_) | fail)
      refine HC.out.mono ?_
      rintro e' w2 ⟨rfl, n', m', D', K', R', X', Y', U', V', hoi, hn', hm', hcz⟩
      have HN' := hide hn'
      have HM' := hide hm'
      have HOI := hide hoi
      have HG2 := hide ((HG.out.trans ((G.refl wr).alloc (.cells #[I kind, I who, I nn, .slice da dl dc, .slice ka kl kc] 39))).trans2 hcz)
      clear HC HR1 hoi hcz hn' hm'
      go_wp2_with fail
      refine (kept_any K' R' 0 (w.heap.size + 1) n' m' X' Y' U' V' w2 HOI.out.bk).mono ?_
      rintro e' w3 ⟨rfl, hg3⟩
      have HG3 := hide hg3
      clear hg3
      go_wp2
      go_roundw
      case rel => exact ⟨i + 1, by omega, by go_num, n', m', D', K', R', X', Y', U', V', HOI.out.G HG3.out, by have := HN'.out; have := HBD.out; omega, by have := HM'.out; have := HML.out; omega, HG2.out.trans HG3.out⟩
      case measure => simp [RowKit.intOf]; omega
    · go_wp2
      go_ret
      exact ⟨rfl, HG.out⟩
theorem own_nil (w : World) :
    Calls Try.prog 5 #[.slice none 0 0] w fun r w' => r = .returned (.bool true) ∧ G w w' := by
  go_enter Try.func5, Try.ntmps5
  go_wp2
  refine wp_loop_rounds 1 ?_
  rw [rounds_succ]
  go_wp2
  go_ret
  exact ⟨rfl, ((G.refl _).alloc _).alloc _⟩
end Go.Proofs.Ytbjbphhcmmaaoaa
