/- The disks and the book side by side; takes. -/
import Derived.Test.YtbjbphhcmmaaoaaOw6
namespace Go.Proofs.Ytbjbphhcmmaaoaa
open Go.RowKit

theorem SS.chg {F : Nat → Prop} {w w' : World} {t s : Nat} {cs : List Value} {pv rv : Value} {FP FR : Nat → Prop} {mo : Option DM} (h : SS w t s cs pv rv FP FR mo) (k : Chg F w w') (hF : ∀ j, FP j ∨ FR j ∨ j = t → ¬ F j) : SS w' t s cs pv rv FP FR mo :=
  ⟨h.bt.chg k (hF t (.inr (.inr rfl))), h.cl, h.s2, h.cp, h.cr, h.sp.chg k (fun j hj => hF j (.inl hj)), h.sr.chg k (fun j hj => hF j (.inr (.inl hj))), h.d1, fun j hj => ⟨(h.d2 j hj).1, Nat.lt_of_lt_of_le (h.d2 j hj).2 k.size⟩⟩
/-- The two pairs of disks; all their blocks are of D. -/
def TD (w : World) (z t s B : Nat) (D : Nat → Prop) : Prop := ∃ cs pv rv FP FR mo pv' rv' FP' FR' mo', TW' w z t s B cs pv rv FP FR mo pv' rv' FP' FR' mo' ∧ ∀ j, FP j ∨ FR j ∨ FP' j ∨ FR' j ∨ j = t → D j
theorem TD.flip {w : World} {z t s B : Nat} {D : Nat → Prop} (h : TD w z t s B D) : TD w z t (1 - s) B D := by
  obtain ⟨cs, pv, rv, FP, FR, mo, pv', rv', FP', FR', mo', h, hD⟩ := h
  have hs : 1 - (1 - s) = s := by have := h.a.s2; omega
  refine ⟨cs, pv', rv', FP', FR', mo', pv, rv, FP, FR, mo, ⟨h.b, by rw [hs]; exact h.a, h.q, h.p, h.y, h.x, h.z⟩, fun j hj => hD j ?_⟩
  rcases hj with h | h | h | h | h
  · exact .inr (.inr (.inl h))
  · exact .inr (.inr (.inr (.inl h)))
  · exact .inl h
  · exact .inr (.inl h)
  · exact .inr (.inr (.inr (.inr h)))
theorem TD.at {w : World} {z t s s' B : Nat} {D : Nat → Prop} (h : TD w z t s B D) (hs : s' < 2) : TD w z t s' B D := by
  have h2 : s < 2 := by obtain ⟨cs, pv, rv, FP, FR, mo, pv', rv', FP', FR', mo', h, _⟩ := h; exact h.a.s2
  by_cases he : s' = s
  · rw [he]; exact h
  · rw [show s' = 1 - s by omega]; exact h.flip
theorem TD.chg {F : Nat → Prop} {w w' : World} {z t s B : Nat} {D : Nat → Prop} (h : TD w z t s B D) (k : Chg F w w') (hF : ∀ j, D j → ¬ F j) : TD w' z t s B D := by
  obtain ⟨cs, pv, rv, FP, FR, mo, pv', rv', FP', FR', mo', h, hD⟩ := h
  refine ⟨cs, pv, rv, FP, FR, mo, pv', rv', FP', FR', mo', ⟨h.a.chg k (fun j hj => hF j (hD j ?_)), h.b.chg k (fun j hj => hF j (hD j ?_)), h.p, h.q, h.x, h.y, h.z⟩, hD⟩
  · rcases hj with h | h | h
    · exact .inl h
    · exact .inr (.inl h)
    · exact .inr (.inr (.inr (.inr h)))
  · rcases hj with h | h | h
    · exact .inr (.inr (.inl h))
    · exact .inr (.inr (.inr (.inl h)))
    · exact .inr (.inr (.inr (.inr h)))
theorem TD.up {w : World} {z t s B : Nat} {D : Nat → Prop} (h : TD w z t s B D) : TD w z t s (B + 1) D := by
  obtain ⟨cs, pv, rv, FP, FR, mo, pv', rv', FP', FR', mo', h, hD⟩ := h
  exact ⟨cs, pv, rv, FP, FR, mo, pv', rv', FP', FR', mo', ⟨h.a, h.b, h.p, h.q, h.x.up, h.y.up, h.z⟩, hD⟩
theorem TD.step {w w' : World} {z t s B : Nat} {cs : List Value} {pv rv : Value} {FP FR : Nat → Prop} {mo : Option DM} {pv' rv' : Value} {FP' FR' : Nat → Prop} {mo' : Option DM} {D : Nat → Prop} (h : TW' w z t s B cs pv rv FP FR mo pv' rv' FP' FR' mo') (hD : ∀ j, FP j ∨ FR j ∨ FP' j ∨ FR' j ∨ j = t → D j) (k : StepA w t s cs FP FR B w') :
    TD w' z t s (B + 1) (fun j => D j ∨ (w.heap.size ≤ j ∧ j < w'.heap.size)) ∧ Chg D w w' := by
  obtain ⟨cs1, pv1, rv1, FP1, FR1, mo1, s1, c1, n1, o1, f1⟩ := k
  have hs := h.a.s2
  have hz := h.z
  have ht := h.a.bt.lt
  refine ⟨⟨cs1, pv1, rv1, FP1, FR1, mo1, pv', rv', FP', FR', mo', ⟨s1, ⟨s1.bt, s1.cl, by omega, ?_, ?_, ?_, ?_, h.b.d1, fun j hj => ⟨(h.b.d2 j hj).1, Nat.lt_of_lt_of_le (h.b.d2 j hj).2 c1.size⟩⟩, fun j hj => ?_, fun j hj => ⟨(h.q j hj).1, fun hn => ?_⟩, f1, h.y.up, hz⟩, fun j hj => ?_⟩, c1.mono (fun j e => hD j ?_)⟩
  · rw [o1 _ (by omega) (by omega)]; exact h.b.cp
  · rw [o1 _ (by omega) (by omega)]; exact h.b.cr
  · exact h.b.sp.chg c1 (fun j hj e => by
      rcases e with e | e | e
      · exact (h.q j (.inl hj)).2 (.inl e)
      · exact (h.q j (.inl hj)).2 (.inr e)
      · exact (h.b.d2 j (.inl hj)).1 e)
  · exact h.b.sr.chg c1 (fun j hj e => by
      rcases e with e | e | e
      · exact (h.q j (.inr hj)).2 (.inl e)
      · exact (h.q j (.inr hj)).2 (.inr e)
      · exact (h.b.d2 j (.inr hj)).1 e)
  · rcases n1 j hj with e | e | e
    · exact h.p j (.inl e)
    · exact h.p j (.inr e)
    · exact ⟨by omega, fun x => by have := (h.b.d2 j x).2; omega⟩
  · rcases n1 j hn with e | e | e
    · exact (h.q j hj).2 (.inl e)
    · exact (h.q j hj).2 (.inr e)
    · have := (h.b.d2 j hj).2; omega
  · have hn : ∀ j, FP1 j ∨ FR1 j → D j ∨ (w.heap.size ≤ j ∧ j < w'.heap.size) := fun j hj => by
      rcases n1 j hj with e | e | e
      · exact .inl (hD j (.inl e))
      · exact .inl (hD j (.inr (.inl e)))
      · exact .inr ⟨e, (s1.d2 j hj).2⟩
    rcases hj with e | e | e | e | e
    · exact hn j (.inl e)
    · exact hn j (.inr e)
    · exact .inl (hD j (.inr (.inr (.inl e))))
    · exact .inl (hD j (.inr (.inr (.inr (.inl e)))))
    · exact .inl (hD j (.inr (.inr (.inr (.inr e)))))
  · rcases e with e | e | e
    · exact .inl e
    · exact .inr (.inl e)
    · exact .inr (.inr (.inr (.inr e)))
/-- The disks and the book, apart from each other. -/
structure OI (W : World) (z t bb B n m : Nat) (D K R : Nat → Prop) (X Y U V : Nat → Value) : Prop where
  td : TD W z t 0 B D
  bk : BK W K R 0 bb n n m m X Y U V
  d : ∀ j, D j → z ≤ j ∧ j < W.heap.size ∧ ¬ K j ∧ ¬ R j
  k : ∀ j, K j ∨ R j → z ≤ j ∧ j < W.heap.size
theorem OI.G {W W' : World} {z t bb B n m : Nat} {D K R : Nat → Prop} {X Y U V : Nat → Value} (h : OI W z t bb B n m D K R X Y U V) (g : Go.Proofs.Ytbjbphhcmmaaoaa.G W W') : OI W' z t bb B n m D K R X Y U V :=
  ⟨h.td.chg (F := fun _ => False) g.chg (fun _ _ e => e), h.bk.G g, fun j hj => ⟨(h.d j hj).1, Nat.lt_of_lt_of_le (h.d j hj).2.1 g.size, (h.d j hj).2.2⟩, fun j hj => ⟨(h.k j hj).1, Nat.lt_of_lt_of_le (h.k j hj).2 g.size⟩⟩
theorem OI.up {W : World} {z t bb B n m : Nat} {D K R : Nat → Prop} {X Y U V : Nat → Value} (h : OI W z t bb B n m D K R X Y U V) : OI W z t bb (B + 1) n m D K R X Y U V := ⟨h.td.up, h.bk, h.d, h.k⟩
/-- Behind a step of a pair of disks. -/
theorem OI.step {w w' : World} {z t s bb B n m : Nat} {D K R : Nat → Prop} {X Y U V : Nat → Value} (h : OI w z t bb B n m D K R X Y U V) {cs : List Value} {pv rv : Value} {FP FR : Nat → Prop} {mo : Option DM} {pv' rv' : Value} {FP' FR' : Nat → Prop} {mo' : Option DM} (hT : TW' w z t s B cs pv rv FP FR mo pv' rv' FP' FR' mo') (hD : ∀ j, FP j ∨ FR j ∨ FP' j ∨ FR' j ∨ j = t → D j) (k : StepA w t s cs FP FR B w') :
    OI w' z t bb (B + 1) n m (fun j => D j ∨ (w.heap.size ≤ j ∧ j < w'.heap.size)) K R X Y U V ∧ Chg D w w' := by
  obtain ⟨h1, h2⟩ := TD.step hT hD k
  have hz := Nat.le_of_lt (Nat.lt_of_le_of_lt hT.z hT.a.bt.lt)
  refine ⟨⟨h1.at (by decide), h.bk.chg h2 (fun j hj e => ?_), fun j hj => ?_, fun j hj => ⟨(h.k j hj).1, Nat.lt_of_lt_of_le (h.k j hj).2 h2.size⟩⟩, h2⟩
  · rcases hj with hj | hj
    · exact (h.d j e).2.2.1 hj
    · exact (h.d j e).2.2.2 hj
  · rcases hj with hj | hj
    · exact ⟨(h.d j hj).1, Nat.lt_of_lt_of_le (h.d j hj).2.1 h2.size, (h.d j hj).2.2⟩
    · exact ⟨by omega, hj.2, fun e => by have := (h.k j (.inl e)).2; omega, fun e => by have := (h.k j (.inr e)).2; omega⟩
/-- Lists join the book. -/
theorem own_add {z t bb B n m : Nat} {D K R : Nat → Prop} {X Y U V : Nat → Value} (k ab ao ac : Nat) (aa : Option Addr) (Z : Nat → Value) (ln : Nat → Nat) (hn2 : n + k ≤ 5864062014805) (w : World) (h : OI w z t bb B n m D K R X Y U V) (hZ : NZ w K k Z ln) (hzz : ∀ j, zB k Z j → z ≤ j ∧ ¬ D j) (hzw : z ≤ w.heap.size) (hA : ∀ t, t < k → w.cell? ⟨ab, ao + t, none⟩ = some (Z t)) (haa : 0 < k → aa = some ⟨ab, ao, none⟩ ∧ TyB w ab 28 ∧ ¬ R ab) :
    Calls Try.prog 36 #[.pointer (some ⟨bb, 0, none⟩), .slice aa k ac] w fun e w' => e = .returned (.tuple #[]) ∧ ∃ K' R' X' Y', OI w' z t bb B (n + k) m D K' R' X' Y' U V ∧ Chg (fun j => R j ∨ zB k Z j) w w' ∧ ∀ j, K' j ∨ R' j → K j ∨ R j ∨ zB k Z j ∨ w.heap.size ≤ j := by
  refine (add_bk K R bb n m k ab ao ac aa X Y U V Z ln hn2 w h.bk hZ hA haa).mono ?_
  rintro e w' ⟨rfl, X', Y', hb, hc⟩
  have hs := hc.size
  refine ⟨rfl, _, _, X', Y', ⟨h.td.chg hc (fun j hj e => ?_), hb.cut, fun j hj => ⟨(h.d j hj).1, Nat.lt_of_lt_of_le (h.d j hj).2.1 hs, fun e => ?_, fun e => ?_⟩, fun j hj => ?_⟩, hc, fun j hj => ?_⟩
  · rcases e with e | e
    · exact (h.d j hj).2.2.2 e
    · exact (hzz j e).2 hj
  · have := (h.d j hj).2.1
    rcases e.1 with e | e | e
    · exact (h.d j hj).2.2.1 e
    · exact (hzz j e).2 hj
    · omega
  · have := (h.d j hj).2.1
    rcases e.1 with e | e
    · exact (h.d j hj).2.2.2 e
    · omega
  · rcases hj with ⟨h1 | h1 | h1, h2⟩ | ⟨h1 | h1, h2⟩
    · exact ⟨(h.k j (.inl h1)).1, h2⟩
    · exact ⟨(hzz j h1).1, h2⟩
    · exact ⟨by omega, h2⟩
    · exact ⟨(h.k j (.inr h1)).1, h2⟩
    · exact ⟨by omega, h2⟩
  · rcases hj with ⟨h1 | h1 | h1, h2⟩ | ⟨h1 | h1, h2⟩
    · exact .inl h1
    · exact .inr (.inr (.inl h1))
    · exact .inr (.inr (.inr h1))
    · exact .inr (.inl h1)
    · exact .inr (.inr (.inr h1))
/-- What a step of DiskOwn leaves. -/
def OA (w : World) (z t bb B n m : Nat) (w' : World) : Prop := ∃ n' m' D K R X Y U V, OI w' z t bb (B + 1) n' m' D K R X Y U V ∧ n' ≤ n + 2 * B + 3 ∧ m' ≤ m + 2 ∧ Chg (fun j => z ≤ j) w w'
set_option maxRecDepth 100000 in
set_option maxHeartbeats 8000000 in
theorem takes_any (k who nn : Int) (dv kv : Value) (z t s bb B n m : Nat) (D K R : Nat → Prop) (X Y U V : Nat → Value) (hk : k = 5 ∨ k = 2) (hs : s < 2) (hw : bits BinOp.and IntKind.i64 who 1 = (s : Int)) (hBB : B ≤ 549755813888) (hn2 : n + 1 ≤ 5864062014805) (xs : List Nat) (hxb : ∀ x ∈ xs, x < 256) (hxl : xs.length ≤ 1048576) (w : World) (hdb : Bytes w dv xs) (hdz : ∀ j, Value.blk dv j → j < z) (h : OI w z t bb B n m D K R X Y U V) :
    Calls Try.prog 19 #[.pointer (some ⟨t, 0, none⟩), .agg #[I k, I who, I nn, dv, kv], .pointer (some ⟨bb, 0, none⟩)] w fun e w' => e = .returned (.bool true) ∧ OA w z t bb B n m w' := by
  obtain ⟨cs, pv, rv, FP, FR, mo, pv', rv', FP', FR', mo', hT, hD⟩ := h.td.at hs
  have HT := hide hT
  have HD := hide hD
  have HI := hide h
  have HDB := hide hdb
  have HDZ := hide hdz
  have HXB := hide hxb
  have HZW : Hid (z ≤ w.heap.size) := Nat.le_of_lt (Nat.lt_of_le_of_lt hT.z hT.a.bt.lt)
  have HNF : Hid (∀ j, Value.blk dv j → ¬ FP j ∧ ¬ FR j) := fun j hj => ⟨fun e => by have := (HI.out.d j (HD.out j (.inl e))).1; have := HDZ.out j hj; omega, fun e => by have := (HI.out.d j (HD.out j (.inr (.inl e)))).1; have := HDZ.out j hj; omega⟩
  have HO1 := hide (Blk.new w [I k, I who, I nn, dv, kv] 39)
  have HG1 := hide ((G.refl w).alloc (.cells #[I k, I who, I nn, dv, kv] 39))
  have hco := HO1.out.cell
  clear h hT hD hdb hdz hxb
  go_enter Try.func19, Try.ntmps19
  go_wp2_with fail
  generalize w.alloc (.cells #[I k, I who, I nn, dv, kv] 39) = w1 at HO1 HG1 hco ⊢
  go_wp2_with fail
  refine (handed_any dv xs hxl _ (HDB.out.G HG1.out)).mono ?_
  rintro e w2 ⟨rfl, hg2, hb2⟩
  have HG2 := hide (HG1.out.trans hg2)
  have HB2 := hide hb2
  have HO2 := hide (HO1.out.G hg2)
  have HL1 : Hid (w.heap.size ≤ w1.heap.size ∧ w1.heap.size < w2.heap.size) := ⟨HG1.out.size, hb2.lt⟩
  generalize w1.heap.size = g at HB2 HL1 ⊢
  clear hg2 hb2 hco HG1 HO1
  have hco := HO2.out.cell
  have hz2 : w.heap.size < w2.heap.size := by have := HL1.out; omega
  go_wp2_with fail
  have HG3 : Hid (G w (w2.alloc (.cells #[I k, I who, I nn, (.slice (some ⟨g, 0, none⟩) xs.length (xs.length + 4)), .slice none 0 0] 39))) := HG2.out.alloc _
  have HB3 := hide (HB2.out.G ((G.refl w2).alloc (.cells #[I k, I who, I nn, (.slice (some ⟨g, 0, none⟩) xs.length (xs.length + 4)), .slice none 0 0] 39)))
  have HO3 := hide (HO2.out.G ((G.refl w2).alloc (.cells #[I k, I who, I nn, (.slice (some ⟨g, 0, none⟩) xs.length (xs.length + 4)), .slice none 0 0] 39)))
  have hs3 : w2.heap.size < (w2.alloc (.cells #[I k, I who, I nn, (.slice (some ⟨g, 0, none⟩) xs.length (xs.length + 4)), .slice none 0 0] 39)).heap.size := by simp
  show Calls Try.prog 41 #[.pointer (some ⟨t, 0, none⟩), .agg #[I k, I who, I nn, (.slice (some ⟨g, 0, none⟩) xs.length (xs.length + 4)), .slice none 0 0], dv] (w2.alloc (.cells #[I k, I who, I nn, (.slice (some ⟨g, 0, none⟩) xs.length (xs.length + 4)), .slice none 0 0] 39)) _
  generalize w2.alloc (.cells #[I k, I who, I nn, (.slice (some ⟨g, 0, none⟩) xs.length (xs.length + 4)), .slice none 0 0] 39) = w3 at HG3 HB3 HO3 hs3 ⊢
  clear hco HG2 HB2 HO2
  have HLB : Hid (∀ W, Blk W g 5 ((xs ++ rmL 4).map bv) → Bytes W (.slice (some ⟨g, 0, none⟩) xs.length (xs.length + 4)) xs) := fun W hb => ⟨_, _, rfl, by omega, .inr ⟨g, 0, rfl, fun j y hj => by
    rw [Addr.add_mid, Nat.zero_add, hb.cell, List.getElem?_map, List.getElem?_append_left (List.getElem?_eq_some_iff.1 hj).1, hj]
    rfl⟩⟩
  have HDN : Hid (∀ j, D j → j < w.heap.size ∧ z ≤ j) := fun j hj => ⟨(HI.out.d j hj).2.1, (HI.out.d j hj).1⟩
  have HLE : Hid (Calls Try.prog 41 #[.pointer (some ⟨t, 0, none⟩), .agg #[I k, I who, I nn, (.slice (some ⟨g, 0, none⟩) xs.length (xs.length + 4)), .slice none 0 0], dv] w3 fun e w' => e = .returned (.bool true) ∧ StepA w3 t s cs FP FR B w') := by
    rcases hk with rfl | rfl
    · exact lends_write who nn (.slice (some ⟨g, 0, none⟩) xs.length (xs.length + 4)) dv (.slice none 0 0) t s cs pv rv FP FR mo B hw hBB xs HXB.out (by omega) w3 (HLB.out _ HB3.out) (HDB.out.G HG3.out) (fun j hj e => by
        have h1 := blk_own hj
        simp [Value.ownBlock] at h1
        have h2 := (HDN.out j (HD.out j (.inl e))).1
        have := HL1.out
        omega) HNF.out HT.out.x (HT.out.a.G HG3.out)
    · exact lends_load who nn (.slice (some ⟨g, 0, none⟩) xs.length (xs.length + 4)) dv (.slice none 0 0) t s cs pv rv FP FR mo B hw hBB xs HXB.out (by omega) w3 (HLB.out _ HB3.out) (HDB.out.G HG3.out) HT.out.x (HT.out.a.G HG3.out)
  refine HLE.out.mono ?_
  rintro e w4 ⟨rfl, hst⟩
  obtain ⟨hi4, hc4⟩ := (HI.out.G HG3.out).step (HT.out.G HG3.out) HD.out hst
  have HI4 := hide hi4
  have HC4 := hide hc4
  have HO4 := hide (HO3.out.chg hc4 (fun e => by have := (HDN.out _ e).1; omega))
  have HB4 := hide (HB3.out.chg hc4 (fun e => by have := (HDN.out _ e).1; have := HL1.out; omega))
  have HD4 := hide ((HDB.out.G HG3.out).chg hc4 (fun j hj e => by have := (HDN.out _ e).2; have := HDZ.out j hj; omega))
  clear hst hi4 hc4 HLE HB3 HO3
  have hco := HO4.out.cell
  go_wp2_with fail
  refine (untouched_any dv g xs hxl w4 HD4.out HB4.out).mono ?_
  rintro e w5 ⟨rfl, hg5⟩
  have HG5 := hide hg5
  clear hg5 hco
  go_wp2_with fail
  have HG6 := hide (HG5.out.alloc (.cells #[(.slice (some ⟨g, 0, none⟩) xs.length (xs.length + 4))] 28))
  have HN6 := hide (Blk.new w5 [(.slice (some ⟨g, 0, none⟩) xs.length (xs.length + 4))] 28)
  have hs5 : w4.heap.size ≤ w5.heap.size := HG5.out.size
  have hs4 := HC4.out.size
  have hs6 : w5.heap.size < (w5.alloc (.cells #[(.slice (some ⟨g, 0, none⟩) xs.length (xs.length + 4))] 28)).heap.size := by simp
  generalize w5.alloc (.cells #[(.slice (some ⟨g, 0, none⟩) xs.length (xs.length + 4))] 28) = w6 at HG6 HN6 hs6 ⊢
  have HZB : Hid (∀ j, zB 1 (fun _ => (.slice (some ⟨g, 0, none⟩) xs.length (xs.length + 4))) j → j = g) := fun j hj => by
    obtain ⟨_, _, e⟩ := hj
    simp [Value.ownBlock] at e
    exact e.symm
  refine (own_add 1 w5.heap.size 0 1 (some ⟨w5.heap.size, 0, none⟩) (fun _ => (.slice (some ⟨g, 0, none⟩) xs.length (xs.length + 4))) (fun _ => xs.length) hn2 w6 (HI4.out.G HG6.out) ⟨fun _ _ => ⟨_, blk_row (HB4.out.G HG6.out) (by omega) (by simp [rmL]) (by unfold maxLen; omega)⟩, fun i hi j hj => ⟨fun e => ?_, fun s hs hne => by omega⟩, fun _ _ => by omega⟩ (fun j hj => ?_) ?_ (fun i hi => ?_) (fun _ => ⟨rfl, ⟨_, _, HN6.out.h⟩, fun e => ?_⟩)).mono ?_
  · have h1 := (HI.out.k j (.inl e)).2
    have h2 := HZB.out j ⟨0, by omega, hj⟩
    have := HL1.out
    omega
  · have := HZB.out j hj
    have h1 := HL1.out
    have h2 := HZW.out
    refine ⟨by omega, fun e => ?_⟩
    rcases e with e | e
    · have := (HDN.out _ e).1
      omega
    · omega
  · have := HZW.out
    have := HG3.out.size
    omega
  · rw [HN6.out.cell]
    obtain rfl : i = 0 := by omega
    rfl
  · have := (HI.out.k _ (.inr e)).2
    have := HG3.out.size
    omega
  rintro e w7 ⟨rfl, K', R', X', Y', hi7, hc7, _⟩
  have HI7 := hide hi7
  have HCZ : Hid (Chg (fun j => z ≤ j) w w7) := (HG3.out.chg.trans (HC4.out.mono (fun j hj => (HDN.out j hj).2))).trans ((HG6.out.chg).trans (hc7.mono (fun j hj => by
    rcases hj with hj | hj
    · exact (HI.out.k j (.inr hj)).1
    · have := HZB.out j hj
      have := HL1.out
      have := HZW.out
      omega)))
  clear hi7 hc7
  go_wp2
  go_ret
  exact ⟨rfl, n + 1, m, _, K', R', X', Y', U, V, HI7.out, by omega, by omega, HCZ.out⟩
end Go.Proofs.Ytbjbphhcmmaaoaa
