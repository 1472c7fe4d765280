/- gives: Read and Image. -/
import Derived.Test.YtbjbphhcmmaaoaaOw7
namespace Go.Proofs.Ytbjbphhcmmaaoaa
open Go.RowKit

/-- A list of n bytes in a block of its own, which is no older than b. -/
structure Fr (b : Nat) (W : World) (x : Value) (n : Nat) : Prop where
  l : n ≤ 1073741824
  o : ∃ xs, W.ownsRow 0 5 1 x n xs
  f : ∀ g, x.ownBlock = some g → b ≤ g
theorem Fr.G {b n : Nat} {W W' : World} {x : Value} (h : Fr b W x n) (g : Go.Proofs.Ytbjbphhcmmaaoaa.G W W') : Fr b W' x n := ⟨h.l, h.o.elim fun xs ho => ⟨xs, own_G ho g⟩, h.f⟩
theorem Fr.lt {b n : Nat} {W : World} {x : Value} (h : Fr b W x n) {g : Nat} (hg : x.ownBlock = some g) : g < W.heap.size := by
  obtain ⟨xs, ho⟩ := h.o
  exact own_lt ho hg
theorem Fr.nil (b : Nat) (W : World) : Fr b W (.slice none 0 0) 0 := ⟨by omega, ⟨[], World.ownsRow_nil _ _ _ _⟩, fun g hg => by simp [Value.ownBlock] at hg⟩
theorem Fr.blk {b g n : Nat} {W : World} {xs : List Value} (h : Blk W g 5 xs) (hn : xs.length = n) (hl : n ≤ 1073741824) (hb : b ≤ g) : Fr b W (.slice (some ⟨g, 0, none⟩) n n) n :=
  ⟨hl, ⟨_, blk_row h (Nat.le_refl _) hn (by unfold maxLen; omega)⟩, fun g' hg => by simp [Value.ownBlock] at hg; omega⟩
theorem oP_read (F : Nat → Prop) (mo : Option DM) (v : Value) (n : Int) (w : World) (hB : fewO mo 549755813888) (h : SlP w F v mo) : Calls Try.prog 15 #[v, .int .i64 n] w fun e w' => ∃ x, e = .returned (.tuple #[x, .int .i64 (rdC mo n)]) ∧ G w w' ∧ Bytes w' x (rdB mo n) ∧ Fr w.heap.size w' x (rdB mo n).length := by
  cases mo with
  | none =>
    obtain rfl : v = .pointer none := h
    refine (read_nil n w).mono ?_
    rintro e w' ⟨rfl, rfl⟩
    exact ⟨_, rfl, G.refl _, bytes_nil _, Fr.nil _ _⟩
  | some m =>
    obtain ⟨p, rfl, hd⟩ := h
    refine (read_any F m p n (hB m rfl).p w hd).mono ?_
    rintro e w' ⟨hg, h1 | h1 | h1⟩
    · obtain ⟨hn, rfl⟩ := h1
      exact ⟨.slice none 0 0, by simp only [rdC, if_neg hn], hg, by simp only [rdB, if_neg hn]; exact bytes_nil _, by simp only [rdB, if_neg hn]; exact Fr.nil _ _⟩
    · obtain ⟨hn, ho, rfl⟩ := h1
      exact ⟨.slice none 0 0, by simp only [rdC, if_pos hn, ho, if_true], hg, by simp only [rdB, if_pos hn, ho, if_true]; exact bytes_nil _, by simp only [rdB, if_pos hn, ho, if_true]; exact Fr.nil _ _⟩
    · obtain ⟨hn, ho, g, hgs, rfl, hb⟩ := h1
      have hl : (m.newest n.toNat).length = 128 := DM.newest_len hd.ok (by omega)
      have hbb := hb.bytes
      rw [hl] at hbb
      refine ⟨_, by simp only [rdC, if_pos hn, ho]; rfl, hg, by simp only [rdB, if_pos hn, ho]; exact hbb, ?_⟩
      have e : (rdB (some m) n).length = 128 := by simp only [rdB, if_pos hn, ho]; exact hl
      rw [e]
      exact Fr.blk hb (by rw [List.length_map]; exact hl) (by decide) hgs
theorem im_len {w : World} {F : Nat → Prop} {v : Value} {mo : Option DM} (h : SlP w F v mo) : (imB mo).length ≤ 1073741824 := by
  cases mo with
  | none => simp [imB]
  | some m =>
    obtain ⟨p, rfl, hd⟩ := h
    have h1 := hd.ok.ll
    have h2 := hd.ok.n2
    show m.laid.length ≤ 1073741824
    omega
theorem rd_len {w : World} {F : Nat → Prop} {v : Value} {mo : Option DM} (h : SlP w F v mo) (n : Int) : (rdB mo n).length ≤ 128 := by
  cases mo with
  | none => simp [rdB]
  | some m =>
    obtain ⟨p, rfl, hd⟩ := h
    by_cases hn : 0 ≤ n ∧ n < m.n
    · cases ho : m.off
      · have hl : (m.newest n.toNat).length = 128 := DM.newest_len hd.ok (by omega)
        simp only [rdB, if_pos hn, ho]
        exact Nat.le_of_eq hl
      · simp [rdB, ho]
    · simp [rdB, if_neg hn]
theorem oP_image (F : Nat → Prop) (mo : Option DM) (v : Value) (w : World) (h : SlP w F v mo) : Calls Try.prog 11 #[v] w fun e w' => ∃ x, e = .returned x ∧ G w w' ∧ Bytes w' x (imB mo) ∧ Fr w.heap.size w' x (imB mo).length := by
  have hlen := im_len h
  cases mo with
  | none =>
    obtain rfl : v = .pointer none := h
    refine (image_nil w).mono ?_
    rintro e w' ⟨rfl, rfl⟩
    exact ⟨_, rfl, G.refl _, bytes_nil _, Fr.nil _ _⟩
  | some m =>
    obtain ⟨p, rfl, hd⟩ := h
    refine (image_any F m p w hd).mono ?_
    rintro e w' ⟨rfl, hg, hb⟩
    have := hb.bytes
    rw [hd.ok.ll] at this
    refine ⟨_, rfl, hg, this, ?_⟩
    have e : (imB (some m)).length = m.n * 128 := hd.ok.ll
    rw [e] at hlen ⊢
    exact Fr.blk hb (by rw [List.length_map]; exact hd.ok.ll) hlen (Nat.le_refl _)
/-- Three lists. -/
def z3 (p q s : Value) (i : Nat) : Value := match i with | 0 => p | 1 => q | _ => s
def l3 (a b c : Nat) (i : Nat) : Nat := match i with | 0 => a | 1 => b | _ => c
theorem nz3 {b0 b1 b2 : Nat} {W1 W2 W3 W : World} {K : Nat → Prop} {p q s : Value} {a b c : Nat} (f1 : Fr b0 W1 p a) (f2 : Fr b1 W2 q b) (f3 : Fr b2 W3 s c) (g1 : G W1 W) (g2 : G W2 W) (g3 : G W3 W) (h1 : W1.heap.size ≤ b1) (h2 : W2.heap.size ≤ b2) (h01 : b0 ≤ W1.heap.size) (h12 : b1 ≤ W2.heap.size) (hK : ∀ j, K j → j < b0) : NZ W K 3 (z3 p q s) (l3 a b c) ∧ ∀ j, zB 3 (z3 p q s) j → b0 ≤ j := by
  have q1 : ∀ g, p.ownBlock = some g → b0 ≤ g ∧ g < b1 := fun g hg => ⟨f1.f g hg, Nat.lt_of_lt_of_le (f1.lt hg) h1⟩
  have q2 : ∀ g, q.ownBlock = some g → b1 ≤ g ∧ g < b2 := fun g hg => ⟨f2.f g hg, Nat.lt_of_lt_of_le (f2.lt hg) h2⟩
  have q3 : ∀ g, s.ownBlock = some g → b2 ≤ g := fun g hg => f3.f g hg
  have hge : ∀ t, t < 3 → ∀ g, (z3 p q s t).ownBlock = some g → b0 ≤ g := fun t ht g hg => by
    rcases t with _ | _ | _ | t
    · exact (q1 g hg).1
    · have := (q2 g hg).1; omega
    · have := q3 g hg; omega
    · omega
  refine ⟨⟨fun t ht => ?_, fun t ht g hg => ⟨fun e => by have := hK g e; have := hge t ht g hg; omega, fun s' hs hne hg' => ?_⟩, fun t ht => ?_⟩, fun j hj => ?_⟩
  · rcases t with _ | _ | _ | t
    · exact (f1.G g1).o
    · exact (f2.G g2).o
    · exact (f3.G g3).o
    · omega
  · rcases t with _ | _ | _ | t <;> rcases s' with _ | _ | _ | s'
    · omega
    · have := q1 g hg; have := q2 g hg'; omega
    · have := q1 g hg; have := q3 g hg'; have := h12; omega
    · omega
    · have := q2 g hg; have := q1 g hg'; omega
    · omega
    · have := q2 g hg; have := q3 g hg'; omega
    · omega
    · have := q3 g hg; have := q1 g hg'; omega
    · have := q3 g hg; have := q2 g hg'; omega
    · omega
    · omega
    · omega
    · omega
    · omega
    · omega
  · rcases t with _ | _ | _ | t
    · exact f1.l
    · exact f2.l
    · exact f3.l
    · omega
  · obtain ⟨t, ht, hg⟩ := hj
    exact hge t ht j hg
set_option maxRecDepth 100000 in
set_option maxHeartbeats 16000000 in
theorem gives_read (who nn : Int) (dv kv : Value) (z t s bb B n m : Nat) (D K R : Nat → Prop) (X Y U V : Nat → Value) (hs : s < 2) (hw : bits BinOp.and IntKind.i64 who 1 = (s : Int)) (hBB : B ≤ 549755813888) (hn2 : n + 3 ≤ 5864062014805) (w : World) (h : OI w z t bb B n m D K R X Y U V) :
    Calls Try.prog 18 #[.pointer (some ⟨t, 0, none⟩), .agg #[I 4, I who, I nn, dv, kv], .pointer (some ⟨bb, 0, none⟩)] w fun e w' => e = .returned (.bool true) ∧ OA w z t bb B n m w' := by
  obtain ⟨cs, pv, rv, FP, FR, mo, pv', rv', FP', FR', mo', hT, hD⟩ := h.td.at hs
  have hBf : fewO mo 549755813888 := fun m e => by obtain ⟨h1, h2, h3⟩ := hT.x m e; exact ⟨by omega, by omega, by omega⟩
  have HI := hide h
  have HS0 := hide hT.a
  have HZW : Hid (z ≤ w.heap.size) := Nat.le_of_lt (Nat.lt_of_le_of_lt hT.z hT.a.bt.lt)
  have HO1 := hide (Blk.new w [I 4, I who, I nn, dv, kv] 39)
  have HW1 := hide ((G.refl w).alloc (.cells #[I 4, I who, I nn, dv, kv] 39))
  have hsI : (s : Int) < 2 := by omega
  have hsw : IntKind.i64.wrap (s : Int) = s := by rw [IntKind.wrap_i64]; omega
  have HRD := hide (fun k W (hW : SlP W FP pv mo) => oP_read FP mo pv k W hBf hW)
  have HRR := hide (fun k W (hW : SlR W FR rv mo) => uR_read FR mo rv k W hBf hW)
  have HIM := hide (fun W (hW : SlP W FP pv mo) => oP_image FP mo pv W hW)
  have HRM := hide (fun W (hW : SlR W FR rv mo) => uR_image FR mo rv W hW)
  have HRL := hide (rd_len hT.a.sp)
  have HIL := hide (im_len hT.a.sp)
  clear h hT hD hBf
  go_enter Try.func18, Try.ntmps18
  go_wp2_with fail
  generalize w.alloc (.cells #[I 4, I who, I nn, dv, kv] 39) = w1 at HO1 HW1 ⊢
  have HS1 := hide (HS0.out.G HW1.out)
  have HH1 := hide (HS1.out.hd HO1.out)
  have HG0 := hide (G.refl w1)
  refine wp_region_noPanic ?_
  refine wp_region_held_drew (S := (fun W => Hd W t s w.heap.size pv rv [I 4, I who, I nn, dv, kv])) (by kernel_rfl) (HH1.out.G (HG0.out.trans (G.drew (G.refl _))) (by simp)) (fun hHeld => ?_)
  refine wpAnyH_take (i := 0) (v := ?_) rfl (by kernel_rfl) (by kernel_rfl) (by kernel_rfl) (fun _ _ _ h => h) (Or.inl ⟨by rfl, ?_⟩) hHeld ?_
  rotate_left 1
  · (intro w hSw; (try dsimp only at hSw); go_simp; try with_reducible rfl)
  try simp only [Act.put, List.getElem_toArray, List.getElem_cons_zero, List.setIfInBounds_toArray, List.set_cons_zero, List.set_cons_succ]
  refine wpAnyH_take (i := 1) (v := ?_) rfl (by kernel_rfl) (by kernel_rfl) (by kernel_rfl) (fun _ _ _ h => h) (Or.inl ⟨by rfl, ?_⟩) hHeld ?_
  rotate_left 1
  · (intro w hSw; (try dsimp only at hSw); go_simp; try with_reducible rfl)
  try simp only [Act.put, List.getElem_toArray, List.getElem_cons_zero, List.getElem_cons_succ, List.setIfInBounds_toArray, List.set_cons_zero, List.set_cons_succ]
  refine wpAnyH_take (i := 2) (v := ?_) rfl (by kernel_rfl) (by kernel_rfl) (by kernel_rfl) (fun _ _ _ h => h) (Or.inl ⟨by rfl, ?_⟩) hHeld ?_
  rotate_left 1
  · (intro w hSw; (try dsimp only at hSw); go_simp; try with_reducible rfl)
  try simp only [Act.put, List.getElem_toArray, List.getElem_cons_zero, List.getElem_cons_succ, List.setIfInBounds_toArray, List.set_cons_zero, List.set_cons_succ]
  refine wpAnyH_take (i := 3) (v := ?_) rfl (by kernel_rfl) (by kernel_rfl) (by kernel_rfl) (fun _ _ _ h => h) (Or.inl ⟨by rfl, ?_⟩) hHeld ?_
  rotate_left 1
  · (intro w hSw; (try dsimp only at hSw); go_simp; try with_reducible rfl)
  try simp only [Act.put, List.getElem_toArray, List.getElem_cons_zero, List.getElem_cons_succ, List.setIfInBounds_toArray, List.set_cons_zero, List.set_cons_succ]
  refine wpAnyH_take (i := 4) (v := ?_) rfl (by kernel_rfl) (by kernel_rfl) (by kernel_rfl) (fun _ _ _ h => h) (Or.inl ⟨by rfl, ?_⟩) hHeld ?_
  rotate_left 1
  · (intro w hSw; (try dsimp only at hSw); go_simp; try with_reducible rfl)
  try simp only [Act.put, List.getElem_toArray, List.getElem_cons_zero, List.getElem_cons_succ, List.setIfInBounds_toArray, List.set_cons_zero, List.set_cons_succ]
  refine wpAnyH_take (i := 5) (v := ?_) rfl (by kernel_rfl) (by kernel_rfl) (by kernel_rfl) (fun _ _ _ h => h) (Or.inl ⟨by rfl, ?_⟩) hHeld ?_
  rotate_left 1
  · (intro w hSw; obtain ⟨q1, q2, q3⟩ := hSw; go_simp; try with_reducible rfl)
  try simp only [Act.put, List.getElem_toArray, List.getElem_cons_zero, List.getElem_cons_succ, List.setIfInBounds_toArray, List.set_cons_zero, List.set_cons_succ]
  refine wpAnyH_take (i := 6) (v := ?_) rfl (by kernel_rfl) (by kernel_rfl) (by kernel_rfl) (fun _ _ _ h => h) (Or.inl ⟨by rfl, ?_⟩) hHeld ?_
  rotate_left 1
  · (intro w hSw; (try dsimp only at hSw); go_simp; try with_reducible rfl)
  try simp only [Act.put, List.getElem_toArray, List.getElem_cons_zero, List.getElem_cons_succ, List.setIfInBounds_toArray, List.set_cons_zero, List.set_cons_succ]
  refine wpAnyH_take (i := 7) (v := ?_) rfl (by kernel_rfl) (by kernel_rfl) (by kernel_rfl) (fun _ _ _ h => h) (Or.inl ⟨by rfl, ?_⟩) hHeld ?_
  rotate_left 1
  · (intro w hSw; obtain ⟨q1, q2, q3⟩ := hSw; go_simp; try with_reducible rfl)
  try simp only [Act.put, List.getElem_toArray, List.getElem_cons_zero, List.getElem_cons_succ, List.setIfInBounds_toArray, List.set_cons_zero, List.set_cons_succ]
  refine wpAnyH_ready (rs := [8]) (by kernel_rfl) (by simp) (AllReadyH.cons rfl (fun K hK => ?_) AllReadyH.nil)
  clear hHeld
  go_simp
  with_reducible refine (HRD.out _ _ ?_).mono ?_
  exact HS1.out.sp.G (HG0.out.trans (G.drew (G.refl _)))
  rintro e' v1 ⟨x1, rfl, hb, hx, hf⟩
  have HG1 := hide (HG0.out.trans ((G.drew (G.refl _)).trans hb))
  have HM1 := hide ((G.drew (G.refl _)).trans hb)
  have HX1 := hide hx
  have HF1 := hide hf
  clear hf
  clear hb hx
  go_wp2_with fail
  refine hK.out _ _ (HH1.out.G HG1.out (by simp)) (fun hHeld => ?_)
  clear hK K
  try simp only [Act.put, List.getElem_toArray, List.getElem_cons_zero, List.getElem_cons_succ, List.setIfInBounds_toArray, List.set_cons_zero, List.set_cons_succ]
  refine wpAnyH_take (i := 9) (v := ?_) rfl (by kernel_rfl) (by kernel_rfl) (by kernel_rfl) (fun _ _ _ h => h) (Or.inl ⟨by rfl, ?_⟩) hHeld ?_
  rotate_left 1
  · (intro w hSw; (try dsimp only at hSw); go_simp; try with_reducible rfl)
  try simp only [Act.put, List.getElem_toArray, List.getElem_cons_zero, List.getElem_cons_succ, List.setIfInBounds_toArray, List.set_cons_zero, List.set_cons_succ]
  refine wpAnyH_take (i := 10) (v := ?_) rfl (by kernel_rfl) (by kernel_rfl) (by kernel_rfl) (fun _ _ _ h => h) (Or.inl ⟨by rfl, ?_⟩) hHeld ?_
  rotate_left 1
  · (intro w hSw; (try dsimp only at hSw); go_simp; try with_reducible rfl)
  try simp only [Act.put, List.getElem_toArray, List.getElem_cons_zero, List.getElem_cons_succ, List.setIfInBounds_toArray, List.set_cons_zero, List.set_cons_succ]
  refine wpAnyH_take (i := 11) (v := ?_) rfl (by kernel_rfl) (by kernel_rfl) (by kernel_rfl) (fun _ _ _ h => h) (Or.inl ⟨by rfl, ?_⟩) hHeld ?_
  rotate_left 1
  · (intro w hSw; (try dsimp only at hSw); go_simp; try with_reducible rfl)
  try simp only [Act.put, List.getElem_toArray, List.getElem_cons_zero, List.getElem_cons_succ, List.setIfInBounds_toArray, List.set_cons_zero, List.set_cons_succ]
  refine wpAnyH_take (i := 12) (v := ?_) rfl (by kernel_rfl) (by kernel_rfl) (by kernel_rfl) (fun _ _ _ h => h) (Or.inl ⟨by rfl, ?_⟩) hHeld ?_
  rotate_left 1
  · (intro w hSw; (try dsimp only at hSw); go_simp; try with_reducible rfl)
  try simp only [Act.put, List.getElem_toArray, List.getElem_cons_zero, List.getElem_cons_succ, List.setIfInBounds_toArray, List.set_cons_zero, List.set_cons_succ]
  refine wpAnyH_take (i := 13) (v := ?_) rfl (by kernel_rfl) (by kernel_rfl) (by kernel_rfl) (fun _ _ _ h => h) (Or.inl ⟨by rfl, ?_⟩) hHeld ?_
  rotate_left 1
  · (intro w hSw; (try dsimp only at hSw); go_simp; try with_reducible rfl)
  try simp only [Act.put, List.getElem_toArray, List.getElem_cons_zero, List.getElem_cons_succ, List.setIfInBounds_toArray, List.set_cons_zero, List.set_cons_succ]
  refine wpAnyH_done (by kernel_rfl) ?_ _
  refine NoPanic.normal ?_
  go_wp2_with fail
  refine wp_region_noPanic ?_
  refine wp_region_held_drew (S := (fun W => Hd W t s w.heap.size pv rv [I 4, I who, I nn, dv, kv])) (by kernel_rfl) (HH1.out.G (HG1.out.trans (G.drew (G.refl _))) (by simp)) (fun hHeld => ?_)
  refine wpAnyH_take (i := 0) (v := ?_) rfl (by kernel_rfl) (by kernel_rfl) (by kernel_rfl) (fun _ _ _ h => h) (Or.inl ⟨by rfl, ?_⟩) hHeld ?_
  rotate_left 1
  · (intro w hSw; (try dsimp only at hSw); go_simp; try with_reducible rfl)
  try simp only [Act.put, List.getElem_toArray, List.getElem_cons_zero, List.setIfInBounds_toArray, List.set_cons_zero, List.set_cons_succ]
  refine wpAnyH_take (i := 1) (v := ?_) rfl (by kernel_rfl) (by kernel_rfl) (by kernel_rfl) (fun _ _ _ h => h) (Or.inl ⟨by rfl, ?_⟩) hHeld ?_
  rotate_left 1
  · (intro w hSw; (try dsimp only at hSw); go_simp; try with_reducible rfl)
  try simp only [Act.put, List.getElem_toArray, List.getElem_cons_zero, List.getElem_cons_succ, List.setIfInBounds_toArray, List.set_cons_zero, List.set_cons_succ]
  refine wpAnyH_take (i := 2) (v := ?_) rfl (by kernel_rfl) (by kernel_rfl) (by kernel_rfl) (fun _ _ _ h => h) (Or.inl ⟨by rfl, ?_⟩) hHeld ?_
  rotate_left 1
  · (intro w hSw; (try dsimp only at hSw); go_simp; try with_reducible rfl)
  try simp only [Act.put, List.getElem_toArray, List.getElem_cons_zero, List.getElem_cons_succ, List.setIfInBounds_toArray, List.set_cons_zero, List.set_cons_succ]
  refine wpAnyH_take (i := 3) (v := ?_) rfl (by kernel_rfl) (by kernel_rfl) (by kernel_rfl) (fun _ _ _ h => h) (Or.inl ⟨by rfl, ?_⟩) hHeld ?_
  rotate_left 1
  · (intro w hSw; (try dsimp only at hSw); go_simp; try with_reducible rfl)
  try simp only [Act.put, List.getElem_toArray, List.getElem_cons_zero, List.getElem_cons_succ, List.setIfInBounds_toArray, List.set_cons_zero, List.set_cons_succ]
  refine wpAnyH_take (i := 4) (v := ?_) rfl (by kernel_rfl) (by kernel_rfl) (by kernel_rfl) (fun _ _ _ h => h) (Or.inl ⟨by rfl, ?_⟩) hHeld ?_
  rotate_left 1
  · (intro w hSw; (try dsimp only at hSw); go_simp; try with_reducible rfl)
  try simp only [Act.put, List.getElem_toArray, List.getElem_cons_zero, List.getElem_cons_succ, List.setIfInBounds_toArray, List.set_cons_zero, List.set_cons_succ]
  refine wpAnyH_take (i := 5) (v := ?_) rfl (by kernel_rfl) (by kernel_rfl) (by kernel_rfl) (fun _ _ _ h => h) (Or.inl ⟨by rfl, ?_⟩) hHeld ?_
  rotate_left 1
  · (intro w hSw; obtain ⟨q1, q2, q3⟩ := hSw; go_simp; try with_reducible rfl)
  try simp only [Act.put, List.getElem_toArray, List.getElem_cons_zero, List.getElem_cons_succ, List.setIfInBounds_toArray, List.set_cons_zero, List.set_cons_succ]
  refine wpAnyH_take (i := 6) (v := ?_) rfl (by kernel_rfl) (by kernel_rfl) (by kernel_rfl) (fun _ _ _ h => h) (Or.inl ⟨by rfl, ?_⟩) hHeld ?_
  rotate_left 1
  · (intro w hSw; (try dsimp only at hSw); go_simp; try with_reducible rfl)
  try simp only [Act.put, List.getElem_toArray, List.getElem_cons_zero, List.getElem_cons_succ, List.setIfInBounds_toArray, List.set_cons_zero, List.set_cons_succ]
  refine wpAnyH_take (i := 7) (v := ?_) rfl (by kernel_rfl) (by kernel_rfl) (by kernel_rfl) (fun _ _ _ h => h) (Or.inl ⟨by rfl, ?_⟩) hHeld ?_
  rotate_left 1
  · (intro w hSw; obtain ⟨q1, q2, q3⟩ := hSw; go_simp; try with_reducible rfl)
  try simp only [Act.put, List.getElem_toArray, List.getElem_cons_zero, List.getElem_cons_succ, List.setIfInBounds_toArray, List.set_cons_zero, List.set_cons_succ]
  refine wpAnyH_take (i := 8) (v := ?_) rfl (by kernel_rfl) (by kernel_rfl) (by kernel_rfl) (fun _ _ _ h => h) (Or.inl ⟨by rfl, ?_⟩) hHeld ?_
  rotate_left 1
  · (intro w hSw; (try dsimp only at hSw); go_simp; try with_reducible rfl)
  try simp only [Act.put, List.getElem_toArray, List.getElem_cons_zero, List.getElem_cons_succ, List.setIfInBounds_toArray, List.set_cons_zero, List.set_cons_succ]
  refine wpAnyH_ready (rs := [9]) (by kernel_rfl) (by simp) (AllReadyH.cons rfl (fun K hK => ?_) AllReadyH.nil)
  clear hHeld
  go_simp
  with_reducible refine (HRD.out _ _ ?_).mono ?_
  exact HS1.out.sp.G (HG1.out.trans (G.drew (G.refl _)))
  rintro e' v2 ⟨x2, rfl, hb, hx, hf⟩
  have HG2 := hide (HG1.out.trans ((G.drew (G.refl _)).trans hb))
  have HM2 := hide ((G.drew (G.refl _)).trans hb)
  have HX2 := hide hx
  have HF2 := hide hf
  clear hf
  clear hb hx
  go_wp2_with fail
  refine hK.out _ _ (HH1.out.G HG2.out (by simp)) (fun hHeld => ?_)
  clear hK K
  try simp only [Act.put, List.getElem_toArray, List.getElem_cons_zero, List.getElem_cons_succ, List.setIfInBounds_toArray, List.set_cons_zero, List.set_cons_succ]
  refine wpAnyH_take (i := 10) (v := ?_) rfl (by kernel_rfl) (by kernel_rfl) (by kernel_rfl) (fun _ _ _ h => h) (Or.inl ⟨by rfl, ?_⟩) hHeld ?_
  rotate_left 1
  · (intro w hSw; (try dsimp only at hSw); go_simp; try with_reducible rfl)
  try simp only [Act.put, List.getElem_toArray, List.getElem_cons_zero, List.getElem_cons_succ, List.setIfInBounds_toArray, List.set_cons_zero, List.set_cons_succ]
  refine wpAnyH_take (i := 11) (v := ?_) rfl (by kernel_rfl) (by kernel_rfl) (by kernel_rfl) (fun _ _ _ h => h) (Or.inl ⟨by rfl, ?_⟩) hHeld ?_
  rotate_left 1
  · (intro w hSw; (try dsimp only at hSw); go_simp; try with_reducible rfl)
  try simp only [Act.put, List.getElem_toArray, List.getElem_cons_zero, List.getElem_cons_succ, List.setIfInBounds_toArray, List.set_cons_zero, List.set_cons_succ]
  refine wpAnyH_take (i := 12) (v := ?_) rfl (by kernel_rfl) (by kernel_rfl) (by kernel_rfl) (fun _ _ _ h => h) (Or.inl ⟨by rfl, ?_⟩) hHeld ?_
  rotate_left 1
  · (intro w hSw; (try dsimp only at hSw); go_simp; try with_reducible rfl)
  try simp only [Act.put, List.getElem_toArray, List.getElem_cons_zero, List.getElem_cons_succ, List.setIfInBounds_toArray, List.set_cons_zero, List.set_cons_succ]
  refine wpAnyH_take (i := 13) (v := ?_) rfl (by kernel_rfl) (by kernel_rfl) (by kernel_rfl) (fun _ _ _ h => h) (Or.inl ⟨by rfl, ?_⟩) hHeld ?_
  rotate_left 1
  · (intro w hSw; (try dsimp only at hSw); go_simp; try with_reducible rfl)
  try simp only [Act.put, List.getElem_toArray, List.getElem_cons_zero, List.getElem_cons_succ, List.setIfInBounds_toArray, List.set_cons_zero, List.set_cons_succ]
  refine wpAnyH_take (i := 14) (v := ?_) rfl (by kernel_rfl) (by kernel_rfl) (by kernel_rfl) (fun _ _ _ h => h) (Or.inl ⟨by rfl, ?_⟩) hHeld ?_
  rotate_left 1
  · (intro w hSw; (try dsimp only at hSw); go_simp; try with_reducible rfl)
  try simp only [Act.put, List.getElem_toArray, List.getElem_cons_zero, List.getElem_cons_succ, List.setIfInBounds_toArray, List.set_cons_zero, List.set_cons_succ]
  refine wpAnyH_done (by kernel_rfl) ?_ _
  refine NoPanic.normal ?_
  go_wp2_with fail
  refine wp_region_noPanic ?_
  refine wp_region_held_drew (S := (fun W => Hd W t s w.heap.size pv rv [I 4, I who, I nn, dv, kv])) (by kernel_rfl) (HH1.out.G (HG2.out.trans (G.drew (G.refl _))) (by simp)) (fun hHeld => ?_)
  refine wpAnyH_take (i := 0) (v := ?_) rfl (by kernel_rfl) (by kernel_rfl) (by kernel_rfl) (fun _ _ _ h => h) (Or.inl ⟨by rfl, ?_⟩) hHeld ?_
  rotate_left 1
  · (intro w hSw; (try dsimp only at hSw); go_simp; try with_reducible rfl)
  try simp only [Act.put, List.getElem_toArray, List.getElem_cons_zero, List.setIfInBounds_toArray, List.set_cons_zero, List.set_cons_succ]
  refine wpAnyH_take (i := 1) (v := ?_) rfl (by kernel_rfl) (by kernel_rfl) (by kernel_rfl) (fun _ _ _ h => h) (Or.inl ⟨by rfl, ?_⟩) hHeld ?_
  rotate_left 1
  · (intro w hSw; (try dsimp only at hSw); go_simp; try with_reducible rfl)
  try simp only [Act.put, List.getElem_toArray, List.getElem_cons_zero, List.getElem_cons_succ, List.setIfInBounds_toArray, List.set_cons_zero, List.set_cons_succ]
  refine wpAnyH_take (i := 2) (v := ?_) rfl (by kernel_rfl) (by kernel_rfl) (by kernel_rfl) (fun _ _ _ h => h) (Or.inl ⟨by rfl, ?_⟩) hHeld ?_
  rotate_left 1
  · (intro w hSw; (try dsimp only at hSw); go_simp; try with_reducible rfl)
  try simp only [Act.put, List.getElem_toArray, List.getElem_cons_zero, List.getElem_cons_succ, List.setIfInBounds_toArray, List.set_cons_zero, List.set_cons_succ]
  refine wpAnyH_take (i := 3) (v := ?_) rfl (by kernel_rfl) (by kernel_rfl) (by kernel_rfl) (fun _ _ _ h => h) (Or.inl ⟨by rfl, ?_⟩) hHeld ?_
  rotate_left 1
  · (intro w hSw; (try dsimp only at hSw); go_simp; try with_reducible rfl)
  try simp only [Act.put, List.getElem_toArray, List.getElem_cons_zero, List.getElem_cons_succ, List.setIfInBounds_toArray, List.set_cons_zero, List.set_cons_succ]
  refine wpAnyH_take (i := 4) (v := ?_) rfl (by kernel_rfl) (by kernel_rfl) (by kernel_rfl) (fun _ _ _ h => h) (Or.inl ⟨by rfl, ?_⟩) hHeld ?_
  rotate_left 1
  · (intro w hSw; (try dsimp only at hSw); go_simp; try with_reducible rfl)
  try simp only [Act.put, List.getElem_toArray, List.getElem_cons_zero, List.getElem_cons_succ, List.setIfInBounds_toArray, List.set_cons_zero, List.set_cons_succ]
  refine wpAnyH_take (i := 5) (v := ?_) rfl (by kernel_rfl) (by kernel_rfl) (by kernel_rfl) (fun _ _ _ h => h) (Or.inl ⟨by rfl, ?_⟩) hHeld ?_
  rotate_left 1
  · (intro w hSw; obtain ⟨q1, q2, q3⟩ := hSw; go_simp; try with_reducible rfl)
  try simp only [Act.put, List.getElem_toArray, List.getElem_cons_zero, List.getElem_cons_succ, List.setIfInBounds_toArray, List.set_cons_zero, List.set_cons_succ]
  refine wpAnyH_take (i := 6) (v := ?_) rfl (by kernel_rfl) (by kernel_rfl) (by kernel_rfl) (fun _ _ _ h => h) (Or.inl ⟨by rfl, ?_⟩) hHeld ?_
  rotate_left 1
  · (intro w hSw; (try dsimp only at hSw); go_simp; try with_reducible rfl)
  try simp only [Act.put, List.getElem_toArray, List.getElem_cons_zero, List.getElem_cons_succ, List.setIfInBounds_toArray, List.set_cons_zero, List.set_cons_succ]
  refine wpAnyH_take (i := 7) (v := ?_) rfl (by kernel_rfl) (by kernel_rfl) (by kernel_rfl) (fun _ _ _ h => h) (Or.inl ⟨by rfl, ?_⟩) hHeld ?_
  rotate_left 1
  · (intro w hSw; obtain ⟨q1, q2, q3⟩ := hSw; go_simp; try with_reducible rfl)
  try simp only [Act.put, List.getElem_toArray, List.getElem_cons_zero, List.getElem_cons_succ, List.setIfInBounds_toArray, List.set_cons_zero, List.set_cons_succ]
  refine wpAnyH_ready (rs := [8]) (by kernel_rfl) (by simp) (AllReadyH.cons rfl (fun K hK => ?_) AllReadyH.nil)
  clear hHeld
  go_simp
  with_reducible refine (HRD.out _ _ ?_).mono ?_
  exact HS1.out.sp.G (HG2.out.trans (G.drew (G.refl _)))
  rintro e' v3 ⟨x3, rfl, hb, hx, hf⟩
  have HG3 := hide (HG2.out.trans ((G.drew (G.refl _)).trans hb))
  have HM3 := hide ((G.drew (G.refl _)).trans hb)
  have HX3 := hide hx
  have HF3 := hide hf
  clear hf
  clear hb hx
  go_wp2_with fail
  refine hK.out _ _ (HH1.out.G HG3.out (by simp)) (fun hHeld => ?_)
  clear hK K
  try simp only [Act.put, List.getElem_toArray, List.getElem_cons_zero, List.getElem_cons_succ, List.setIfInBounds_toArray, List.set_cons_zero, List.set_cons_succ]
  refine wpAnyH_take (i := 9) (v := ?_) rfl (by kernel_rfl) (by kernel_rfl) (by kernel_rfl) (fun _ _ _ h => h) (Or.inl ⟨by rfl, ?_⟩) hHeld ?_
  rotate_left 1
  · (intro w hSw; (try dsimp only at hSw); go_simp; try with_reducible rfl)
  try simp only [Act.put, List.getElem_toArray, List.getElem_cons_zero, List.getElem_cons_succ, List.setIfInBounds_toArray, List.set_cons_zero, List.set_cons_succ]
  refine wpAnyH_take (i := 10) (v := ?_) rfl (by kernel_rfl) (by kernel_rfl) (by kernel_rfl) (fun _ _ _ h => h) (Or.inl ⟨by rfl, ?_⟩) hHeld ?_
  rotate_left 1
  · (intro w hSw; (try dsimp only at hSw); go_simp; try with_reducible rfl)
  try simp only [Act.put, List.getElem_toArray, List.getElem_cons_zero, List.getElem_cons_succ, List.setIfInBounds_toArray, List.set_cons_zero, List.set_cons_succ]
  refine wpAnyH_take (i := 11) (v := ?_) rfl (by kernel_rfl) (by kernel_rfl) (by kernel_rfl) (fun _ _ _ h => h) (Or.inl ⟨by rfl, ?_⟩) hHeld ?_
  rotate_left 1
  · (intro w hSw; (try dsimp only at hSw); go_simp; try with_reducible rfl)
  try simp only [Act.put, List.getElem_toArray, List.getElem_cons_zero, List.getElem_cons_succ, List.setIfInBounds_toArray, List.set_cons_zero, List.set_cons_succ]
  refine wpAnyH_take (i := 12) (v := ?_) rfl (by kernel_rfl) (by kernel_rfl) (by kernel_rfl) (fun _ _ _ h => h) (Or.inl ⟨by rfl, ?_⟩) hHeld ?_
  rotate_left 1
  · (intro w hSw; (try dsimp only at hSw); go_simp; try with_reducible rfl)
  try simp only [Act.put, List.getElem_toArray, List.getElem_cons_zero, List.getElem_cons_succ, List.setIfInBounds_toArray, List.set_cons_zero, List.set_cons_succ]
  refine wpAnyH_take (i := 13) (v := ?_) rfl (by kernel_rfl) (by kernel_rfl) (by kernel_rfl) (fun _ _ _ h => h) (Or.inl ⟨by rfl, ?_⟩) hHeld ?_
  rotate_left 1
  · (intro w hSw; (try dsimp only at hSw); go_simp; try with_reducible rfl)
  try simp only [Act.put, List.getElem_toArray, List.getElem_cons_zero, List.getElem_cons_succ, List.setIfInBounds_toArray, List.set_cons_zero, List.set_cons_succ]
  refine wpAnyH_done (by kernel_rfl) ?_ _
  refine NoPanic.normal ?_
  go_wp2_with fail
  refine wp_region_noPanic ?_
  refine wp_region_held_drew (S := (fun W => Hd W t s w.heap.size pv rv [I 4, I who, I nn, dv, kv])) (by kernel_rfl) (HH1.out.G (HG3.out.trans (G.drew (G.refl _))) (by simp)) (fun hHeld => ?_)
  refine wpAnyH_take (i := 0) (v := ?_) rfl (by kernel_rfl) (by kernel_rfl) (by kernel_rfl) (fun _ _ _ h => h) (Or.inl ⟨by rfl, ?_⟩) hHeld ?_
  rotate_left 1
  · (intro w hSw; (try dsimp only at hSw); go_simp; try with_reducible rfl)
  try simp only [Act.put, List.getElem_toArray, List.getElem_cons_zero, List.setIfInBounds_toArray, List.set_cons_zero, List.set_cons_succ]
  refine wpAnyH_take (i := 1) (v := ?_) rfl (by kernel_rfl) (by kernel_rfl) (by kernel_rfl) (fun _ _ _ h => h) (Or.inl ⟨by rfl, ?_⟩) hHeld ?_
  rotate_left 1
  · (intro w hSw; (try dsimp only at hSw); go_simp; try with_reducible rfl)
  try simp only [Act.put, List.getElem_toArray, List.getElem_cons_zero, List.getElem_cons_succ, List.setIfInBounds_toArray, List.set_cons_zero, List.set_cons_succ]
  refine wpAnyH_take (i := 2) (v := ?_) rfl (by kernel_rfl) (by kernel_rfl) (by kernel_rfl) (fun _ _ _ h => h) (Or.inl ⟨by rfl, ?_⟩) hHeld ?_
  rotate_left 1
  · (intro w hSw; (try dsimp only at hSw); go_simp; try with_reducible rfl)
  try simp only [Act.put, List.getElem_toArray, List.getElem_cons_zero, List.getElem_cons_succ, List.setIfInBounds_toArray, List.set_cons_zero, List.set_cons_succ]
  refine wpAnyH_take (i := 3) (v := ?_) rfl (by kernel_rfl) (by kernel_rfl) (by kernel_rfl) (fun _ _ _ h => h) (Or.inl ⟨by rfl, ?_⟩) hHeld ?_
  rotate_left 1
  · (intro w hSw; (try dsimp only at hSw); go_simp; try with_reducible rfl)
  try simp only [Act.put, List.getElem_toArray, List.getElem_cons_zero, List.getElem_cons_succ, List.setIfInBounds_toArray, List.set_cons_zero, List.set_cons_succ]
  refine wpAnyH_take (i := 4) (v := ?_) rfl (by kernel_rfl) (by kernel_rfl) (by kernel_rfl) (fun _ _ _ h => h) (Or.inl ⟨by rfl, ?_⟩) hHeld ?_
  rotate_left 1
  · (intro w hSw; (try dsimp only at hSw); go_simp; try with_reducible rfl)
  try simp only [Act.put, List.getElem_toArray, List.getElem_cons_zero, List.getElem_cons_succ, List.setIfInBounds_toArray, List.set_cons_zero, List.set_cons_succ]
  refine wpAnyH_take (i := 5) (v := ?_) rfl (by kernel_rfl) (by kernel_rfl) (by kernel_rfl) (fun _ _ _ h => h) (Or.inl ⟨by rfl, ?_⟩) hHeld ?_
  rotate_left 1
  · (intro w hSw; obtain ⟨q1, q2, q3⟩ := hSw; go_simp; try with_reducible rfl)
  try simp only [Act.put, List.getElem_toArray, List.getElem_cons_zero, List.getElem_cons_succ, List.setIfInBounds_toArray, List.set_cons_zero, List.set_cons_succ]
  refine wpAnyH_take (i := 6) (v := ?_) rfl (by kernel_rfl) (by kernel_rfl) (by kernel_rfl) (fun _ _ _ h => h) (Or.inl ⟨by rfl, ?_⟩) hHeld ?_
  rotate_left 1
  · (intro w hSw; (try dsimp only at hSw); go_simp; try with_reducible rfl)
  try simp only [Act.put, List.getElem_toArray, List.getElem_cons_zero, List.getElem_cons_succ, List.setIfInBounds_toArray, List.set_cons_zero, List.set_cons_succ]
  refine wpAnyH_take (i := 7) (v := ?_) rfl (by kernel_rfl) (by kernel_rfl) (by kernel_rfl) (fun _ _ _ h => h) (Or.inl ⟨by rfl, ?_⟩) hHeld ?_
  rotate_left 1
  · (intro w hSw; obtain ⟨q1, q2, q3⟩ := hSw; go_simp; try with_reducible rfl)
  try simp only [Act.put, List.getElem_toArray, List.getElem_cons_zero, List.getElem_cons_succ, List.setIfInBounds_toArray, List.set_cons_zero, List.set_cons_succ]
  refine wpAnyH_ready (rs := [8]) (by kernel_rfl) (by simp) (AllReadyH.cons rfl (fun K hK => ?_) AllReadyH.nil)
  clear hHeld
  go_simp
  with_reducible refine (HRR.out _ _ ?_).mono ?_
  exact HS1.out.sr.G (HG3.out.trans (G.drew (G.refl _)))
  rintro e' v4 ⟨x4, rfl, hb, hx⟩
  have HG4 := hide (HG3.out.trans ((G.drew (G.refl _)).trans hb))
  have HM4 := hide ((G.drew (G.refl _)).trans hb)
  have HX4 := hide hx
  clear hb hx
  go_wp2_with fail
  refine hK.out _ _ (HH1.out.G HG4.out (by simp)) (fun hHeld => ?_)
  clear hK K
  try simp only [Act.put, List.getElem_toArray, List.getElem_cons_zero, List.getElem_cons_succ, List.setIfInBounds_toArray, List.set_cons_zero, List.set_cons_succ]
  refine wpAnyH_take (i := 9) (v := ?_) rfl (by kernel_rfl) (by kernel_rfl) (by kernel_rfl) (fun _ _ _ h => h) (Or.inl ⟨by rfl, ?_⟩) hHeld ?_
  rotate_left 1
  · (intro w hSw; (try dsimp only at hSw); go_simp; try with_reducible rfl)
  try simp only [Act.put, List.getElem_toArray, List.getElem_cons_zero, List.getElem_cons_succ, List.setIfInBounds_toArray, List.set_cons_zero, List.set_cons_succ]
  refine wpAnyH_take (i := 10) (v := ?_) rfl (by kernel_rfl) (by kernel_rfl) (by kernel_rfl) (fun _ _ _ h => h) (Or.inl ⟨by rfl, ?_⟩) hHeld ?_
  rotate_left 1
  · (intro w hSw; (try dsimp only at hSw); go_simp; try with_reducible rfl)
  try simp only [Act.put, List.getElem_toArray, List.getElem_cons_zero, List.getElem_cons_succ, List.setIfInBounds_toArray, List.set_cons_zero, List.set_cons_succ]
  refine wpAnyH_take (i := 11) (v := ?_) rfl (by kernel_rfl) (by kernel_rfl) (by kernel_rfl) (fun _ _ _ h => h) (Or.inl ⟨by rfl, ?_⟩) hHeld ?_
  rotate_left 1
  · (intro w hSw; (try dsimp only at hSw); go_simp; try with_reducible rfl)
  try simp only [Act.put, List.getElem_toArray, List.getElem_cons_zero, List.getElem_cons_succ, List.setIfInBounds_toArray, List.set_cons_zero, List.set_cons_succ]
  refine wpAnyH_take (i := 12) (v := ?_) rfl (by kernel_rfl) (by kernel_rfl) (by kernel_rfl) (fun _ _ _ h => h) (Or.inl ⟨by rfl, ?_⟩) hHeld ?_
  rotate_left 1
  · (intro w hSw; (try dsimp only at hSw); go_simp; try with_reducible rfl)
  try simp only [Act.put, List.getElem_toArray, List.getElem_cons_zero, List.getElem_cons_succ, List.setIfInBounds_toArray, List.set_cons_zero, List.set_cons_succ]
  refine wpAnyH_take (i := 13) (v := ?_) rfl (by kernel_rfl) (by kernel_rfl) (by kernel_rfl) (fun _ _ _ h => h) (Or.inl ⟨by rfl, ?_⟩) hHeld ?_
  rotate_left 1
  · (intro w hSw; (try dsimp only at hSw); go_simp; try with_reducible rfl)
  try simp only [Act.put, List.getElem_toArray, List.getElem_cons_zero, List.getElem_cons_succ, List.setIfInBounds_toArray, List.set_cons_zero, List.set_cons_succ]
  refine wpAnyH_done (by kernel_rfl) ?_ _
  refine NoPanic.normal ?_
  go_wp2_with fail
  refine wp_region_noPanic ?_
  refine wp_region_held_drew (S := (fun W => Hd W t s w.heap.size pv rv [I 4, I who, I nn, dv, kv])) (by kernel_rfl) (HH1.out.G (HG4.out.trans (G.drew (G.refl _))) (by simp)) (fun hHeld => ?_)
  refine wpAnyH_take (i := 0) (v := ?_) rfl (by kernel_rfl) (by kernel_rfl) (by kernel_rfl) (fun _ _ _ h => h) (Or.inl ⟨by rfl, ?_⟩) hHeld ?_
  rotate_left 1
  · (intro w hSw; (try dsimp only at hSw); go_simp; try with_reducible rfl)
  try simp only [Act.put, List.getElem_toArray, List.getElem_cons_zero, List.setIfInBounds_toArray, List.set_cons_zero, List.set_cons_succ]
  refine wpAnyH_take (i := 1) (v := ?_) rfl (by kernel_rfl) (by kernel_rfl) (by kernel_rfl) (fun _ _ _ h => h) (Or.inl ⟨by rfl, ?_⟩) hHeld ?_
  rotate_left 1
  · (intro w hSw; (try dsimp only at hSw); go_simp; try with_reducible rfl)
  try simp only [Act.put, List.getElem_toArray, List.getElem_cons_zero, List.getElem_cons_succ, List.setIfInBounds_toArray, List.set_cons_zero, List.set_cons_succ]
  refine wpAnyH_take (i := 2) (v := ?_) rfl (by kernel_rfl) (by kernel_rfl) (by kernel_rfl) (fun _ _ _ h => h) (Or.inl ⟨by rfl, ?_⟩) hHeld ?_
  rotate_left 1
  · (intro w hSw; (try dsimp only at hSw); go_simp; try with_reducible rfl)
  try simp only [Act.put, List.getElem_toArray, List.getElem_cons_zero, List.getElem_cons_succ, List.setIfInBounds_toArray, List.set_cons_zero, List.set_cons_succ]
  refine wpAnyH_take (i := 3) (v := ?_) rfl (by kernel_rfl) (by kernel_rfl) (by kernel_rfl) (fun _ _ _ h => h) (Or.inl ⟨by rfl, ?_⟩) hHeld ?_
  rotate_left 1
  · (intro w hSw; (try dsimp only at hSw); go_simp; try with_reducible rfl)
  try simp only [Act.put, List.getElem_toArray, List.getElem_cons_zero, List.getElem_cons_succ, List.setIfInBounds_toArray, List.set_cons_zero, List.set_cons_succ]
  refine wpAnyH_take (i := 4) (v := ?_) rfl (by kernel_rfl) (by kernel_rfl) (by kernel_rfl) (fun _ _ _ h => h) (Or.inl ⟨by rfl, ?_⟩) hHeld ?_
  rotate_left 1
  · (intro w hSw; (try dsimp only at hSw); go_simp; try with_reducible rfl)
  try simp only [Act.put, List.getElem_toArray, List.getElem_cons_zero, List.getElem_cons_succ, List.setIfInBounds_toArray, List.set_cons_zero, List.set_cons_succ]
  refine wpAnyH_take (i := 5) (v := ?_) rfl (by kernel_rfl) (by kernel_rfl) (by kernel_rfl) (fun _ _ _ h => h) (Or.inl ⟨by rfl, ?_⟩) hHeld ?_
  rotate_left 1
  · (intro w hSw; obtain ⟨q1, q2, q3⟩ := hSw; go_simp; try with_reducible rfl)
  try simp only [Act.put, List.getElem_toArray, List.getElem_cons_zero, List.getElem_cons_succ, List.setIfInBounds_toArray, List.set_cons_zero, List.set_cons_succ]
  refine wpAnyH_take (i := 6) (v := ?_) rfl (by kernel_rfl) (by kernel_rfl) (by kernel_rfl) (fun _ _ _ h => h) (Or.inl ⟨by rfl, ?_⟩) hHeld ?_
  rotate_left 1
  · (intro w hSw; (try dsimp only at hSw); go_simp; try with_reducible rfl)
  try simp only [Act.put, List.getElem_toArray, List.getElem_cons_zero, List.getElem_cons_succ, List.setIfInBounds_toArray, List.set_cons_zero, List.set_cons_succ]
  refine wpAnyH_take (i := 7) (v := ?_) rfl (by kernel_rfl) (by kernel_rfl) (by kernel_rfl) (fun _ _ _ h => h) (Or.inl ⟨by rfl, ?_⟩) hHeld ?_
  rotate_left 1
  · (intro w hSw; obtain ⟨q1, q2, q3⟩ := hSw; go_simp; try with_reducible rfl)
  try simp only [Act.put, List.getElem_toArray, List.getElem_cons_zero, List.getElem_cons_succ, List.setIfInBounds_toArray, List.set_cons_zero, List.set_cons_succ]
  refine wpAnyH_take (i := 8) (v := ?_) rfl (by kernel_rfl) (by kernel_rfl) (by kernel_rfl) (fun _ _ _ h => h) (Or.inl ⟨by rfl, ?_⟩) hHeld ?_
  rotate_left 1
  · (intro w hSw; (try dsimp only at hSw); go_simp; try with_reducible rfl)
  try simp only [Act.put, List.getElem_toArray, List.getElem_cons_zero, List.getElem_cons_succ, List.setIfInBounds_toArray, List.set_cons_zero, List.set_cons_succ]
  refine wpAnyH_ready (rs := [9]) (by kernel_rfl) (by simp) (AllReadyH.cons rfl (fun K hK => ?_) AllReadyH.nil)
  clear hHeld
  go_simp
  with_reducible refine (HRR.out _ _ ?_).mono ?_
  exact HS1.out.sr.G (HG4.out.trans (G.drew (G.refl _)))
  rintro e' v5 ⟨x5, rfl, hb, hx⟩
  have HG5 := hide (HG4.out.trans ((G.drew (G.refl _)).trans hb))
  have HM5 := hide ((G.drew (G.refl _)).trans hb)
  have HX5 := hide hx
  clear hb hx
  go_wp2_with fail
  refine hK.out _ _ (HH1.out.G HG5.out (by simp)) (fun hHeld => ?_)
  clear hK K
  try simp only [Act.put, List.getElem_toArray, List.getElem_cons_zero, List.getElem_cons_succ, List.setIfInBounds_toArray, List.set_cons_zero, List.set_cons_succ]
  refine wpAnyH_take (i := 10) (v := ?_) rfl (by kernel_rfl) (by kernel_rfl) (by kernel_rfl) (fun _ _ _ h => h) (Or.inl ⟨by rfl, ?_⟩) hHeld ?_
  rotate_left 1
  · (intro w hSw; (try dsimp only at hSw); go_simp; try with_reducible rfl)
  try simp only [Act.put, List.getElem_toArray, List.getElem_cons_zero, List.getElem_cons_succ, List.setIfInBounds_toArray, List.set_cons_zero, List.set_cons_succ]
  refine wpAnyH_take (i := 11) (v := ?_) rfl (by kernel_rfl) (by kernel_rfl) (by kernel_rfl) (fun _ _ _ h => h) (Or.inl ⟨by rfl, ?_⟩) hHeld ?_
  rotate_left 1
  · (intro w hSw; (try dsimp only at hSw); go_simp; try with_reducible rfl)
  try simp only [Act.put, List.getElem_toArray, List.getElem_cons_zero, List.getElem_cons_succ, List.setIfInBounds_toArray, List.set_cons_zero, List.set_cons_succ]
  refine wpAnyH_take (i := 12) (v := ?_) rfl (by kernel_rfl) (by kernel_rfl) (by kernel_rfl) (fun _ _ _ h => h) (Or.inl ⟨by rfl, ?_⟩) hHeld ?_
  rotate_left 1
  · (intro w hSw; (try dsimp only at hSw); go_simp; try with_reducible rfl)
  try simp only [Act.put, List.getElem_toArray, List.getElem_cons_zero, List.getElem_cons_succ, List.setIfInBounds_toArray, List.set_cons_zero, List.set_cons_succ]
  refine wpAnyH_take (i := 13) (v := ?_) rfl (by kernel_rfl) (by kernel_rfl) (by kernel_rfl) (fun _ _ _ h => h) (Or.inl ⟨by rfl, ?_⟩) hHeld ?_
  rotate_left 1
  · (intro w hSw; (try dsimp only at hSw); go_simp; try with_reducible rfl)
  try simp only [Act.put, List.getElem_toArray, List.getElem_cons_zero, List.getElem_cons_succ, List.setIfInBounds_toArray, List.set_cons_zero, List.set_cons_succ]
  refine wpAnyH_take (i := 14) (v := ?_) rfl (by kernel_rfl) (by kernel_rfl) (by kernel_rfl) (fun _ _ _ h => h) (Or.inl ⟨by rfl, ?_⟩) hHeld ?_
  rotate_left 1
  · (intro w hSw; (try dsimp only at hSw); go_simp; try with_reducible rfl)
  try simp only [Act.put, List.getElem_toArray, List.getElem_cons_zero, List.getElem_cons_succ, List.setIfInBounds_toArray, List.set_cons_zero, List.set_cons_succ]
  refine wpAnyH_done (by kernel_rfl) ?_ _
  refine NoPanic.normal ?_
  go_wp2_with fail
  refine wp_region_noPanic ?_
  refine wp_region_held_drew (S := (fun W => Hd W t s w.heap.size pv rv [I 4, I who, I nn, dv, kv])) (by kernel_rfl) (HH1.out.G (HG5.out.trans (G.drew (G.refl _))) (by simp)) (fun hHeld => ?_)
  refine wpAnyH_take (i := 0) (v := ?_) rfl (by kernel_rfl) (by kernel_rfl) (by kernel_rfl) (fun _ _ _ h => h) (Or.inl ⟨by rfl, ?_⟩) hHeld ?_
  rotate_left 1
  · (intro w hSw; (try dsimp only at hSw); go_simp; try with_reducible rfl)
  try simp only [Act.put, List.getElem_toArray, List.getElem_cons_zero, List.setIfInBounds_toArray, List.set_cons_zero, List.set_cons_succ]
  refine wpAnyH_take (i := 1) (v := ?_) rfl (by kernel_rfl) (by kernel_rfl) (by kernel_rfl) (fun _ _ _ h => h) (Or.inl ⟨by rfl, ?_⟩) hHeld ?_
  rotate_left 1
  · (intro w hSw; (try dsimp only at hSw); go_simp; try with_reducible rfl)
  try simp only [Act.put, List.getElem_toArray, List.getElem_cons_zero, List.getElem_cons_succ, List.setIfInBounds_toArray, List.set_cons_zero, List.set_cons_succ]
  refine wpAnyH_take (i := 2) (v := ?_) rfl (by kernel_rfl) (by kernel_rfl) (by kernel_rfl) (fun _ _ _ h => h) (Or.inl ⟨by rfl, ?_⟩) hHeld ?_
  rotate_left 1
  · (intro w hSw; (try dsimp only at hSw); go_simp; try with_reducible rfl)
  try simp only [Act.put, List.getElem_toArray, List.getElem_cons_zero, List.getElem_cons_succ, List.setIfInBounds_toArray, List.set_cons_zero, List.set_cons_succ]
  refine wpAnyH_take (i := 3) (v := ?_) rfl (by kernel_rfl) (by kernel_rfl) (by kernel_rfl) (fun _ _ _ h => h) (Or.inl ⟨by rfl, ?_⟩) hHeld ?_
  rotate_left 1
  · (intro w hSw; (try dsimp only at hSw); go_simp; try with_reducible rfl)
  try simp only [Act.put, List.getElem_toArray, List.getElem_cons_zero, List.getElem_cons_succ, List.setIfInBounds_toArray, List.set_cons_zero, List.set_cons_succ]
  refine wpAnyH_take (i := 4) (v := ?_) rfl (by kernel_rfl) (by kernel_rfl) (by kernel_rfl) (fun _ _ _ h => h) (Or.inl ⟨by rfl, ?_⟩) hHeld ?_
  rotate_left 1
  · (intro w hSw; (try dsimp only at hSw); go_simp; try with_reducible rfl)
  try simp only [Act.put, List.getElem_toArray, List.getElem_cons_zero, List.getElem_cons_succ, List.setIfInBounds_toArray, List.set_cons_zero, List.set_cons_succ]
  refine wpAnyH_take (i := 5) (v := ?_) rfl (by kernel_rfl) (by kernel_rfl) (by kernel_rfl) (fun _ _ _ h => h) (Or.inl ⟨by rfl, ?_⟩) hHeld ?_
  rotate_left 1
  · (intro w hSw; obtain ⟨q1, q2, q3⟩ := hSw; go_simp; try with_reducible rfl)
  try simp only [Act.put, List.getElem_toArray, List.getElem_cons_zero, List.getElem_cons_succ, List.setIfInBounds_toArray, List.set_cons_zero, List.set_cons_succ]
  refine wpAnyH_take (i := 6) (v := ?_) rfl (by kernel_rfl) (by kernel_rfl) (by kernel_rfl) (fun _ _ _ h => h) (Or.inl ⟨by rfl, ?_⟩) hHeld ?_
  rotate_left 1
  · (intro w hSw; (try dsimp only at hSw); go_simp; try with_reducible rfl)
  try simp only [Act.put, List.getElem_toArray, List.getElem_cons_zero, List.getElem_cons_succ, List.setIfInBounds_toArray, List.set_cons_zero, List.set_cons_succ]
  refine wpAnyH_take (i := 7) (v := ?_) rfl (by kernel_rfl) (by kernel_rfl) (by kernel_rfl) (fun _ _ _ h => h) (Or.inl ⟨by rfl, ?_⟩) hHeld ?_
  rotate_left 1
  · (intro w hSw; obtain ⟨q1, q2, q3⟩ := hSw; go_simp; try with_reducible rfl)
  try simp only [Act.put, List.getElem_toArray, List.getElem_cons_zero, List.getElem_cons_succ, List.setIfInBounds_toArray, List.set_cons_zero, List.set_cons_succ]
  refine wpAnyH_ready (rs := [8]) (by kernel_rfl) (by simp) (AllReadyH.cons rfl (fun K hK => ?_) AllReadyH.nil)
  clear hHeld
  go_simp
  with_reducible refine (HRR.out _ _ ?_).mono ?_
  exact HS1.out.sr.G (HG5.out.trans (G.drew (G.refl _)))
  rintro e' v6 ⟨x6, rfl, hb, hx⟩
  have HG6 := hide (HG5.out.trans ((G.drew (G.refl _)).trans hb))
  have HM6 := hide ((G.drew (G.refl _)).trans hb)
  have HX6 := hide hx
  clear hb hx
  go_wp2_with fail
  refine hK.out _ _ (HH1.out.G HG6.out (by simp)) (fun hHeld => ?_)
  clear hK K
  try simp only [Act.put, List.getElem_toArray, List.getElem_cons_zero, List.getElem_cons_succ, List.setIfInBounds_toArray, List.set_cons_zero, List.set_cons_succ]
  refine wpAnyH_take (i := 9) (v := ?_) rfl (by kernel_rfl) (by kernel_rfl) (by kernel_rfl) (fun _ _ _ h => h) (Or.inl ⟨by rfl, ?_⟩) hHeld ?_
  rotate_left 1
  · (intro w hSw; (try dsimp only at hSw); go_simp; try with_reducible rfl)
  try simp only [Act.put, List.getElem_toArray, List.getElem_cons_zero, List.getElem_cons_succ, List.setIfInBounds_toArray, List.set_cons_zero, List.set_cons_succ]
  refine wpAnyH_take (i := 10) (v := ?_) rfl (by kernel_rfl) (by kernel_rfl) (by kernel_rfl) (fun _ _ _ h => h) (Or.inl ⟨by rfl, ?_⟩) hHeld ?_
  rotate_left 1
  · (intro w hSw; (try dsimp only at hSw); go_simp; try with_reducible rfl)
  try simp only [Act.put, List.getElem_toArray, List.getElem_cons_zero, List.getElem_cons_succ, List.setIfInBounds_toArray, List.set_cons_zero, List.set_cons_succ]
  refine wpAnyH_take (i := 11) (v := ?_) rfl (by kernel_rfl) (by kernel_rfl) (by kernel_rfl) (fun _ _ _ h => h) (Or.inl ⟨by rfl, ?_⟩) hHeld ?_
  rotate_left 1
  · (intro w hSw; (try dsimp only at hSw); go_simp; try with_reducible rfl)
  try simp only [Act.put, List.getElem_toArray, List.getElem_cons_zero, List.getElem_cons_succ, List.setIfInBounds_toArray, List.set_cons_zero, List.set_cons_succ]
  refine wpAnyH_take (i := 12) (v := ?_) rfl (by kernel_rfl) (by kernel_rfl) (by kernel_rfl) (fun _ _ _ h => h) (Or.inl ⟨by rfl, ?_⟩) hHeld ?_
  rotate_left 1
  · (intro w hSw; (try dsimp only at hSw); go_simp; try with_reducible rfl)
  try simp only [Act.put, List.getElem_toArray, List.getElem_cons_zero, List.getElem_cons_succ, List.setIfInBounds_toArray, List.set_cons_zero, List.set_cons_succ]
  refine wpAnyH_take (i := 13) (v := ?_) rfl (by kernel_rfl) (by kernel_rfl) (by kernel_rfl) (fun _ _ _ h => h) (Or.inl ⟨by rfl, ?_⟩) hHeld ?_
  rotate_left 1
  · (intro w hSw; (try dsimp only at hSw); go_simp; try with_reducible rfl)
  try simp only [Act.put, List.getElem_toArray, List.getElem_cons_zero, List.getElem_cons_succ, List.setIfInBounds_toArray, List.set_cons_zero, List.set_cons_succ]
  refine wpAnyH_done (by kernel_rfl) ?_ _
  refine NoPanic.normal ?_
  generalize IntKind.i64.wrap (nn + 1) = n1 at *
  go_wp2_with fail
  refine (same_true _ _ (rdB mo nn) (Nat.le_trans (HRL.out _) (by decide)) _ (HX1.out.G ((((HM2.out.trans HM3.out).trans HM4.out).trans HM5.out).trans HM6.out)) (HX4.out.G (HM5.out.trans HM6.out))).mono ?_
  rintro e' v7 ⟨rfl, hg⟩
  have HM7 := hide hg
  have HG7 := hide (HG6.out.trans hg)
  clear hg
  go_wp2_with fail
  refine (same_true _ _ (rdB mo n1) (Nat.le_trans (HRL.out _) (by decide)) _ (HX2.out.G ((((HM3.out.trans HM4.out).trans HM5.out).trans HM6.out).trans HM7.out)) (HX5.out.G (HM6.out.trans HM7.out))).mono ?_
  rintro e' v8 ⟨rfl, hg⟩
  have HM8 := hide hg
  have HG8 := hide (HG7.out.trans hg)
  clear hg
  go_wp2_with fail
  refine (same_true _ _ (rdB mo nn) (Nat.le_trans (HRL.out _) (by decide)) _ (HX3.out.G ((((HM4.out.trans HM5.out).trans HM6.out).trans HM7.out).trans HM8.out)) (HX6.out.G (HM7.out.trans HM8.out))).mono ?_
  rintro e' v9 ⟨rfl, hg⟩
  have HM9 := hide hg
  have HG9 := hide (HG8.out.trans hg)
  clear hg
  obtain ⟨p1, c1, e1, _⟩ := HX1.out
  obtain ⟨p2, c2, e2, _⟩ := HX2.out
  obtain ⟨p3, c3, e3, _⟩ := HX3.out
  subst e1 e2 e3
  go_wp2_with fail
  have HGA := hide ((HW1.out.trans HG9.out).alloc (.cells #[(.slice p1 (rdB mo nn).length c1), (.slice p2 (rdB mo n1).length c2), (.slice p3 (rdB mo nn).length c3)] 28))
  have HML := hide ((G.refl v9).alloc (.cells #[(.slice p1 (rdB mo nn).length c1), (.slice p2 (rdB mo n1).length c2), (.slice p3 (rdB mo nn).length c3)] 28))
  have HNA := hide (Blk.new v9 [(.slice p1 (rdB mo nn).length c1), (.slice p2 (rdB mo n1).length c2), (.slice p3 (rdB mo nn).length c3)] 28)
  generalize v9.alloc (.cells #[(.slice p1 (rdB mo nn).length c1), (.slice p2 (rdB mo n1).length c2), (.slice p3 (rdB mo nn).length c3)] 28) = wa at HGA HML HNA ⊢
  have HSL : Hid (w.heap.size ≤ v9.heap.size) := (HW1.out.trans HG9.out).size
  have HNZ := hide (nz3 (K := K) HF1.out HF2.out HF3.out (((((((((HM2.out.trans HM3.out).trans HM4.out).trans HM5.out).trans HM6.out).trans HM7.out).trans HM8.out).trans HM9.out)).trans HML.out) ((((((((HM3.out.trans HM4.out).trans HM5.out).trans HM6.out).trans HM7.out).trans HM8.out).trans HM9.out)).trans HML.out) (((((((HM4.out.trans HM5.out).trans HM6.out).trans HM7.out).trans HM8.out).trans HM9.out)).trans HML.out) ((G.refl _)).size ((G.refl _)).size HM1.out.size HM2.out.size (fun j hj => Nat.lt_of_lt_of_le (HI.out.k j (.inl hj)).2 (HW1.out.trans HG0.out).size))
  have HZG : Hid (∀ j, zB 3 (z3 (.slice p1 (rdB mo nn).length c1) (.slice p2 (rdB mo n1).length c2) (.slice p3 (rdB mo nn).length c3)) j → w.heap.size ≤ j) := fun j hj => Nat.le_trans (HW1.out.trans HG0.out).size (HNZ.out.2 j hj)
  refine (own_add 3 v9.heap.size 0 3 (some ⟨v9.heap.size, 0, none⟩) (z3 (.slice p1 (rdB mo nn).length c1) (.slice p2 (rdB mo n1).length c2) (.slice p3 (rdB mo nn).length c3)) _ hn2 wa (HI.out.G HGA.out) HNZ.out.1 (fun j hj => ?_) ?_ (fun i hi => ?_) (fun _ => ⟨rfl, ⟨_, _, HNA.out.h⟩, fun e => ?_⟩)).mono ?_
  · have h1 := HZG.out j hj
    have h2 := HZW.out
    exact ⟨by omega, fun e => by have := (HI.out.d j e).2.1; omega⟩
  · have := HZW.out
    have := HGA.out.size
    omega
  · rw [HNA.out.cell]
    rcases i with _ | _ | _ | i
    · rfl
    · rfl
    · rfl
    · omega
  · have := (HI.out.k _ (.inr e)).2
    have := HSL.out
    omega
  rintro e wz ⟨rfl, K', R', X', Y', hi7, hc7, _⟩
  have HI7 := hide hi7
  have HCZ : Hid (Chg (fun j => z ≤ j) w wz) := HGA.out.chg.trans (hc7.mono (fun j hj => by
    rcases hj with hj | hj
    · exact (HI.out.k j (.inr hj)).1
    · have := HZG.out j hj
      have := HZW.out
      omega))
  clear hi7 hc7
  go_wp2
  go_ret
  exact ⟨rfl, n + 3, m, _, K', R', X', Y', U, V, HI7.out.up, by omega, by omega, HCZ.out⟩
set_option maxRecDepth 100000 in
set_option maxHeartbeats 16000000 in
theorem gives_image (who nn : Int) (dv kv : Value) (z t s bb B n m : Nat) (D K R : Nat → Prop) (X Y U V : Nat → Value) (hs : s < 2) (hw : bits BinOp.and IntKind.i64 who 1 = (s : Int)) (hBB : B ≤ 549755813888) (hn2 : n + 3 ≤ 5864062014805) (w : World) (h : OI w z t bb B n m D K R X Y U V) :
    Calls Try.prog 18 #[.pointer (some ⟨t, 0, none⟩), .agg #[I 10, I who, I nn, dv, kv], .pointer (some ⟨bb, 0, none⟩)] w fun e w' => e = .returned (.bool true) ∧ OA w z t bb B n m w' := by
  obtain ⟨cs, pv, rv, FP, FR, mo, pv', rv', FP', FR', mo', hT, hD⟩ := h.td.at hs
  have hBf : fewO mo 549755813888 := fun m e => by obtain ⟨h1, h2, h3⟩ := hT.x m e; exact ⟨by omega, by omega, by omega⟩
  have HI := hide h
  have HS0 := hide hT.a
  have HZW : Hid (z ≤ w.heap.size) := Nat.le_of_lt (Nat.lt_of_le_of_lt hT.z hT.a.bt.lt)
  have HO1 := hide (Blk.new w [I 10, I who, I nn, dv, kv] 39)
  have HW1 := hide ((G.refl w).alloc (.cells #[I 10, I who, I nn, dv, kv] 39))
  have hsI : (s : Int) < 2 := by omega
  have hsw : IntKind.i64.wrap (s : Int) = s := by rw [IntKind.wrap_i64]; omega
  have HRD := hide (fun k W (hW : SlP W FP pv mo) => oP_read FP mo pv k W hBf hW)
  have HRR := hide (fun k W (hW : SlR W FR rv mo) => uR_read FR mo rv k W hBf hW)
  have HIM := hide (fun W (hW : SlP W FP pv mo) => oP_image FP mo pv W hW)
  have HRM := hide (fun W (hW : SlR W FR rv mo) => uR_image FR mo rv W hW)
  have HRL := hide (rd_len hT.a.sp)
  have HIL := hide (im_len hT.a.sp)
  clear h hT hD hBf
  have hp0 : w.cell? ⟨t, s, none⟩ = some pv := by rw [HS0.out.bt.cell, HS0.out.cp]
  have hr0 : w.cell? ⟨t, 2 + s, none⟩ = some rv := by rw [HS0.out.bt.cell, HS0.out.cr]
  have hz0 : t < w.heap.size := HS0.out.bt.lt
  go_enter Try.func18, Try.ntmps18
  go_wp2_with fail
  generalize w.alloc (.cells #[I 10, I who, I nn, dv, kv] 39) = w1 at HO1 HW1 ⊢
  have HS1 := hide (HS0.out.G HW1.out)
  have HH1 := hide (HS1.out.hd HO1.out)
  have HG0 := hide (G.refl w1)
  refine (HIM.out _ (HS1.out.sp.G HG0.out)).mono ?_
  rintro e' v1 ⟨x1, rfl, hb, hx, hf⟩
  have HG1 := hide (HG0.out.trans hb)
  have HM1 := hide hb
  have HX1 := hide hx
  have HF1 := hide hf
  clear hf
  clear hb hx hp0 hr0
  go_wp2_with fail
  refine wp_region_noPanic ?_
  refine wp_region_held_drew (S := (fun W => Hd W t s w.heap.size pv rv [I 10, I who, I nn, dv, kv])) (by kernel_rfl) (HH1.out.G (HG1.out.trans (G.drew (G.refl _))) (by simp)) (fun hHeld => ?_)
  refine wpAnyH_take (i := 0) (v := ?_) rfl (by kernel_rfl) (by kernel_rfl) (by kernel_rfl) (fun _ _ _ h => h) (Or.inl ⟨by rfl, ?_⟩) hHeld ?_
  rotate_left 1
  · (intro w hSw; (try dsimp only at hSw); go_simp; try with_reducible rfl)
  try simp only [Act.put, List.getElem_toArray, List.getElem_cons_zero, List.setIfInBounds_toArray, List.set_cons_zero, List.set_cons_succ]
  refine wpAnyH_take (i := 1) (v := ?_) rfl (by kernel_rfl) (by kernel_rfl) (by kernel_rfl) (fun _ _ _ h => h) (Or.inl ⟨by rfl, ?_⟩) hHeld ?_
  rotate_left 1
  · (intro w hSw; (try dsimp only at hSw); go_simp; try with_reducible rfl)
  try simp only [Act.put, List.getElem_toArray, List.getElem_cons_zero, List.getElem_cons_succ, List.setIfInBounds_toArray, List.set_cons_zero, List.set_cons_succ]
  refine wpAnyH_take (i := 2) (v := ?_) rfl (by kernel_rfl) (by kernel_rfl) (by kernel_rfl) (fun _ _ _ h => h) (Or.inl ⟨by rfl, ?_⟩) hHeld ?_
  rotate_left 1
  · (intro w hSw; (try dsimp only at hSw); go_simp; try with_reducible rfl)
  try simp only [Act.put, List.getElem_toArray, List.getElem_cons_zero, List.getElem_cons_succ, List.setIfInBounds_toArray, List.set_cons_zero, List.set_cons_succ]
  refine wpAnyH_take (i := 3) (v := ?_) rfl (by kernel_rfl) (by kernel_rfl) (by kernel_rfl) (fun _ _ _ h => h) (Or.inl ⟨by rfl, ?_⟩) hHeld ?_
  rotate_left 1
  · (intro w hSw; (try dsimp only at hSw); go_simp; try with_reducible rfl)
  try simp only [Act.put, List.getElem_toArray, List.getElem_cons_zero, List.getElem_cons_succ, List.setIfInBounds_toArray, List.set_cons_zero, List.set_cons_succ]
  refine wpAnyH_take (i := 4) (v := ?_) rfl (by kernel_rfl) (by kernel_rfl) (by kernel_rfl) (fun _ _ _ h => h) (Or.inl ⟨by rfl, ?_⟩) hHeld ?_
  rotate_left 1
  · (intro w hSw; (try dsimp only at hSw); go_simp; try with_reducible rfl)
  try simp only [Act.put, List.getElem_toArray, List.getElem_cons_zero, List.getElem_cons_succ, List.setIfInBounds_toArray, List.set_cons_zero, List.set_cons_succ]
  refine wpAnyH_take (i := 5) (v := ?_) rfl (by kernel_rfl) (by kernel_rfl) (by kernel_rfl) (fun _ _ _ h => h) (Or.inl ⟨by rfl, ?_⟩) hHeld ?_
  rotate_left 1
  · (intro w hSw; obtain ⟨q1, q2, q3⟩ := hSw; go_simp; try with_reducible rfl)
  try simp only [Act.put, List.getElem_toArray, List.getElem_cons_zero, List.getElem_cons_succ, List.setIfInBounds_toArray, List.set_cons_zero, List.set_cons_succ]
  refine wpAnyH_take (i := 6) (v := ?_) rfl (by kernel_rfl) (by kernel_rfl) (by kernel_rfl) (fun _ _ _ h => h) (Or.inl ⟨by rfl, ?_⟩) hHeld ?_
  rotate_left 1
  · (intro w hSw; (try dsimp only at hSw); go_simp; try with_reducible rfl)
  try simp only [Act.put, List.getElem_toArray, List.getElem_cons_zero, List.getElem_cons_succ, List.setIfInBounds_toArray, List.set_cons_zero, List.set_cons_succ]
  refine wpAnyH_take (i := 7) (v := ?_) rfl (by kernel_rfl) (by kernel_rfl) (by kernel_rfl) (fun _ _ _ h => h) (Or.inl ⟨by rfl, ?_⟩) hHeld ?_
  rotate_left 1
  · (intro w hSw; obtain ⟨q1, q2, q3⟩ := hSw; go_simp; try with_reducible rfl)
  try simp only [Act.put, List.getElem_toArray, List.getElem_cons_zero, List.getElem_cons_succ, List.setIfInBounds_toArray, List.set_cons_zero, List.set_cons_succ]
  refine wpAnyH_ready (rs := [8]) (by kernel_rfl) (by simp) (AllReadyH.cons rfl (fun K hK => ?_) AllReadyH.nil)
  clear hHeld
  go_simp
  with_reducible refine (HRD.out _ _ ?_).mono ?_
  exact HS1.out.sp.G (HG1.out.trans (G.drew (G.refl _)))
  rintro e' v2 ⟨x2, rfl, hb, hx, hf⟩
  have HG2 := hide (HG1.out.trans ((G.drew (G.refl _)).trans hb))
  have HM2 := hide ((G.drew (G.refl _)).trans hb)
  have HX2 := hide hx
  have HF2 := hide hf
  clear hf
  clear hb hx
  go_wp2_with fail
  refine hK.out _ _ (HH1.out.G HG2.out (by simp)) (fun hHeld => ?_)
  clear hK K
  try simp only [Act.put, List.getElem_toArray, List.getElem_cons_zero, List.getElem_cons_succ, List.setIfInBounds_toArray, List.set_cons_zero, List.set_cons_succ]
  refine wpAnyH_take (i := 9) (v := ?_) rfl (by kernel_rfl) (by kernel_rfl) (by kernel_rfl) (fun _ _ _ h => h) (Or.inl ⟨by rfl, ?_⟩) hHeld ?_
  rotate_left 1
  · (intro w hSw; (try dsimp only at hSw); go_simp; try with_reducible rfl)
  try simp only [Act.put, List.getElem_toArray, List.getElem_cons_zero, List.getElem_cons_succ, List.setIfInBounds_toArray, List.set_cons_zero, List.set_cons_succ]
  refine wpAnyH_take (i := 10) (v := ?_) rfl (by kernel_rfl) (by kernel_rfl) (by kernel_rfl) (fun _ _ _ h => h) (Or.inl ⟨by rfl, ?_⟩) hHeld ?_
  rotate_left 1
  · (intro w hSw; (try dsimp only at hSw); go_simp; try with_reducible rfl)
  try simp only [Act.put, List.getElem_toArray, List.getElem_cons_zero, List.getElem_cons_succ, List.setIfInBounds_toArray, List.set_cons_zero, List.set_cons_succ]
  refine wpAnyH_take (i := 11) (v := ?_) rfl (by kernel_rfl) (by kernel_rfl) (by kernel_rfl) (fun _ _ _ h => h) (Or.inl ⟨by rfl, ?_⟩) hHeld ?_
  rotate_left 1
  · (intro w hSw; (try dsimp only at hSw); go_simp; try with_reducible rfl)
  try simp only [Act.put, List.getElem_toArray, List.getElem_cons_zero, List.getElem_cons_succ, List.setIfInBounds_toArray, List.set_cons_zero, List.set_cons_succ]
  refine wpAnyH_take (i := 12) (v := ?_) rfl (by kernel_rfl) (by kernel_rfl) (by kernel_rfl) (fun _ _ _ h => h) (Or.inl ⟨by rfl, ?_⟩) hHeld ?_
  rotate_left 1
  · (intro w hSw; (try dsimp only at hSw); go_simp; try with_reducible rfl)
  try simp only [Act.put, List.getElem_toArray, List.getElem_cons_zero, List.getElem_cons_succ, List.setIfInBounds_toArray, List.set_cons_zero, List.set_cons_succ]
  refine wpAnyH_take (i := 13) (v := ?_) rfl (by kernel_rfl) (by kernel_rfl) (by kernel_rfl) (fun _ _ _ h => h) (Or.inl ⟨by rfl, ?_⟩) hHeld ?_
  rotate_left 1
  · (intro w hSw; (try dsimp only at hSw); go_simp; try with_reducible rfl)
  try simp only [Act.put, List.getElem_toArray, List.getElem_cons_zero, List.getElem_cons_succ, List.setIfInBounds_toArray, List.set_cons_zero, List.set_cons_succ]
  refine wpAnyH_done (by kernel_rfl) ?_ _
  refine NoPanic.normal ?_
  obtain ⟨hp0, hr0, _⟩ := HH1.out.G HG2.out (by simp)
  go_wp2_with fail
  refine (HIM.out _ (HS1.out.sp.G HG2.out)).mono ?_
  rintro e' v3 ⟨x3, rfl, hb, hx, hf⟩
  have HG3 := hide (HG2.out.trans hb)
  have HM3 := hide hb
  have HX3 := hide hx
  have HF3 := hide hf
  clear hf
  clear hb hx hp0 hr0
  obtain ⟨hp0, hr0, _⟩ := HH1.out.G HG3.out (by simp)
  go_wp2_with fail
  refine (HRM.out _ (HS1.out.sr.G HG3.out)).mono ?_
  rintro e' v4 ⟨x4, rfl, hb, hx⟩
  have HG4 := hide (HG3.out.trans hb)
  have HM4 := hide hb
  have HX4 := hide hx
  clear hb hx hp0 hr0
  go_wp2_with fail
  refine wp_region_noPanic ?_
  refine wp_region_held_drew (S := (fun W => Hd W t s w.heap.size pv rv [I 10, I who, I nn, dv, kv])) (by kernel_rfl) (HH1.out.G (HG4.out.trans (G.drew (G.refl _))) (by simp)) (fun hHeld => ?_)
  refine wpAnyH_take (i := 0) (v := ?_) rfl (by kernel_rfl) (by kernel_rfl) (by kernel_rfl) (fun _ _ _ h => h) (Or.inl ⟨by rfl, ?_⟩) hHeld ?_
  rotate_left 1
  · (intro w hSw; (try dsimp only at hSw); go_simp; try with_reducible rfl)
  try simp only [Act.put, List.getElem_toArray, List.getElem_cons_zero, List.setIfInBounds_toArray, List.set_cons_zero, List.set_cons_succ]
  refine wpAnyH_take (i := 1) (v := ?_) rfl (by kernel_rfl) (by kernel_rfl) (by kernel_rfl) (fun _ _ _ h => h) (Or.inl ⟨by rfl, ?_⟩) hHeld ?_
  rotate_left 1
  · (intro w hSw; (try dsimp only at hSw); go_simp; try with_reducible rfl)
  try simp only [Act.put, List.getElem_toArray, List.getElem_cons_zero, List.getElem_cons_succ, List.setIfInBounds_toArray, List.set_cons_zero, List.set_cons_succ]
  refine wpAnyH_take (i := 2) (v := ?_) rfl (by kernel_rfl) (by kernel_rfl) (by kernel_rfl) (fun _ _ _ h => h) (Or.inl ⟨by rfl, ?_⟩) hHeld ?_
  rotate_left 1
  · (intro w hSw; (try dsimp only at hSw); go_simp; try with_reducible rfl)
  try simp only [Act.put, List.getElem_toArray, List.getElem_cons_zero, List.getElem_cons_succ, List.setIfInBounds_toArray, List.set_cons_zero, List.set_cons_succ]
  refine wpAnyH_take (i := 3) (v := ?_) rfl (by kernel_rfl) (by kernel_rfl) (by kernel_rfl) (fun _ _ _ h => h) (Or.inl ⟨by rfl, ?_⟩) hHeld ?_
  rotate_left 1
  · (intro w hSw; (try dsimp only at hSw); go_simp; try with_reducible rfl)
  try simp only [Act.put, List.getElem_toArray, List.getElem_cons_zero, List.getElem_cons_succ, List.setIfInBounds_toArray, List.set_cons_zero, List.set_cons_succ]
  refine wpAnyH_take (i := 4) (v := ?_) rfl (by kernel_rfl) (by kernel_rfl) (by kernel_rfl) (fun _ _ _ h => h) (Or.inl ⟨by rfl, ?_⟩) hHeld ?_
  rotate_left 1
  · (intro w hSw; (try dsimp only at hSw); go_simp; try with_reducible rfl)
  try simp only [Act.put, List.getElem_toArray, List.getElem_cons_zero, List.getElem_cons_succ, List.setIfInBounds_toArray, List.set_cons_zero, List.set_cons_succ]
  refine wpAnyH_take (i := 5) (v := ?_) rfl (by kernel_rfl) (by kernel_rfl) (by kernel_rfl) (fun _ _ _ h => h) (Or.inl ⟨by rfl, ?_⟩) hHeld ?_
  rotate_left 1
  · (intro w hSw; obtain ⟨q1, q2, q3⟩ := hSw; go_simp; try with_reducible rfl)
  try simp only [Act.put, List.getElem_toArray, List.getElem_cons_zero, List.getElem_cons_succ, List.setIfInBounds_toArray, List.set_cons_zero, List.set_cons_succ]
  refine wpAnyH_take (i := 6) (v := ?_) rfl (by kernel_rfl) (by kernel_rfl) (by kernel_rfl) (fun _ _ _ h => h) (Or.inl ⟨by rfl, ?_⟩) hHeld ?_
  rotate_left 1
  · (intro w hSw; (try dsimp only at hSw); go_simp; try with_reducible rfl)
  try simp only [Act.put, List.getElem_toArray, List.getElem_cons_zero, List.getElem_cons_succ, List.setIfInBounds_toArray, List.set_cons_zero, List.set_cons_succ]
  refine wpAnyH_take (i := 7) (v := ?_) rfl (by kernel_rfl) (by kernel_rfl) (by kernel_rfl) (fun _ _ _ h => h) (Or.inl ⟨by rfl, ?_⟩) hHeld ?_
  rotate_left 1
  · (intro w hSw; obtain ⟨q1, q2, q3⟩ := hSw; go_simp; try with_reducible rfl)
  try simp only [Act.put, List.getElem_toArray, List.getElem_cons_zero, List.getElem_cons_succ, List.setIfInBounds_toArray, List.set_cons_zero, List.set_cons_succ]
  refine wpAnyH_ready (rs := [8]) (by kernel_rfl) (by simp) (AllReadyH.cons rfl (fun K hK => ?_) AllReadyH.nil)
  clear hHeld
  go_simp
  with_reducible refine (HRR.out _ _ ?_).mono ?_
  exact HS1.out.sr.G (HG4.out.trans (G.drew (G.refl _)))
  rintro e' v5 ⟨x5, rfl, hb, hx⟩
  have HG5 := hide (HG4.out.trans ((G.drew (G.refl _)).trans hb))
  have HM5 := hide ((G.drew (G.refl _)).trans hb)
  have HX5 := hide hx
  clear hb hx
  go_wp2_with fail
  refine hK.out _ _ (HH1.out.G HG5.out (by simp)) (fun hHeld => ?_)
  clear hK K
  try simp only [Act.put, List.getElem_toArray, List.getElem_cons_zero, List.getElem_cons_succ, List.setIfInBounds_toArray, List.set_cons_zero, List.set_cons_succ]
  refine wpAnyH_take (i := 9) (v := ?_) rfl (by kernel_rfl) (by kernel_rfl) (by kernel_rfl) (fun _ _ _ h => h) (Or.inl ⟨by rfl, ?_⟩) hHeld ?_
  rotate_left 1
  · (intro w hSw; (try dsimp only at hSw); go_simp; try with_reducible rfl)
  try simp only [Act.put, List.getElem_toArray, List.getElem_cons_zero, List.getElem_cons_succ, List.setIfInBounds_toArray, List.set_cons_zero, List.set_cons_succ]
  refine wpAnyH_take (i := 10) (v := ?_) rfl (by kernel_rfl) (by kernel_rfl) (by kernel_rfl) (fun _ _ _ h => h) (Or.inl ⟨by rfl, ?_⟩) hHeld ?_
  rotate_left 1
  · (intro w hSw; (try dsimp only at hSw); go_simp; try with_reducible rfl)
  try simp only [Act.put, List.getElem_toArray, List.getElem_cons_zero, List.getElem_cons_succ, List.setIfInBounds_toArray, List.set_cons_zero, List.set_cons_succ]
  refine wpAnyH_take (i := 11) (v := ?_) rfl (by kernel_rfl) (by kernel_rfl) (by kernel_rfl) (fun _ _ _ h => h) (Or.inl ⟨by rfl, ?_⟩) hHeld ?_
  rotate_left 1
  · (intro w hSw; (try dsimp only at hSw); go_simp; try with_reducible rfl)
  try simp only [Act.put, List.getElem_toArray, List.getElem_cons_zero, List.getElem_cons_succ, List.setIfInBounds_toArray, List.set_cons_zero, List.set_cons_succ]
  refine wpAnyH_take (i := 12) (v := ?_) rfl (by kernel_rfl) (by kernel_rfl) (by kernel_rfl) (fun _ _ _ h => h) (Or.inl ⟨by rfl, ?_⟩) hHeld ?_
  rotate_left 1
  · (intro w hSw; (try dsimp only at hSw); go_simp; try with_reducible rfl)
  try simp only [Act.put, List.getElem_toArray, List.getElem_cons_zero, List.getElem_cons_succ, List.setIfInBounds_toArray, List.set_cons_zero, List.set_cons_succ]
  refine wpAnyH_take (i := 13) (v := ?_) rfl (by kernel_rfl) (by kernel_rfl) (by kernel_rfl) (fun _ _ _ h => h) (Or.inl ⟨by rfl, ?_⟩) hHeld ?_
  rotate_left 1
  · (intro w hSw; (try dsimp only at hSw); go_simp; try with_reducible rfl)
  try simp only [Act.put, List.getElem_toArray, List.getElem_cons_zero, List.getElem_cons_succ, List.setIfInBounds_toArray, List.set_cons_zero, List.set_cons_succ]
  refine wpAnyH_done (by kernel_rfl) ?_ _
  refine NoPanic.normal ?_
  go_wp2_with fail
  refine (same_true _ _ (imB mo) (Nat.le_trans HIL.out (by decide)) _ (HX1.out.G (((HM2.out.trans HM3.out).trans HM4.out).trans HM5.out)) (HX4.out.G HM5.out)).mono ?_
  rintro e' v6 ⟨rfl, hg⟩
  have HM6 := hide hg
  have HG6 := hide (HG5.out.trans hg)
  clear hg
  go_wp2_with fail
  refine (same_true _ _ (rdB mo nn) (Nat.le_trans (HRL.out _) (by decide)) _ (HX2.out.G (((HM3.out.trans HM4.out).trans HM5.out).trans HM6.out)) (HX5.out.G HM6.out)).mono ?_
  rintro e' v7 ⟨rfl, hg⟩
  have HM7 := hide hg
  have HG7 := hide (HG6.out.trans hg)
  clear hg
  go_wp2_with fail
  refine (same_true _ _ (imB mo) (Nat.le_trans HIL.out (by decide)) _ (HX3.out.G (((HM4.out.trans HM5.out).trans HM6.out).trans HM7.out)) (HX4.out.G ((HM5.out.trans HM6.out).trans HM7.out))).mono ?_
  rintro e' v8 ⟨rfl, hg⟩
  have HM8 := hide hg
  have HG8 := hide (HG7.out.trans hg)
  clear hg
  obtain ⟨p1, c1, e1, _⟩ := HX1.out
  obtain ⟨p2, c2, e2, _⟩ := HX2.out
  obtain ⟨p3, c3, e3, _⟩ := HX3.out
  subst e1 e2 e3
  go_wp2_with fail
  have HGA := hide ((HW1.out.trans HG8.out).alloc (.cells #[(.slice p1 (imB mo).length c1), (.slice p2 (rdB mo nn).length c2), (.slice p3 (imB mo).length c3)] 28))
  have HML := hide ((G.refl v8).alloc (.cells #[(.slice p1 (imB mo).length c1), (.slice p2 (rdB mo nn).length c2), (.slice p3 (imB mo).length c3)] 28))
  have HNA := hide (Blk.new v8 [(.slice p1 (imB mo).length c1), (.slice p2 (rdB mo nn).length c2), (.slice p3 (imB mo).length c3)] 28)
  generalize v8.alloc (.cells #[(.slice p1 (imB mo).length c1), (.slice p2 (rdB mo nn).length c2), (.slice p3 (imB mo).length c3)] 28) = wa at HGA HML HNA ⊢
  have HSL : Hid (w.heap.size ≤ v8.heap.size) := (HW1.out.trans HG8.out).size
  have HNZ := hide (nz3 (K := K) HF1.out HF2.out HF3.out ((((((((HM2.out.trans HM3.out).trans HM4.out).trans HM5.out).trans HM6.out).trans HM7.out).trans HM8.out)).trans HML.out) (((((((HM3.out.trans HM4.out).trans HM5.out).trans HM6.out).trans HM7.out).trans HM8.out)).trans HML.out) ((((((HM4.out.trans HM5.out).trans HM6.out).trans HM7.out).trans HM8.out)).trans HML.out) ((G.refl _)).size ((G.refl _)).size HM1.out.size HM2.out.size (fun j hj => Nat.lt_of_lt_of_le (HI.out.k j (.inl hj)).2 (HW1.out.trans HG0.out).size))
  have HZG : Hid (∀ j, zB 3 (z3 (.slice p1 (imB mo).length c1) (.slice p2 (rdB mo nn).length c2) (.slice p3 (imB mo).length c3)) j → w.heap.size ≤ j) := fun j hj => Nat.le_trans (HW1.out.trans HG0.out).size (HNZ.out.2 j hj)
  refine (own_add 3 v8.heap.size 0 3 (some ⟨v8.heap.size, 0, none⟩) (z3 (.slice p1 (imB mo).length c1) (.slice p2 (rdB mo nn).length c2) (.slice p3 (imB mo).length c3)) _ hn2 wa (HI.out.G HGA.out) HNZ.out.1 (fun j hj => ?_) ?_ (fun i hi => ?_) (fun _ => ⟨rfl, ⟨_, _, HNA.out.h⟩, fun e => ?_⟩)).mono ?_
  · have h1 := HZG.out j hj
    have h2 := HZW.out
    exact ⟨by omega, fun e => by have := (HI.out.d j e).2.1; omega⟩
  · have := HZW.out
    have := HGA.out.size
    omega
  · rw [HNA.out.cell]
    rcases i with _ | _ | _ | i
    · rfl
    · rfl
    · rfl
    · omega
  · have := (HI.out.k _ (.inr e)).2
    have := HSL.out
    omega
  rintro e wz ⟨rfl, K', R', X', Y', hi7, hc7, _⟩
  have HI7 := hide hi7
  have HCZ : Hid (Chg (fun j => z ≤ j) w wz) := HGA.out.chg.trans (hc7.mono (fun j hj => by
    rcases hj with hj | hj
    · exact (HI.out.k j (.inr hj)).1
    · have := HZG.out j hj
      have := HZW.out
      omega))
  clear hi7 hc7
  go_wp2
  go_ret
  exact ⟨rfl, n + 3, m, _, K', R', X', Y', U, V, HI7.out.up, by omega, by omega, HCZ.out⟩
end Go.Proofs.Ytbjbphhcmmaaoaa
