/- trellislaw1.encoded. -/
import Derived.Test.YtdiikofgilplkaaDoorLst
import Derived.Test.YtdiikofgilplkaaDoorDec6
import Derived.Test.YtdiikofgilplkaaDoorOkK
import Derived.Laws.AppendOwnNone
namespace Go.Proofs.YtdiikofgilplkaaDoor
open Go.RowKit Go.Lib Go.Shelf
attribute [local go_sem] eqV neqV

theorem bs_list {w : World} {x : Value} (h : BsOk w x) : ∃ (p : Option Addr) (cap : Nat) (bs : List Nat), x = .slice p bs.length cap ∧ RowB w x bs ∧ (∀ d ∈ bs, d < 256) ∧ bs.length ≤ 140737488351232 ∧ bs.length ≤ cap ∧
    ((p = none ∧ bs = [] ∧ cap = 0) ∨ ∃ ad, p = some ad ∧ ∀ j u, (bs.map bv)[j]? = some u → w.cell? (ad.add j) = some u) := by
  rcases h with rfl | ⟨ad, len, cap, f, rfl, hlc, hb, hf⟩
  · exact ⟨none, 0, [], rfl, row_nil w, by simp, by simp, Nat.le_refl _, .inl ⟨rfl, rfl, rfl⟩⟩
  · have hl : ((List.range len).map fun i => (f i).toNat).length = len := by simp
    have hat : ∀ i d, ((List.range len).map fun i => (f i).toNat)[i]? = some d → i < len ∧ d = (f i).toNat := fun i d hi => by
      obtain ⟨h1, h2⟩ := List.getElem?_eq_some_iff.1 hi
      rw [hl] at h1
      exact ⟨h1, by simpa using h2.symm⟩
    have hc : ∀ i d, ((List.range len).map fun i => (f i).toNat)[i]? = some d → w.cell? (ad.add i) = some (bv d) := fun i d hi => by
      obtain ⟨h1, rfl⟩ := hat i d hi
      obtain ⟨h2, h3, h4⟩ := hf i (by omega)
      rw [h2]
      show some (Value.int .u8 (f i)) = some (Value.int .u8 _)
      congr 2; omega
    refine ⟨some ad, cap, _, by rw [hl], ⟨some ad, cap, by rw [hl], by rw [hl]; exact hlc, fun i d hi => ?_⟩, fun d hd => ?_, by rw [hl]; unfold reachBytes at hb; omega, by rw [hl]; exact hlc, .inr ⟨ad, rfl, fun j u hj => ?_⟩⟩
    · obtain ⟨h1, h2⟩ := hat i d hi
      have hsp : ad.spot = none := by
        have := World.cell?_spot (hf 0 (by omega)).1
        simpa [Addr.add] using this
      have := hc i d hi
      obtain ⟨b, o, sp⟩ := ad
      simp only at hsp
      subst hsp
      refine ⟨b, o, rfl, ?_⟩
      rwa [Go.WideShapes.add_plain] at this
    · obtain ⟨i, hi, rfl⟩ := List.mem_map.1 hd
      obtain ⟨_, h3, h4⟩ := hf i (by have := List.mem_range.1 hi; omega)
      omega
    · rw [List.getElem?_map] at hj
      obtain ⟨d, hd, rfl⟩ := Option.map_eq_some_iff.1 hj
      exact hc j d hd
theorem info_bs : (Tryd.prog.info? 23).map (fun i => (i.zero, i.size, i.bytes)) = some (some (.slice none 0 0), 1, 24) := by kernel_rfl
def Qd.enc (q : Qd) : List Nat := encV q.1 q.2.1 q.2.2.1 q.2.2.2
theorem own_apart {W : World} {b1 b2 e1 e2 s1 s2 n1 n2 : Nat} {v1 v2 : Value} {xs1 xs2 : List Value} (h1 : W.ownsRow b1 e1 s1 v1 n1 xs1) (h2 : W.ownsRow b2 e2 s2 v2 n2 xs2) (hne : e1 ≠ e2) : v1.ownBlock = none ∨ v1.ownBlock ≠ v2.ownBlock := by
  rcases h1.2 with ⟨rfl, _⟩ | ⟨g, cap, cur, rfl, _, hg, _⟩
  · exact .inl rfl
  · right
    rcases h2.2 with ⟨rfl, _⟩ | ⟨g', cap', cur', rfl, _, hg', _⟩
    · simp [Value.ownBlock]
    · intro he
      simp [Value.ownBlock] at he
      subst he
      rw [hg] at hg'
      simp at hg'
      exact hne hg'.2
theorem own_row {W : World} {b : Nat} {x : Value} {xs : List Nat} (h : W.ownsRow b 5 1 x xs.length (xs.map bv)) : RowB W x xs := by
  rcases h.2 with ⟨rfl, hn⟩ | ⟨g, cap, cur, rfl, _, hh, hc, _⟩
  · have := List.eq_nil_of_length_eq_zero hn
    subst this
    exact ⟨none, 0, rfl, by simp, fun i d hi => by simp at hi⟩
  · refine ⟨_, _, rfl, hc, fun i d hi => ⟨g, 0, rfl, ?_⟩⟩
    have := h.cells (g := g) rfl i (bv d) (by rw [List.getElem?_map, hi]; rfl)
    rw [show (⟨g, 0, none⟩ : Addr).add i = ⟨g, 0 + i, none⟩ by unfold Addr.add; split <;> simp_all] at this
    exact this
theorem encV_pos (k a b : Int) (s : ByteArray) : 0 < (encV k a b s).length := by
  unfold encV
  repeat' split
  all_goals (simp only [List.length_append, List.length_cons, List.length_nil]; omega)
theorem nats_len' (s : ByteArray) : (nats s).length = s.size := by simp [nats]
theorem enc_len (k a b : Int) (s : ByteArray) (h : okV k a b s = true) (ha : R64 a) (hb : R64 b) : (encV k a b s).length ≤ 4096 := by
  have h1 := encW_len a ha.1 ha.2
  have h2 := encW_len b hb.1 hb.2
  rw [encV_kinds]
  by_cases c4 : k = 4
  · subst c4
    have h3 := (ok_4 h).2.2.1
    have : ∀ l : List Nat, (encS l).length ≤ 2 * l.length := fun l => by
      induction l with
      | nil => simp [encS]
      | cons c l ih =>
        rw [encS_cons, List.length_append, List.length_cons]
        split <;> simp <;> omega
    have h4 := this (nats s)
    rw [nats_len'] at h4
    simp; omega
  · by_cases c0 : k = 0
    · rw [if_pos c0]; simp
    rw [if_neg c0]
    by_cases c1 : k = 1
    · rw [if_pos c1]; simp
    rw [if_neg c1]
    by_cases c2 : k = 2
    · rw [if_pos c2]; simp; omega
    rw [if_neg c2]
    by_cases c3 : k = 3
    · rw [if_pos c3]; simp; omega
    rw [if_neg c3, if_neg c4]
    by_cases c5 : k = 5
    · rw [if_pos c5]; simp; omega
    · rw [if_neg c5]; simp; omega
/-- Read back: the value. -/
theorem dec_back {bs rest : List Nat} {k a b k1 a1 b1 n c : Int} {s s1 : ByteArray} (ok : okV k a b s = true) (ha : R64 a) (hb : R64 b) (h : DAns bs k1 a1 b1 s1 n c) (he : bs = encV k a b s ++ rest) : k1 = k ∧ a1 = a ∧ b1 = b ∧ s1 = s ∧ n = ((encV k a b s).length : Int) ∧ c = 0 := by
  rcases h with ⟨_, _, _, _, hg, hn, hc⟩ | ⟨hno, _⟩
  · obtain ⟨rfl, rfl, rfl, rfl⟩ := hg k a b s rest ok ha hb he
    exact ⟨rfl, rfl, rfl, rfl, hn, hc⟩
  · exact absurd he (hno k a b s rest ok ha hb)
/-- What encoded answers: the bytes of each, in lists of their own. -/
def EnA (D : List Qd) (w : World) (e : Ending) (w' : World) : Prop := ∃ (x : Value) (X : List Value), e = .returned (.tuple #[x, .bool true]) ∧ G w w' ∧ w'.ownsRow w.heap.size 23 1 x X.length X ∧ X.length = D.length ∧ ∀ (j : Nat) (q : Qd) (u : Value), D[j]? = some q → X[j]? = some u → w'.ownsRow w.heap.size 5 1 u q.enc.length (q.enc.map bv)
set_option maxRecDepth 100000 in
set_option maxHeartbeats 8000000 in
theorem encoded_nil (y : Value) (w : World) : Calls Tryd.prog 6 #[.slice none 0 0, y] w (EnA [] w) := by
  have HO : Hid (w.ownsRow w.heap.size 23 1 (.slice none 0 0) 0 []) := World.ownsRow_nil _ _ _ _
  go_enter Tryd.func6, Tryd.ntmps6
  go_wp2
  go_loopw [6, 7] (fun x i W => x = .slice none 0 0 ∧ i = .int .i64 0 ∧ W = w) (fun _ _ _ => 0)
  case atStart => exact ⟨rfl, rfl, rfl⟩
  case round =>
    obtain ⟨rfl, rfl, rfl⟩ := hrel
    go_wp2
    go_ret2
    exact ⟨_, [], rfl, G.refl _, HO.out, rfl, fun j q u hq => by simp at hq⟩
set_option maxRecDepth 100000 in
set_option maxHeartbeats 8000000 in
theorem encoded_some (b off cap : Nat) (D : List Qd) (ty : Value) (ts : List Nat) (p : Option Addr) (tc : Nat) (w : World) (hT : Tabs w) (hV : VRow w (.slice (some ⟨b, off, none⟩) D.length cap) D) (hq : ∀ q ∈ D, QOk q ∧ q.ok = true) (h12 : D.length ≤ 12)
    (hty : ty = .slice p ts.length tc) (htb : ∀ d ∈ ts, d < 256) (htl : ts.length ≤ 140737488351232) (htc : (p = none ∧ ts = [] ∧ tc = 0) ∨ ∃ ad, p = some ad ∧ ∀ W, G w W → ∀ j u, (ts.map bv)[j]? = some u → W.cell? (ad.add j) = some u) :
    Calls Tryd.prog 6 #[.slice (some ⟨b, off, none⟩) D.length cap, ty] w (EnA D w) := by
  obtain ⟨i0, hi, hz0, hz1, hz2⟩ := info_parts info_u8
  obtain ⟨i1, hi', hy0, hy1, hy2⟩ := info_parts info_bs
  have HV : Hid _ := hV
  have HQ : Hid _ := hq
  have HT : Hid _ := hT
  have HTC : Hid _ := htc
  have HTB : Hid _ := htb
  clear hV hq hT htc htb
  subst hty
  go_enter Tryd.func6, Tryd.ntmps6
  go_wp2
  go_loopw [6, 7] (fun x i W => ∃ (m : Nat) (X : List Value), m ≤ D.length ∧ i = .int .i64 m ∧ G w W ∧ W.ownsRow w.heap.size 23 1 x X.length X ∧ X.length = m ∧ (∃ (cp : Option Addr) (cc : Nat), x = .slice cp X.length cc) ∧ ∀ (j : Nat) (q : Qd) (u : Value), D[j]? = some q → X[j]? = some u → W.ownsRow w.heap.size 5 1 u q.enc.length (q.enc.map bv)) (fun _ i _ => D.length - (RowKit.intOf i).toNat)
  case atStart => exact ⟨0, [], by omega, rfl, G.refl _, World.ownsRow_nil _ _ _ _, rfl, ⟨none, 0, rfl⟩, fun j q u _ h => by simp at h⟩
  case round =>
    obtain ⟨m, X, hm, rfl, hG, hown, hXm, ⟨cp, cc, rfl⟩, hX⟩ := hrel
    have HG : Hid (G w wr) := hG
    have HO : Hid (wr.ownsRow w.heap.size 23 1 (.slice cp X.length cc) X.length X) := hown
    have HX : Hid _ := hX
    have HXm : Hid (X.length = m) := hXm
    have hXl : X.length ≤ 12 := by omega
    clear hG hown hX hXm
    by_cases hlt : m < D.length
    · obtain ⟨q, hq⟩ : ∃ q, D[m]? = some q := ⟨D[m], List.getElem?_eq_getElem hlt⟩
      have HC : Hid (∀ W, G w W → W.cell? ⟨b, off + m * 4, none⟩ = some (I q.1) ∧ W.cell? ⟨b, off + m * 4 + 1, none⟩ = some (I q.2.1) ∧ W.cell? ⟨b, off + m * 4 + 2, none⟩ = some (I q.2.2.1) ∧ W.cell? ⟨b, off + m * 4 + 3, none⟩ = some (.string q.2.2.2)) := fun W g => vrow_at (VRow.G HV.out g) hq
      obtain ⟨hqo, hqk⟩ := HQ.out q (List.mem_of_getElem? hq)
      have HQm : Hid (D[m]? = some q) := hq
      clear hq
      obtain ⟨k, a1, b1, s1⟩ := q
      have hok : okV k a1 b1 s1 = true := hqk
      have hra : R64 a1 := hqo.a
      have hrb : R64 b1 := hqo.b
      simp only at HC
      have HE : Hid (∀ w, Tabs w → Calls Tryd.prog 16 #[V k a1 b1 s1] w fun e w' => ∃ x', e = .returned (.tuple #[x', .int .i64 0]) ∧ Bw w w' x' (encV k a1 b1 s1)) := enc_yes k a1 b1 s1 hok _ (icode_any k a1 b1 s1 hok hra)
      have hpos := encV_pos k a1 b1 s1
      have hle := enc_len k a1 b1 s1 hok hra hrb
      have HB : Hid (∀ d ∈ encV k a1 b1 s1, d < 256) := enc_lt k a1 b1 s1 hok hra hrb
      have HD : Hid (∀ rest k2 a2 b2 s2 n2 c2, DAns (encV k a1 b1 s1 ++ rest) k2 a2 b2 s2 n2 c2 → k2 = k ∧ a2 = a1 ∧ b2 = b1 ∧ s2 = s1 ∧ n2 = ((encV k a1 b1 s1).length : Int) ∧ c2 = 0) := fun rest k2 a2 b2 s2 n2 c2 h => dec_back hok hra hrb h rfl
      have HQe : Hid (Qd.enc (k, a1, b1, s1) = encV k a1 b1 s1) := rfl
      clear hqo hqk hok hra hrb
      generalize encV k a1 b1 s1 = ys at HE hpos hle HB HD HQe
      obtain ⟨h0, h1, h2, h3⟩ := HC.out wr HG.out
      have hkI : (m : Int) < (D.length : Int) := by omega
      go_wp2_with fail
      refine (HE.out _ (Tabs.G HT.out HG.out)).mono ?_
      rintro e w1 ⟨x1, rfl, hB⟩
      clear h0 h1 h2 h3 HE
      rcases hB.at with ⟨rfl, hnil⟩ | ⟨g1, cap1, rfl, hg1, hg1', hcap1, hcell1⟩
      · rw [hnil] at hpos; simp at hpos
      have HG1 : Hid (G w w1) := HG.out.trans hB.g
      have HO1 : Hid (w1.ownsRow w.heap.size 23 1 (.slice cp X.length cc) X.length X) := own_GE HO.out hB.g
      have HX1 : Hid (∀ (j : Nat) (q : Qd) (u : Value), D[j]? = some q → X[j]? = some u → w1.ownsRow w.heap.size 5 1 u q.enc.length (q.enc.map bv)) := fun j q u h h' => own_GE (HX.out j q u h h') hB.g
      have HB1 : Hid (w1.ownsRow w.heap.size 5 1 (.slice (some ⟨g1, 0, none⟩) ys.length cap1) ys.length (ys.map bv)) := (hB.down HG.out).own
      clear hB hcell1 HG HO HX hg1 hg1'
      have hposI : (ys.length : Int) ≠ 0 := by omega
      have hposB : ((ys.length : Int) == 0) = false := beq_false_of_ne hposI
      go_wp2_with (at_builtin; refine wpList_append_own _ rfl _ _ 25 rfl w.heap.size 23 i1 (.slice none 0 0) 1 24 Tryd.underlying25 hi' hy0 hy1 hy2 rfl (by decide) _ _ _ rfl (World.ownsRow.alloc HO1.out _) ⟨w1.heap.size, 0, none⟩ 1 1 [.slice (some ⟨g1, 0, none⟩) ys.length cap1] rfl rfl ?c1 ?c2 ?c3 ?c4 ?c5 ?_)
      case c1 =>
        intro j u hj
        match j, hj with
        | 0, hj => simp at hj; subst hj; simp [Addr.add]
      case c2 =>
        intro u hu
        simp at hu
        subst hu; rfl
      case c3 => unfold maxLen; omega
      case c4 => omega
      case c5 => have := HG1.out.size; simp at this ⊢; omega
      intro x2 w2 hown2 hgrow2 _
      have HG2 : Hid (G w w2) := Below.grown (HG1.out.alloc _) hgrow2 (by have := HG1.out.size; simp at this ⊢; omega) (fun g hg => (World.ownsRow.lt HO1.out g hg).1)
      have HO2 : Hid (w2.ownsRow w.heap.size 23 1 x2 (X ++ [Value.slice (some ⟨g1, 0, none⟩) ys.length cap1]).length (X ++ [Value.slice (some ⟨g1, 0, none⟩) ys.length cap1])) := by
        unfold Hid
        rw [List.length_append]
        exact hown2
      have HB2 : Hid (w2.ownsRow w.heap.size 5 1 (.slice (some ⟨g1, 0, none⟩) ys.length cap1) ys.length (ys.map bv)) := (World.ownsRow.alloc HB1.out _).kept hgrow2 (own_apart HB1.out HO1.out (by decide))
      have HX2 : Hid (∀ (j : Nat) (q : Qd) (u : Value), D[j]? = some q → (X ++ [Value.slice (some ⟨g1, 0, none⟩) ys.length cap1])[j]? = some u → w2.ownsRow w.heap.size 5 1 u q.enc.length (q.enc.map bv)) := fun j q u h h' => by
        by_cases hj : j < X.length
        · rw [List.getElem?_append_left hj] at h'
          exact (World.ownsRow.alloc (HX1.out j q u h h') _).kept hgrow2 (own_apart (HX1.out j q u h h') HO1.out (by decide))
        · rw [List.getElem?_append_right (by omega)] at h'
          have hjm : j = X.length := by
            have := (List.getElem?_eq_some_iff.1 h').1
            simp at this; omega
          subst hjm
          simp at h'
          subst h'
          rw [HXm.out, HQm.out] at h
          cases h
          rw [HQe.out]; exact HB2.out
      clear hown2 hgrow2 HG1 HO1 HX1 HB1
      have hrow := own_row HB2.out
      have HR2 : Hid (∀ (j : Nat) (u : Value), (ys.map bv)[j]? = some u → w2.cell? ((⟨g1, 0, none⟩ : Addr).add j) = some u) := fun j u hj => HB2.out.cells (g := g1) rfl j u hj
      clear hrow
      go_wp2_with (at_builtin; refine wpList_append_own _ rfl _ _ 23 rfl w2.heap.size 5 i0 (.int .u8 0) 1 1 Tryd.underlying23 hi hz0 hz1 hz2 rfl (by decide) _ _ _ rfl (World.ownsRow_nil _ _ _ _) ⟨g1, 0, none⟩ ys.length cap1 (ys.map bv) rfl ?d0 ?d1 ?d2 ?d3 ?d4 ?d5 ?_)
      case d0 => rw [List.length_map]; omega
      case d1 => exact HR2.out
      case d2 =>
        intro u hu
        simp only [List.mem_map] at hu
        obtain ⟨d, _, rfl⟩ := hu; rfl
      case d3 => unfold maxLen; omega
      case d4 => omega
      case d5 => omega
      intro x3 w3 hown3 hgrow3 _
      have HG3 : Hid (G w2 w3) := Below.grown (G.refl w2) hgrow3 (Nat.le_refl _) (fun g hg => by simp [Value.ownBlock] at hg)
      have HO3 : Hid (w3.ownsRow w2.heap.size 5 1 x3 ys.length (ys.map bv)) := by
        unfold Hid
        simpa using hown3
      clear hown3 hgrow3 HR2
      rcases HTC.out with ⟨rfl, hts, rfl⟩ | ⟨ad, rfl, htcell⟩
      · subst hts
        clear HTC
        go_wp2_with (at_builtin; refine wpList_append_own_none rfl _ _ 23 rfl w2.heap.size 5 i0 1 Tryd.underlying23 hi _ ys.length (ys.map bv) rfl HO3.out rfl ?_)
        have HG4 := HG3
        have HO4 : Hid (w3.ownsRow w2.heap.size 5 1 x3 (ys ++ []).length ((ys ++ []).map bv)) := by rw [List.append_nil]; exact HO3.out
        clear HG3 HO3
        go_wp2_with fail
        refine (dec_any x3 (ys ++ []) w3 (Tabs.G HT.out (G.trans HG2.out HG4.out)) (own_row HO4.out) (fun d hd => by
          rcases List.mem_append.1 hd with h | h
          · exact HB.out d h
          · simp at h) (by rw [List.append_nil]; omega)).mono ?_
        rintro e w5 ⟨k2, a2, b2, s2, n2, c2, rfl, hans, hb5⟩
        obtain ⟨e1, e2, e3, e4, e5, e6⟩ := HD.out [] k2 a2 b2 s2 n2 c2 hans
        rw [e1, e2, e3, e4, e5, e6]
        have HG5 : Hid (G w2 w5) := G.trans HG4.out hb5
        clear hans e1 e2 e3 e4 e5 e6 hb5
        have hcs := HC.out (w5.alloc (.cells #[I k, I a1, I b1, .string s1] 30)) (G.trans HG2.out (G.alloc HG5.out _))
        have hbx : ∀ o, (w5.alloc (.cells #[I k, I a1, I b1, .string s1] 30)).cell? { block := w5.heap.size, off := o } = [I k, I a1, I b1, .string s1][o]? := fun o => by simp
        have HG6 : Hid (G w2 (w5.alloc (.cells #[I k, I a1, I b1, .string s1] 30))) := G.alloc HG5.out _
        go_wp2_with fail
        generalize w5.alloc (.cells #[I k, I a1, I b1, .string s1] 30) = w6 at hcs hbx HG6 ⊢
        obtain ⟨h0, h1, h2, h3⟩ := hcs
        go_quiet (fail)
        go_wp2
        refine ⟨?_, ?measure⟩
        (repeat apply Exists.intro)
        refine ⟨?rel, rfl⟩
        case rel => exact ⟨m + 1, _, by omega, by go_num, by repeat (first | exact G.trans HG2.out HG6.out | refine G.drewNE ?_ _ | refine G.drew ?_), own_GE HO2.out (by repeat (first | exact HG6.out | refine G.drewNE ?_ _ | refine G.drew ?_)), by rw [List.length_append, HXm.out]; rfl, by
          rcases HO2.out.2 with ⟨rfl, hn0⟩ | ⟨g, cap', cur, rfl, _⟩
          · exact ⟨none, 0, by rw [hn0]⟩
          · exact ⟨_, _, rfl⟩, fun j q u h h' => own_GE (HX2.out j q u h h') (by repeat (first | exact HG6.out | refine G.drewNE ?_ _ | refine G.drew ?_))⟩
        case measure => simp [RowKit.intOf]; omega
      · have HTD : Hid (∀ W, G w W → ∀ (j : Nat) (u : Value), (ts.map bv)[j]? = some u → W.cell? (ad.add j) = some u) := htcell
        clear HTC htcell
        go_wp2_with (at_builtin; refine wpList_append_own _ rfl _ _ 23 rfl w2.heap.size 5 i0 (.int .u8 0) 1 1 Tryd.underlying23 hi hz0 hz1 hz2 rfl (by decide) _ ys.length (ys.map bv) rfl HO3.out ad ts.length tc (ts.map bv) rfl ?d0 ?d1 ?d2 ?d3 ?d4 ?d5 ?_)
        case d0 => rw [List.length_map]; omega
        case d1 => exact HTD.out w3 (G.trans HG2.out HG3.out)
        case d2 =>
          intro u hu
          simp only [List.mem_map] at hu
          obtain ⟨d, _, rfl⟩ := hu; rfl
        case d3 => unfold maxLen; omega
        case d4 => omega
        case d5 => exact HG3.out.size
        intro x4 w4 hown4 hgrow4 _
        have HG4 : Hid (G w2 w4) := Below.grown HG3.out hgrow4 HG3.out.size (fun g hg => (World.ownsRow.lt HO3.out g hg).1)
        have HO4 : Hid (w4.ownsRow w2.heap.size 5 1 x4 (ys ++ ts).length ((ys ++ ts).map bv)) := by
          unfold Hid
          rw [List.length_append, List.map_append]
          exact hown4
        clear hown4 hgrow4 HG3 HO3
        go_wp2_with fail
        refine (dec_any x4 (ys ++ ts) w4 (Tabs.G HT.out (G.trans HG2.out HG4.out)) (own_row HO4.out) (fun d hd => by
          rcases List.mem_append.1 hd with h | h
          · exact HB.out d h
          · exact HTB.out d h) (by rw [List.length_append]; omega)).mono ?_
        rintro e w5 ⟨k2, a2, b2, s2, n2, c2, rfl, hans, hb5⟩
        obtain ⟨e1, e2, e3, e4, e5, e6⟩ := HD.out ts k2 a2 b2 s2 n2 c2 hans
        rw [e1, e2, e3, e4, e5, e6]
        have HG5 : Hid (G w2 w5) := G.trans HG4.out hb5
        clear hans e1 e2 e3 e4 e5 e6 hb5
        have hcs := HC.out (w5.alloc (.cells #[I k, I a1, I b1, .string s1] 30)) (G.trans HG2.out (G.alloc HG5.out _))
        have hbx : ∀ o, (w5.alloc (.cells #[I k, I a1, I b1, .string s1] 30)).cell? { block := w5.heap.size, off := o } = [I k, I a1, I b1, .string s1][o]? := fun o => by simp
        have HG6 : Hid (G w2 (w5.alloc (.cells #[I k, I a1, I b1, .string s1] 30))) := G.alloc HG5.out _
        go_wp2_with fail
        generalize w5.alloc (.cells #[I k, I a1, I b1, .string s1] 30) = w6 at hcs hbx HG6 ⊢
        obtain ⟨h0, h1, h2, h3⟩ := hcs
        go_quiet (fail)
        go_wp2
        go_roundw
        case rel => exact ⟨m + 1, _, by omega, by go_num, by repeat (first | exact G.trans HG2.out HG6.out | refine G.drewNE ?_ _ | refine G.drew ?_), own_GE HO2.out (by repeat (first | exact HG6.out | refine G.drewNE ?_ _ | refine G.drew ?_)), by rw [List.length_append, HXm.out]; rfl, by
          rcases HO2.out.2 with ⟨rfl, hn0⟩ | ⟨g, cap', cur, rfl, _⟩
          · exact ⟨none, 0, by rw [hn0]⟩
          · exact ⟨_, _, rfl⟩, fun j q u h h' => own_GE (HX2.out j q u h h') (by repeat (first | exact HG6.out | refine G.drewNE ?_ _ | refine G.drew ?_))⟩
        case measure => simp [RowKit.intOf]; omega
    · have hkI : ¬ (m : Int) < (D.length : Int) := by omega
      go_wp2
      go_ret2
      exact ⟨_, X, rfl, HG.out, HO.out, by have := HXm.out; omega, HX.out⟩
end Go.Proofs.YtdiikofgilplkaaDoor
