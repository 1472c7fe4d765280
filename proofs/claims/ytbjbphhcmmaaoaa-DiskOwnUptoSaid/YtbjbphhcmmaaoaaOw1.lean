/- The book: mark, what is known of its lists, kept. -/
import Derived.Test.YtbjbphhcmmaaoaaCr5
import Derived.Deep.QuietTactic
import Derived.BigQuiet
namespace Go.Proofs.Ytbjbphhcmmaaoaa
open Go.RowKit

def mkN (i : Nat) : Nat := (3 + 7 * i) % 256
theorem mkN_lt (i : Nat) : mkN i < 256 := Nat.mod_lt _ (by decide)
set_option maxRecDepth 100000 in
set_option maxHeartbeats 8000000 in
theorem mark_any (i : Nat) (hi : i ≤ 1152921504606846976) (w : World) : Calls Try.prog 50 #[.int .i64 i] w fun e w' => e = .returned (bv (mkN i)) ∧ w' = w := by
  have h1 : IntKind.i64.wrap (7 * (i : Int)) = 7 * (i : Int) := by rw [IntKind.wrap_i64]; omega
  have h2 : IntKind.i64.wrap (3 + 7 * (i : Int)) = 3 + 7 * (i : Int) := by rw [IntKind.wrap_i64]; omega
  have h3 : IntKind.u8.wrap (3 + 7 * (i : Int)) = ((mkN i : Nat) : Int) := by rw [IntKind.wrap_u8]; unfold mkN; omega
  go_enter Try.func50, Try.ntmps50
  go_wp2
  go_ret
  exact ⟨rfl, rfl⟩
/-- A row of slices: n of them, in a block of one's own. -/
def RowN (W : World) (z : Nat) (e : TypeId) (v : Value) (n : Nat) (X : Nat → Value) : Prop := W.ownsRow z e 1 v n ((List.range n).map X)
theorem RowN.cell {W : World} {z : Nat} {e : TypeId} {v : Value} {n : Nat} {X : Nat → Value} (h : RowN W z e v n X) {i : Nat} (hi : i < n) : ∃ g cap, v = .slice (some ⟨g, 0, none⟩) n cap ∧ W.cell? ⟨g, i, none⟩ = some (X i) := by
  rcases h.2 with ⟨_, h0⟩ | ⟨g, cap, cur, rfl, _⟩
  · omega
  · refine ⟨g, cap, rfl, ?_⟩
    have := World.ownsRow.cells h (g := g) rfl i (X i) (by rw [List.getElem?_map, List.getElem?_range hi]; rfl)
    rw [Addr.add_mid, Nat.zero_add] at this
    exact this
theorem RowN.slice {W : World} {z : Nat} {e : TypeId} {v : Value} {n : Nat} {X : Nat → Value} (h : RowN W z e v n X) : ∃ a cap, v = .slice a n cap := by
  rcases h.2 with ⟨rfl, rfl⟩ | ⟨g, cap, cur, rfl, _⟩
  · exact ⟨none, 0, rfl⟩
  · exact ⟨_, cap, rfl⟩
/-- A list of writes whose sectors are all the same number. -/
def Sws (W : World) (x : Value) (n : Nat) (at' : Int) : Prop := ∃ a cap, x = .slice a n cap ∧ (n = 0 ∨ ∃ b o, a = some ⟨b, o, none⟩ ∧ ∀ j, j < n → W.cell? ⟨b, o + j * 2, none⟩ = some (I at'))
theorem Sws.chg {F : Nat → Prop} {W W' : World} {x : Value} {n : Nat} {at' : Int} (h : Sws W x n at') (k : Chg F W W') (hF : ∀ j, Value.blk x j → ¬ F j) : Sws W' x n at' := by
  obtain ⟨a, cap, rfl, h⟩ := h
  refine ⟨a, cap, rfl, ?_⟩
  by_cases h0 : n = 0
  · exact .inl h0
  · obtain ⟨b, o, rfl, hc⟩ := h.resolve_left h0
    exact .inr ⟨b, o, rfl, fun j hj => cell_chg (hc j hj) k (hF b ⟨_, _, _, rfl, by omega, rfl⟩)⟩
/-- A block of elements e. -/
def TyB (W : World) (j : Nat) (e : TypeId) : Prop := ∃ cur fr, W.heap[j]? = some (.cells cur e fr)
theorem TyB.chg {F : Nat → Prop} {W W' : World} {j : Nat} {e : TypeId} (h : TyB W j e) (k : Chg F W W') (hF : ¬ F j) : TyB W' j e := by
  obtain ⟨cur, fr, hj⟩ := h
  exact ⟨cur, fr, (k.block j (Array.getElem?_eq_some_iff.1 hj).1 hF).trans hj⟩
/-- The book at block bb: n lists of bytes (nl of them in Lists, nm grown in More), m lists of writes (likewise). The blocks of the lists are of K, those of the book itself of R. -/
structure BK (W : World) (K R : Nat → Prop) (z bb nl nm ml mm : Nat) (X Y U V : Nat → Value) : Prop where
  hd : ∃ lv mv uv vv, Blk W bb 61 [lv, mv, uv, vv] ∧ RowN W z 28 lv nl X ∧ RowN W z 28 mv nm Y ∧ RowN W z 88 uv ml U ∧ RowN W z 88 vv mm V ∧ (∀ g, lv.ownBlock = some g ∨ mv.ownBlock = some g ∨ uv.ownBlock = some g ∨ vv.ownBlock = some g → R g) ∧ (∀ g, lv.ownBlock = some g → mv.ownBlock ≠ some g) ∧ (∀ g, uv.ownBlock = some g → vv.ownBlock ≠ some g)
  e : ∀ i, i < nm → ∃ a b, a ≤ b ∧ b ≤ 4611686018427387904 ∧ Bytes W (X i) (List.replicate a (mkN i)) ∧ Bytes W (Y i) (List.replicate b (mkN i)) ∧ ∀ j, Value.blk (X i) j ∨ Value.blk (Y i) j → K j ∧ TyB W j 5
  w : ∀ i, i < mm → ∃ a b, a ≤ b ∧ b ≤ 4611686018427387904 ∧ Sws W (U i) a (-1 - (i : Int)) ∧ Sws W (V i) b (-1 - (i : Int)) ∧ ∀ j, Value.blk (U i) j ∨ Value.blk (V i) j → K j ∧ TyB W j 96
  b : R bb
  le1 : nm ≤ nl
  le2 : mm ≤ ml
  n1 : nl ≤ 1152921504606846976
  n2 : ml ≤ 1152921504606846976
theorem RowN.chg {F : Nat → Prop} {W W' : World} {z : Nat} {e : TypeId} {v : Value} {n : Nat} {X : Nat → Value} (h : RowN W z e v n X) (k : Chg F W W') (hF : ∀ g, v.ownBlock = some g → ¬ F g) : RowN W' z e v n X := own_chg h k hF
theorem BK.chg {F : Nat → Prop} {W W' : World} {K R : Nat → Prop} {z bb nl nm ml mm : Nat} {X Y U V : Nat → Value} (h : BK W K R z bb nl nm ml mm X Y U V) (k : Chg F W W') (hF : ∀ j, K j ∨ R j → ¬ F j) : BK W' K R z bb nl nm ml mm X Y U V := by
  obtain ⟨lv, mv, uv, vv, h1, h2, h3, h4, h5, h6, h7, h8⟩ := h.hd
  refine ⟨⟨lv, mv, uv, vv, h1.chg k (hF _ (.inr h.b)), h2.chg k (fun g hg => hF _ (.inr (h6 g (.inl hg)))), h3.chg k (fun g hg => hF _ (.inr (h6 g (.inr (.inl hg))))), h4.chg k (fun g hg => hF _ (.inr (h6 g (.inr (.inr (.inl hg)))))), h5.chg k (fun g hg => hF _ (.inr (h6 g (.inr (.inr (.inr hg)))))), h6, h7, h8⟩, fun i hi => ?_, fun i hi => ?_, h.b, h.le1, h.le2, h.n1, h.n2⟩
  · obtain ⟨a, b, q1, q2, q3, q4, q5⟩ := h.e i hi
    exact ⟨a, b, q1, q2, q3.chg k (fun j hj => hF j (.inl (q5 j (.inl hj)).1)), q4.chg k (fun j hj => hF j (.inl (q5 j (.inr hj)).1)), fun j hj => ⟨(q5 j hj).1, (q5 j hj).2.chg k (hF j (.inl (q5 j hj).1))⟩⟩
  · obtain ⟨a, b, q1, q2, q3, q4, q5⟩ := h.w i hi
    exact ⟨a, b, q1, q2, q3.chg k (fun j hj => hF j (.inl (q5 j (.inl hj)).1)), q4.chg k (fun j hj => hF j (.inl (q5 j (.inr hj)).1)), fun j hj => ⟨(q5 j hj).1, (q5 j hj).2.chg k (hF j (.inl (q5 j hj).1))⟩⟩
theorem BK.G {W W' : World} {K R : Nat → Prop} {z bb nl nm ml mm : Nat} {X Y U V : Nat → Value} (h : BK W K R z bb nl nm ml mm X Y U V) (g : Go.Proofs.Ytbjbphhcmmaaoaa.G W W') : BK W' K R z bb nl nm ml mm X Y U V := h.chg (F := fun _ => False) g.chg (fun _ _ h => h)
theorem rep_at {n j x : Nat} (h : j < n) : (List.replicate n x)[j]? = some x := by rw [List.getElem?_replicate, if_pos h]
theorem bytes_at {W : World} {x : Value} {n m : Nat} (h : Bytes W x (List.replicate n m)) : ∃ a cap, x = .slice a n cap ∧ ∀ j, j < n → ∃ b o, a = some ⟨b, o, none⟩ ∧ W.cell? ⟨b, o + j, none⟩ = some (bv m) := by
  obtain ⟨a, cap, rfl, _, hl⟩ := h
  rw [List.length_replicate]
  refine ⟨a, cap, rfl, fun j hj => ?_⟩
  have hne : List.replicate n m ≠ [] := fun e => by have := congrArg List.length e; simp at this; omega
  obtain ⟨b, o, rfl, hc⟩ := hl.resolve_left hne
  refine ⟨b, o, rfl, ?_⟩
  have := hc j m (rep_at hj)
  rw [Addr.add_mid] at this
  exact this
set_option maxRecDepth 100000 in
set_option maxHeartbeats 8000000 in
theorem kept_any (K R : Nat → Prop) (z bb n m : Nat) (X Y U V : Nat → Value) (w : World) (h : BK w K R z bb n n m m X Y U V) : Calls Try.prog 22 #[.pointer (some ⟨bb, 0, none⟩)] w fun e w' => e = .returned (.bool true) ∧ G w w' := by
  obtain ⟨lv, mv, uv, vv, h1, h2, h3, h4, h5, _⟩ := h.hd
  have hnn := h.n1
  have hmm := h.n2
  have HB := hide h1
  have HX := hide h2
  have HY := hide h3
  have HU := hide h4
  have HV := hide h5
  have HE := hide h.e
  have HW := hide h.w
  obtain ⟨la, lc, rfl⟩ := h2.slice
  obtain ⟨ma, mc, rfl⟩ := h3.slice
  obtain ⟨ua, uc, rfl⟩ := h4.slice
  obtain ⟨va, vc, rfl⟩ := h5.slice
  clear h h1 h2 h3 h4 h5
  go_enter Try.func22, Try.ntmps22
  go_wp2_with fail
  go_loopw [3, 4] (fun i _ W => ∃ k : Nat, k ≤ n ∧ i = .int .i64 k ∧ G w W) (fun i _ _ => n - (RowKit.intOf i).toNat)
  case atStart => exact ⟨0, by omega, rfl, G.refl _⟩
  case round =>
    obtain ⟨k, hk, rfl, hg⟩ := hrel
    have HG := hide hg
    have hcb := (HB.out.G hg).cell
    clear hg
    by_cases hlt : k < n
    · have hkI : (k : Int) < (n : Int) := by omega
      obtain ⟨a, b, hab, hb, hx, hy, _⟩ := HE.out k hlt
      obtain ⟨gx, cx, ex, hcx⟩ := HX.out.cell hlt
      obtain ⟨gy, cy, ey, hcy⟩ := HY.out.cell hlt
      cases ex
      cases ey
      have HCX := hide hcx
      have HCY := hide hcy
      obtain ⟨xa, xc, exx, hxc⟩ := bytes_at hx
      obtain ⟨ya, yc, eyy, hyc⟩ := bytes_at hy
      rw [exx] at HCX
      rw [eyy] at HCY
      have HXC := hide hxc
      have HYC := hide hyc
      have HMK := hide (mark_any k (by omega))
      generalize mkN k = mm at HXC HYC HMK
      clear hcx hcy hxc hyc hx hy exx eyy
      go_wp2_with fail
      clear hcb
      go_loopw [4] (fun i W => ∃ j : Nat, j ≤ b ∧ i = .int .i64 j ∧ G w W) (fun i _ => b - (RowKit.intOf i).toNat)
      case atStart => exact ⟨0, by omega, rfl, HG.out⟩
      case round =>
        obtain ⟨j, hj, rfl, hg⟩ := hrel
        have HG2 := hide hg
        have hcb := (HB.out.G hg).cell
        have hcx := cell_chg HCX.out hg.chg (F := fun _ => False) (fun h => h)
        have hcy := cell_chg HCY.out hg.chg (F := fun _ => False) (fun h => h)
        clear hg
        by_cases hjl : j < b
        · have hjI : (j : Int) < (b : Int) := by omega
          obtain ⟨yb, yo, rfl, hc2⟩ := HYC.out j hjl
          have hc2' := cell_chg hc2 HG2.out.chg (F := fun _ => False) (fun h => h)
          by_cases hja : j < a
          · have hjA : (j : Int) < (a : Int) := by omega
            obtain ⟨xb, xo, rfl, hc1⟩ := HXC.out j hja
            have hc1' := cell_chg hc1 HG2.out.chg (F := fun _ => False) (fun h => h)
            clear hc1 hc2
            go_wp2_with fail
            go_quiet (first | (go_at_call 50; refine Calls.quiet_of_same (HMK.out _)))
            clear hc1' hc2' hcx hcy hcb
            go_wp2
            go_roundw
            case rel => exact ⟨j + 1, by omega, by go_num, HG2.out.drewN _⟩
            case measure => simp [RowKit.intOf]; omega
          · have hjA : ¬ (j : Int) < (a : Int) := by omega
            clear hc2
            go_wp2_with fail
            go_quiet (first | (go_at_call 50; refine Calls.quiet_of_same (HMK.out _)))
            clear hc2' hcx hcy hcb
            go_wp2
            go_roundw
            case rel => exact ⟨j + 1, by omega, by go_num, HG2.out.drewN _⟩
            case measure => simp [RowKit.intOf]; omega
        · obtain rfl : j = b := by omega
          go_wp2
          go_roundw
          case rel => exact ⟨k + 1, by omega, by go_num, HG2.out⟩
          case measure => simp [RowKit.intOf]; omega
    · obtain rfl : k = n := by omega
      clear HE HX HY
      go_wp2_with fail
      clear hcb
      go_loopw [5, 6] (fun i _ W => ∃ k : Nat, k ≤ m ∧ i = .int .i64 k ∧ G w W) (fun i _ _ => m - (RowKit.intOf i).toNat)
      case atStart => exact ⟨0, by omega, rfl, HG.out⟩
      case round =>
        obtain ⟨t, ht, rfl, hg⟩ := hrel
        have HG3 := hide hg
        have hcb := (HB.out.G hg).cell
        clear hg HG
        by_cases htl : t < m
        · have htI : (t : Int) < (m : Int) := by omega
          obtain ⟨a, b, hab, hb, hx, hy, _⟩ := HW.out t htl
          obtain ⟨gx, cx, ex, hcx⟩ := HU.out.cell htl
          obtain ⟨gy, cy, ey, hcy⟩ := HV.out.cell htl
          cases ex
          cases ey
          have HCX := hide hcx
          have HCY := hide hcy
          obtain ⟨xa, xc, exx, hxc⟩ := hx
          obtain ⟨ya, yc, eyy, hyc⟩ := hy
          rw [exx] at HCX
          rw [eyy] at HCY
          have HXC := hide hxc
          have HYC := hide hyc
          have hsub : IntKind.i64.wrap (-1 - (t : Int)) = -1 - (t : Int) := by rw [IntKind.wrap_i64]; omega
          clear hcx hcy hxc hyc exx eyy
          go_wp2_with fail
          clear hcb
          go_loopw [6] (fun i W => ∃ j : Nat, j ≤ b ∧ i = .int .i64 j ∧ G w W) (fun i _ => b - (RowKit.intOf i).toNat)
          case atStart => exact ⟨0, by omega, rfl, HG3.out⟩
          case round =>
            obtain ⟨j, hj, rfl, hg⟩ := hrel
            have HG2 := hide hg
            have hcb := (HB.out.G hg).cell
            have hcx := cell_chg HCX.out hg.chg (F := fun _ => False) (fun h => h)
            have hcy := cell_chg HCY.out hg.chg (F := fun _ => False) (fun h => h)
            clear hg
            by_cases hjl : j < b
            · have hjI : (j : Int) < (b : Int) := by omega
              obtain ⟨yb, yo, rfl, hc2⟩ := HYC.out.resolve_left (by omega)
              have hc2' := cell_chg (hc2 j hjl) HG2.out.chg (F := fun _ => False) (fun h => h)
              by_cases hja : j < a
              · have hjA : (j : Int) < (a : Int) := by omega
                obtain ⟨xb, xo, rfl, hc1⟩ := HXC.out.resolve_left (by omega)
                have hc1' := cell_chg (hc1 j hja) HG2.out.chg (F := fun _ => False) (fun h => h)
                clear hc1 hc2
                go_wp2
                go_roundw
                case rel => exact ⟨j + 1, by omega, by go_num, HG2.out⟩
                case measure => simp [RowKit.intOf]; omega
              · have hjA : ¬ (j : Int) < (a : Int) := by omega
                clear hc2
                go_wp2
                go_roundw
                case rel => exact ⟨j + 1, by omega, by go_num, HG2.out⟩
                case measure => simp [RowKit.intOf]; omega
            · obtain rfl : j = b := by omega
              go_wp2
              go_roundw
              case rel => exact ⟨t + 1, by omega, by go_num, HG2.out⟩
              case measure => simp [RowKit.intOf]; omega
        · go_wp2
          go_ret
          exact ⟨rfl, HG3.out⟩
end Go.Proofs.Ytbjbphhcmmaaoaa
