/- The document's unwritten. -/
import Derived.Test.YthgpegldlcfolaaGreatDoorRt4
import Derived.Laws.AppendOwn
import Derived.Maps.AppendAt
import Derived.OwnWalk
namespace Go.Proofs.YthgpegldlcfolaaGreatDoor
open Go.RowKit Go.Lib Go.Shelf

theorem wpList_append_run1 {P : Program} {w : World} {ops : Array Oper} {rest : List Oper} {o : Oper} {a : Act} {Q : Exit → Act → World → Prop} (hgd : o.guard = none) (s x : Operand) (t : TypeId)
    (ho : o.op = .call { callee := .builtin .append, args := #[s, x], argTypes := #[t, t] }) (v z : Value) (hs : a.eval s = v) (hx : a.eval x = z) {v' : Value} {w' : World} (hr : (Builtin.append_ #[t, t] o.type #[v, z]).run P w = .ok v' w')
    (h : wpList P ops Q rest (a.put o.dst v') w') : wpList P ops Q (o :: rest) a w := by
  refine wpList_plain hgd fun K hK => ?_
  unfold Oper.wp execOp
  simp only [ho, resolve, invoke, builtin, Sem.run_bind, Sem.run_pure, Result.andThen_ok, List.map_toArray, List.map_cons, List.map_nil, hs, hx, hr]
  exact hK _ _ h
theorem toNat_of {k : Nat} (h : k < 256) : (UInt8.ofNat k).toNat = k := by rw [UInt8.toNat_ofNat']; omega
abbrev cu (c : UInt8) : Value := .int .u8 (c.toNat : Int)
/-- The bytes that are gathered: a row of one's own. -/
def OB (w W : World) (v : Value) (l : List UInt8) : Prop := W.ownsRow w.heap.size 5 1 v l.length (l.map cu) ∧ G w W
theorem OB.G {w W W' : World} {v : Value} {l : List UInt8} (h : OB w W v l) (g : Go.Proofs.YthgpegldlcfolaaGreatDoor.G W W') : OB w W' v l := by
  refine ⟨⟨h.1.1, ?_⟩, h.2.trans g⟩
  rcases h.1.2 with hn | ⟨gb, cap, cur, rfl, hb, hgg, rest⟩
  · exact .inl hn
  · refine .inr ⟨gb, cap, cur, rfl, hb, ?_, rest⟩
    rw [g.block gb (Array.getElem?_eq_some_iff.1 hgg).1]
    exact hgg
theorem G.trans2o {w a b : World} {row : Option Nat} (h : Go.Proofs.YthgpegldlcfolaaGreatDoor.G w a) (k : a.grownBy b row) (hF : ∀ j, row = some j → w.heap.size ≤ j) : Go.Proofs.YthgpegldlcfolaaGreatDoor.G w b :=
  ⟨k.os.trans h.os, k.tape.trans h.tape, k.output.trans h.output, Nat.le_trans h.size k.size, fun j hj => (k.block j (Nat.lt_of_lt_of_le hj h.size) (fun e => by have := hF j e.symm; omega)).trans (h.block j hj)⟩
theorem info_b : ∃ i, Tryz.prog.info? 5 = some i ∧ i.zero = some (.int .u8 0) ∧ i.size = 1 ∧ i.bytes = 1 := by
  have h : (Tryz.prog.info? 5).map (fun i => (i.zero, i.size, i.bytes)) = some (some (.int .u8 0), 1, 1) := by kernel_rfl
  obtain ⟨i, h1, h2⟩ := Option.map_eq_some_iff.1 h
  simp only [Prod.mk.injEq] at h2
  exact ⟨i, h1, h2.1, h2.2.1, h2.2.2⟩
theorem app_one (ty : TypeId) (c : UInt8) (z : Int) (hz : z = (c.toNat : Int)) {w W : World} {v : Value} {l : List UInt8} (hl : l.length ≤ 140737488351232) (h : OB w W v l) :
    ∃ v' w', (Builtin.append_ #[60, 60] ty #[v, .slice (some ⟨W.heap.size, 0, none⟩) 1 1]).run Tryz.prog (W.alloc (.cells #[.int .u8 z] 5)) = .ok v' w' ∧ OB w w' v' (l ++ [c]) := by
  subst hz
  obtain ⟨i, hi, hz0, hz1, hz2⟩ := info_b
  have h1 := h.G ((Go.Proofs.YthgpegldlcfolaaGreatDoor.G.refl W).alloc (.cells #[cu c] 5))
  obtain ⟨v', w', hr, q2, q3, _, _⟩ := run_append_own_at (P := Tryz.prog) (W.alloc (.cells #[cu c] 5)) w.heap.size 60 ty 5 i _ 1 1 Tryz.underlying60 hi hz0 hz1 hz2 rfl (by decide) v l.length (l.map cu) h1.1 ⟨W.heap.size, 0, none⟩ 1 1 [cu c] rfl (cell_one_new _ _ _) (fun u hu => by simp at hu; subst hu; rfl) (by unfold maxLen; omega) (by omega) h1.2.size
  refine ⟨v', w', hr, by rw [List.length_append, List.map_append]; exact q2, ?_⟩
  exact h1.2.trans2o q3 (fun j hj => by
    rcases h1.1.2 with ⟨rfl, _⟩ | ⟨gb, cap, cur, rfl, hb, _⟩
    · simp [Value.ownBlock] at hj
    · simp [Value.ownBlock] at hj; omega)
theorem conv_OB {w W : World} {v : Value} {l : List UInt8} (h : OB w W v l) : (convert 60 9 v).run Tryz.prog W = .ok (.string (strU l)) W := by
  rcases h.1.2 with ⟨rfl, hn⟩ | ⟨g, cap, cur, rfl, hb, hgg, hc, _⟩
  · have : l = [] := List.eq_nil_of_length_eq_zero hn
    subst this
    exact run_convert_bytes_nil W 60 5 Tryz.underlying60 Tryz.underlying5 0 0 9 Tryz.underlying9
  · refine run_convert_bytes_back _ 60 9 5 ⟨g, 0, none⟩ cap l Tryz.underlying60 Tryz.underlying5 Tryz.underlying9 (fun j hj => ?_)
    have := h.1.cells (g := g) rfl j (cu l[j]) (by rw [List.getElem?_map, List.getElem?_eq_getElem hj]; rfl)
    exact this
theorem rext_take (u : ByteArray) (i n : Nat) : (u.extract i (i + n)).data.toList = (u.data.toList.drop i).take n := by
  rw [ByteArray.data_extract, Array.toList_extract, List.extract_eq_take_drop, Nat.add_sub_cancel_left]
set_option maxRecDepth 100000 in
set_option maxHeartbeats 8000000 in
theorem runw_any (u : ByteArray) (hs : u.size ≤ 140737488351232) (w : World) : Calls Tryz.prog 63 #[.string u] w fun e w' => ∃ x : ByteArray, e = .returned (.string x) ∧ G w w' ∧ x.size ≤ u.size ∧ ∀ l0, innr u.data.toList = escS l0 → x.data.toList = l0 := by
  have hll : u.data.toList.length = u.size := by rw [Array.length_toList]; rfl
  have H0 : Hid (OB w w (.slice none 0 0) []) := ⟨World.ownsRow_nil _ _ _ _, G.refl _⟩
  go_enter Tryz.func63, Tryz.ntmps63
  go_wp2_with fail
  go_loopw [3, 4, 5, 6, 7] (fun b p _ _ _ W => ∃ (i : Nat) (l : List UInt8), OB w W b l ∧ PW u.data.toList l i ∧ i ≤ u.size + 1 ∧ l.length + 1 ≤ i ∧ p = .int .i64 i) (fun _ p _ _ _ _ => u.size - (RowKit.intOf p).toNat)
  case atStart => exact ⟨1, [], H0.out, pw_start _, by omega, by simp, rfl⟩
  case round =>
    obtain ⟨i, l, hob, hpw, hi, hli, rfl⟩ := hrel
    have HOB := hide hob
    have HPW := hide hpw
    have hi1 := hpw.1
    clear hob hpw H0
    by_cases hlt : i + 1 < u.size
    · have hltI : (i : Int) + 1 < (u.size : Int) := by omega
      have his : i < u.size := by omega
      have hiI : (i : Int) < (u.size : Int) := by omega
      have HGT := hide (u_get u i his)
      by_cases hc : u[i] = 92
      · have hc2 : u[i].toNat = 92 := by rw [hc]; rfl
        have hc3 : (u[i].toNat : Int) = 92 := by omega
        rw [hc] at HGT
        by_cases h2 : i + 2 < u.size
        · have h2I : (i : Int) + 2 < (u.size : Int) := by omega
          go_wp2_with fail
          go_loopw [4, 5, 6, 7] (fun p c q _ W => ∃ k : Nat, k ≤ 256 ∧ q = .int .i64 k ∧ p = .int .i64 i ∧ c = .int .u8 92 ∧ G wr W ∧ ∀ j, j < k → ¬ Mt u.data.toList i j) (fun _ _ q _ _ => 256 - (RowKit.intOf q).toNat)
          case atStart => exact ⟨0, by omega, rfl, rfl, by first | rfl | rw [hc3], G.refl _, fun j hj => by omega⟩
          case round =>
            obtain ⟨k, hk, rfl, rfl, rfl, hgk, hno⟩ := hrel
            have HGK := hide hgk
            have HNO := hide hno
            clear hgk hno
            by_cases hkl : k < 256
            · have hkI : (k : Int) < 256 := by omega
              have hkw : IntKind.u8.wrap (k : Int) = (k : Int) := by rw [IntKind.wrap_u8]; omega
              go_wp2_with fail
              refine (rlet_any k hkl _).mono ?_
              rintro e' w3 ⟨rfl, hg3⟩
              have HG3 := hide (HGK.out.trans hg3)
              clear hg3
              obtain ⟨E, hE⟩ : ∃ E, esc1 (UInt8.ofNat k) = E := ⟨_, rfl⟩
              have hEl := resc1_len (UInt8.ofNat k)
              rw [hE] at hEl ⊢
              have HE := hide hE
              have hEs := rstrU_size E
              clear hE
              by_cases h1 : 1 < E.length
              · have h1I : (1 : Int) < (E.length : Int) := by omega
                by_cases h3 : i + E.length < u.size
                · have h3I : (i : Int) + (E.length : Int) < (u.size : Int) := by omega
                  have hx1 : (i : Int) + (E.length : Int) ≤ (u.size : Int) := by omega
                  have hx2 : (i : Int) ≤ (i : Int) + (E.length : Int) := by omega
                  have hex := rext_take u i E.length
                  by_cases hq : (u.data.toList.drop i).take E.length = E
                  · have HTK := hide hq
                    have hqb : ((u.extract i (i + E.length)).toList == (strU E).toList) = true := by
                      rw [ByteArray.toList_eq, ByteArray.toList_eq, hex, strU_list, hq]; exact beq_self_eq_true _
                    clear hex hq
                    obtain ⟨v', w', hrun, hob⟩ := app_one 60 (UInt8.ofNat k) (k : Int) (by rw [toNat_of hkl]) (by omega) (HOB.out.G HG3.out)
                    have HRUN := hide hrun
                    have HON := hide hob
                    have HPN := hide (by have h9 := pw_hit HPW.out (by rw [hll]; exact hlt) ⟨by rw [HE.out]; exact h1, by rw [HE.out, hll]; exact h3, by rw [HE.out]; exact HTK.out⟩; rw [HE.out] at h9; exact h9)
                    clear hrun hob HOB HPW
                    go_wp2_with (first | (at_builtin; refine wpList_append_run1 rfl _ _ 60 rfl u3 (.slice (some ⟨w3.heap.size, 0, none⟩) 1 1) rfl rfl HRUN.out ?_) | fail)
                    clear HRUN
                    go_wp2
                    go_roundw
                    case rel => exact ⟨i + E.length, l ++ [(UInt8.ofNat k)], HON.out, HPN.out, by omega, by simp; omega, by go_num⟩
                    case measure => simp [RowKit.intOf]; omega
                  · have HTK := hide hq
                    have hqb : ((u.extract i (i + E.length)).toList == (strU E).toList) = false := by
                      rw [ByteArray.toList_eq, ByteArray.toList_eq, hex, strU_list]; exact beq_false_of_ne hq
                    clear hex hq
                    have HNX : Hid (∀ j, j < k + 1 → ¬ Mt u.data.toList i j) := fun j hj hm => by
                      by_cases hjk : j < k
                      · exact HNO.out j hjk hm
                      · obtain rfl : j = k := by omega
                        obtain ⟨m1, m2, m3⟩ := hm
                        rw [HE.out] at m1 m2 m3
                        rw [hll] at m2
                        exact HTK.out m3
                    go_wp2
                    go_roundw
                    case rel => exact ⟨k + 1, by omega, by go_num, rfl, rfl, HG3.out, HNX.out⟩
                    case measure => simp [RowKit.intOf]; omega
                · have h3I : ¬ (i : Int) + (E.length : Int) < (u.size : Int) := by omega
                  have HNX : Hid (∀ j, j < k + 1 → ¬ Mt u.data.toList i j) := fun j hj hm => by
                    by_cases hjk : j < k
                    · exact HNO.out j hjk hm
                    · obtain rfl : j = k := by omega
                      obtain ⟨m1, m2, m3⟩ := hm
                      rw [HE.out] at m1 m2 m3
                      rw [hll] at m2
                      exact h3 m2
                  go_wp2
                  go_roundw
                  case rel => exact ⟨k + 1, by omega, by go_num, rfl, rfl, HG3.out, HNX.out⟩
                  case measure => simp [RowKit.intOf]; omega
              · have h1I : ¬ (1 : Int) < (E.length : Int) := by omega
                have HNX : Hid (∀ j, j < k + 1 → ¬ Mt u.data.toList i j) := fun j hj hm => by
                  by_cases hjk : j < k
                  · exact HNO.out j hjk hm
                  · obtain rfl : j = k := by omega
                    obtain ⟨m1, m2, m3⟩ := hm
                    rw [HE.out] at m1 m2 m3
                    rw [hll] at m2
                    exact h1 m1
                go_wp2
                go_roundw
                case rel => exact ⟨k + 1, by omega, by go_num, rfl, rfl, HG3.out, HNX.out⟩
                case measure => simp [RowKit.intOf]; omega
            · obtain rfl : k = 256 := by omega
              obtain ⟨v', w', hrun, hob⟩ := app_one 60 92 92 (rfl) (by omega) (HOB.out.G HGK.out)
              have HRUN := hide hrun
              have HON := hide hob
              have HPN := hide (pw_miss HPW.out (by rw [hll]; exact hlt) HGT.out (fun j hj => HNO.out j hj))
              clear hrun hob HOB HPW
              go_wp2_with (first | (at_builtin; refine wpList_append_run1 rfl _ _ 60 rfl u3 (.slice (some ⟨wr.heap.size, 0, none⟩) 1 1) rfl rfl HRUN.out ?_) | fail)
              clear HRUN
              go_wp2
              go_roundw
              case rel => exact ⟨i + 1, l ++ [92], HON.out, HPN.out, by omega, by simp; omega, by go_num⟩
              case measure => simp [RowKit.intOf]; omega
        · have h2I : ¬ (i : Int) + 2 < (u.size : Int) := by omega
          obtain ⟨v', w', hrun, hob⟩ := app_one 60 92 92 (rfl) (by omega) HOB.out
          have HRUN := hide hrun
          have HON := hide hob
          have HPN := hide (pw_short HPW.out (by rw [hll]; exact hlt) HGT.out (by rw [hll]; omega))
          clear hrun hob HOB HPW
          go_wp2_with (first | (at_builtin; refine wpList_append_run1 rfl _ _ 60 rfl u3 (.slice (some ⟨wr.heap.size, 0, none⟩) 1 1) rfl rfl HRUN.out ?_) | fail)
          clear HRUN
          go_wp2
          go_roundw
          case rel => exact ⟨i + 1, l ++ [92], HON.out, HPN.out, by omega, by simp; omega, by go_num⟩
          case measure => simp [RowKit.intOf]; omega
      · have hc2 : ¬ u[i].toNat = 92 := fun e => hc (UInt8.toNat_inj.1 e)
        have hc3 : ((u[i].toNat : Int) == 92) = false := beq_false_of_ne (by omega)
        have hcl := u[i].toNat_lt
        obtain ⟨v', w', hrun, hob⟩ := app_one 60 u[i] (u[i].toNat : Int) (rfl) (by omega) HOB.out
        have HRUN := hide hrun
        have HON := hide hob
        have HPN := hide (pw_plain HPW.out (by rw [hll]; exact hlt) HGT.out hc)
        clear hrun hob HOB HPW
        go_wp2_with (first | (at_builtin; refine wpList_append_run1 rfl _ _ 60 rfl u3 (.slice (some ⟨wr.heap.size, 0, none⟩) 1 1) rfl rfl HRUN.out ?_) | fail)
        clear HRUN
        go_wp2
        go_roundw
        case rel => exact ⟨i + 1, l ++ [u[i]], HON.out, HPN.out, by omega, by simp; omega, by go_num⟩
        case measure => simp [RowKit.intOf]; omega
    · have hltI : ¬ (i : Int) + 1 < (u.size : Int) := by omega
      have hcv := conv_OB HOB.out
      have HEN := hide (pw_end HPW.out (by rw [hll]; omega))
      go_wp2
      go_ret
      exact ⟨strU l, rfl, HOB.out.2, by rw [rstrU_size]; omega, fun l0 h0 => by rw [strU_list]; exact HEN.out l0 h0⟩
end Go.Proofs.YthgpegldlcfolaaGreatDoor
