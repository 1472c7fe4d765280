/- Gate: slices.Index, Contains, ContainsFunc, Clone. -/
import Derived.Test.YtmclbnhbioficacGs1
namespace Go.Proofs.Ytmclbnhbioficac
open Go.RowKit

theorem wpList_append_run {P : Program} {w : World} {ops : Array Oper} {rest : List Oper} {o : Oper} {a : Act} {Q : Exit → Act → World → Prop} (hgd : o.guard = none) (s x : Operand) (t : TypeId)
    (ho : o.op = .call { callee := .builtin .append, args := #[s, x], argTypes := #[t, t] }) (v z : Value) (hs : a.eval s = v) (hx : a.eval x = z) {v' : Value} {w' : World} (hr : (Builtin.append_ #[t, t] o.type #[v, z]).run P w = .ok v' w')
    (h : wpList P ops Q rest (a.put o.dst v') w') : wpList P ops Q (o :: rest) a w := by
  refine wpList_plain hgd fun K hK => ?_
  unfold Oper.wp execOp
  simp only [ho, resolve, invoke, builtin, Sem.run_bind, Sem.run_pure, Result.andThen_ok, List.map_toArray, List.map_cons, List.map_nil, hs, hx, hr]
  exact hK _ _ h

/-- An append of one to a row of our own. -/
theorem app_one {P : Program} {α : Type} {E : Enc α} {ty ts : TypeId} {w : World} {v : Value} {l : List α} (i : TypeInfo) (z : Value) (bytes : Nat) (hts : P.underlying ts = some (.slice ty)) (hi : P.info? ty = some i) (hz : i.zero = some z) (hsize : i.size = E.s) (hby : i.bytes = bytes) (hzs : z.cells.size = E.s) (hsz : 0 < E.s)
    (h : Sw E ty w v l) (a : Addr) (c : Nat) (x : α) (hx : ∀ j u, (E.e x)[j]? = some u → w.cell? (a.add j) = some u) (h63 : l.length + 1 ≤ maxLen) (hbytes : (l.length + 1) * bytes ≤ 140737488355328) :
    ∃ v' w', (Builtin.append_ #[ts, ts] ts #[v, .slice (some a) 1 c]).run P w = .ok v' w' ∧ Sw E ty w' v' (l ++ [x]) ∧ ((v'.ownBlock = v.ownBlock ∧ v'.ownBlock ≠ none ∧ Chg (fun k => v.ownBlock = some k) w w') ∨ (v'.ownBlock = some w.heap.size ∧ G w w')) := by
  obtain ⟨v', w', q1, q2, q3⟩ := app_stay (P := P) w 0 ts ts ty i z E.s bytes hts hi hz hsize hby hzs hsz v l.length (E.fl l) h.row a c (E.e x) (by rw [E.hs, Nat.one_mul]) hx (E.one x) h63 hbytes (Nat.zero_le _)
  rw [← E.snoc] at q2
  exact ⟨v', w', q1, Sw.of_row (b := 0) q2 (by simp), q3⟩
theorem Chg.app {W W' : World} {v v' : Value} (h : (v'.ownBlock = v.ownBlock ∧ v'.ownBlock ≠ none ∧ Chg (fun k => v.ownBlock = some k) W W') ∨ (v'.ownBlock = some W.heap.size ∧ Go.Proofs.Ytmclbnhbioficac.G W W')) : Chg (fun k => v.ownBlock = some k) W W' ∧ ∀ k, v'.ownBlock = some k → v.ownBlock = some k ∨ W.heap.size ≤ k := by
  rcases h with h | h
  · exact ⟨h.2.2, fun k e => .inl (by rw [← h.1]; exact e)⟩
  · refine ⟨h.2.chg, fun k e => .inr ?_⟩
    rw [h.1] at e
    have := Option.some.inj e
    omega
set_option maxRecDepth 100000 in
set_option maxHeartbeats 1000000 in
theorem index_yes (l : List Int) (v : Value) (id : Int) (k : Nat) (W : World) (h : SwI W v l) (hk : l[k]? = some id) (hf : ∀ j, j < k → l[j]? ≠ some id) (hm : l.length ≤ 1000) :
    Calls Try.prog 38 #[v, I id] W fun e W' => e = .returned (I k) ∧ W' = W := by
  have hkl := (List.getElem?_eq_some_iff.1 hk).1
  obtain ⟨g, cap, rfl⟩ := h.slice (by omega)
  have HS := hide h
  have HF := hide hf
  have HID := hide hk
  have HK := hide hkl
  have HM := hide hm
  clear h hf hk hkl hm
  go_enter Try.func38, Try.ntmps38
  go_wp2_with fail
  go_loopw [8, 5] (fun iv _ wr => ∃ i : Nat, iv = I i ∧ i ≤ k ∧ wr = W) (fun iv _ _ => k - (RowKit.intOf iv).toNat)
  case atStart => exact ⟨0, rfl, Nat.zero_le _, rfl⟩
  case round =>
    rename_i wr hout
    obtain ⟨i, rfl, hik, rfl⟩ := hrel
    have hil : i < l.length := Nat.lt_of_le_of_lt hik HK.out
    obtain ⟨y, hy⟩ : ∃ y, l[i]? = some y := ⟨_, List.getElem?_eq_getElem hil⟩
    have x1 : wr.cell? ⟨g, i, none⟩ = some (I y) := by
      have := HS.out.at hy 0 (by decide)
      simpa using this
    have i1 : (i : Int) < l.length := Int.ofNat_lt.2 hil
    by_cases e : i = k
    · have hid : y = id := by
        have h1 := HID.out
        rw [← e, hy] at h1
        exact Option.some.inj h1
      subst hid
      have HE := hide e
      clear hik hil e hy
      go_wp2_with fail
      go_ret
      have hik := HE.out
      subst hik
      exact ⟨rfl, rfl⟩
    · have hne : (id == y) = false := beq_eq_false_iff_ne.2 (fun q => HF.out i (by omega) (by rw [hy, q]))
      have HR : Hid (i + 1 ≤ k) := by show _ ≤ _; omega
      have HW : Hid (wrap64 ((i : Int) + 1) = (i : Int) + 1) := by show _ = _; have := HM.out; unfold wrap64; omega
      have HMS : Hid (i < k) := by show _ < _; omega
      clear hik hil e hy
      go_wp2_with fail
      rw [HW.out]
      go_roundw
      case rel => exact ⟨i + 1, rfl, HR.out, trivial⟩
      case measure => simp only [RowKit.intOf]; have := HMS.out; omega
set_option maxRecDepth 100000 in
set_option maxHeartbeats 1000000 in
theorem index_no (l : List Int) (v : Value) (id : Int) (W : World) (h : SwI W v l) (hf : id ∉ l) (hm : l.length ≤ 1000) :
    Calls Try.prog 38 #[v, I id] W fun e W' => e = .returned (I (-1)) ∧ W' = W := by
  obtain ⟨a, c, rfl⟩ := h.form
  have HS := hide h
  have HF := hide hf
  have HM := hide hm
  clear h hf hm
  go_enter Try.func38, Try.ntmps38
  go_wp2_with fail
  go_loopw [8, 5] (fun iv _ wr => ∃ i : Nat, iv = I i ∧ i ≤ l.length ∧ wr = W) (fun iv _ _ => l.length - (RowKit.intOf iv).toNat)
  case atStart => exact ⟨0, rfl, Nat.zero_le _, rfl⟩
  case round =>
    rename_i wr hout
    obtain ⟨i, rfl, hik, rfl⟩ := hrel
    by_cases hil : i < l.length
    · obtain ⟨y, hy⟩ : ∃ y, l[i]? = some y := ⟨_, List.getElem?_eq_getElem hil⟩
      obtain ⟨g, cap, q⟩ := HS.out.slice (by omega)
      injection q with q1 q2 q3
      subst q1 q3
      have x1 : wr.cell? ⟨g, i, none⟩ = some (I y) := by
        have := HS.out.at hy 0 (by decide)
        simpa using this
      have i1 : (i : Int) < l.length := Int.ofNat_lt.2 hil
      have hne : (id == y) = false := beq_eq_false_iff_ne.2 (fun q => HF.out (by rw [q]; exact List.mem_of_getElem? hy))
      have HR : Hid (i + 1 ≤ l.length) := by show _ ≤ _; omega
      have HW : Hid (wrap64 ((i : Int) + 1) = (i : Int) + 1) := by show _ = _; have := HM.out; unfold wrap64; omega
      have HMS : Hid (i < l.length) := hil
      clear hik hil hy q2
      go_wp2_with fail
      rw [HW.out]
      go_roundw
      case rel => exact ⟨i + 1, rfl, HR.out, trivial⟩
      case measure => simp only [RowKit.intOf]; have := HMS.out; omega
    · have i1 : ¬ ((i : Int) < l.length) := by omega
      clear hik hil
      go_wp2_with fail
      go_ret
      exact ⟨rfl, rfl⟩
theorem first_of {α : Type} {p : α → Prop} [DecidablePred p] {l : List α} (h : ∃ x ∈ l, p x) : ∃ (k : Nat) (x : α), l[k]? = some x ∧ p x ∧ ∀ (j : Nat) (y : α), j < k → l[j]? = some y → ¬ p y := by
  induction l with
  | nil => obtain ⟨x, hx, _⟩ := h; simp at hx
  | cons a l ih =>
    by_cases ha : p a
    · exact ⟨0, a, rfl, ha, fun j y hj => by omega⟩
    · obtain ⟨x, hx, hp⟩ := h
      have hx2 : x ∈ l := by
        rcases List.mem_cons.1 hx with rfl | q
        · exact absurd hp ha
        · exact q
      obtain ⟨k, x, h1, h2, h3⟩ := ih ⟨x, hx2, hp⟩
      refine ⟨k + 1, x, by simpa using h1, h2, fun j y hj hy => ?_⟩
      match j, hy with
      | 0, hy => simp at hy; subst hy; exact ha
      | j + 1, hy => exact h3 j y (by omega) (by simpa using hy)
set_option maxRecDepth 100000 in
set_option maxHeartbeats 1000000 in
theorem contains_any (l : List Int) (v : Value) (id : Int) (W : World) (h : SwI W v l) (hm : l.length ≤ 1000) :
    Calls Try.prog 42 #[v, I id] W fun e W' => e = .returned (.bool (decide (id ∈ l))) ∧ W' = W := by
  by_cases hf : id ∈ l
  · obtain ⟨k, x, hk, rfl, hfi⟩ := first_of (p := fun x => x = id) ⟨id, hf, rfl⟩
    have KI := hide (index_yes l v x k W h hk (fun j hj hy => hfi j x hj hy rfl) hm)
    have hd : decide (x ∈ l) = true := decide_eq_true hf
    rw [hd]
    clear hd hf hfi h hm hk
    go_enter Try.func42, Try.ntmps42
    go_wp2_with fail
    refine KI.out.mono ?_
    rintro e w' ⟨rfl, rfl⟩
    go_wp2
    go_ret
    exact ⟨rfl, rfl⟩
  · have KI := hide (index_no l v id W h hf hm)
    have hd : decide (id ∈ l) = false := decide_eq_false hf
    rw [hd]
    clear hd hf h hm
    go_enter Try.func42, Try.ntmps42
    go_wp2_with fail
    refine KI.out.mono ?_
    rintro e w' ⟨rfl, rfl⟩
    go_wp2
    go_ret
    exact ⟨rfl, rfl⟩
set_option maxRecDepth 100000 in
set_option maxHeartbeats 1000000 in
theorem isit_any (B : Nat) (id : Int) (x : Int × Int) (W : World) (h : Blk W B 3 [I id]) :
    Calls Try.prog 53 #[.agg #[I x.1, I x.2], ptr B] W fun e W' => e = .returned (.bool (x.1 == id)) ∧ G W W' := by
  have hc := h.cell
  have hl := h.lt
  have n1 : B < W.heap.size + 1 := by omega
  obtain ⟨a, c⟩ := x
  clear h
  go_enter Try.func53, Try.ntmps53
  go_wp2
  go_ret
  exact ⟨rfl, (G.refl W).alloc _⟩
def KnR (l : List (Int × Int)) (id n : Int) : Prop := decide (0 ≤ n) = decide (id ∈ l.map (·.1))
set_option maxRecDepth 100000 in
set_option maxHeartbeats 1000000 in
theorem known_any (l : List (Int × Int)) (v : Value) (B : Nat) (id : Int) (W : World) (h : SwQ W v l) (hB : Blk W B 3 [I id]) (hm : l.length ≤ 1000) :
    Calls Try.prog 65 #[v, .func (.func 53) #[] #[ptr B]] W fun e W' => (∃ n : Int, e = .returned (I n) ∧ KnR l id n) ∧ G W W' := by
  obtain ⟨a, c, rfl⟩ := h.form
  have HS := hide h
  have HB := hide hB
  have HM := hide hm
  clear h hB hm
  go_enter Try.func65, Try.ntmps65
  go_wp2_with fail
  go_loopw [8, 5] (fun iv _ wr => ∃ i : Nat, iv = I i ∧ i ≤ l.length ∧ (∀ (j : Nat) (y : Int × Int), j < i → l[j]? = some y → y.1 ≠ id) ∧ G W wr) (fun iv _ _ => l.length - (RowKit.intOf iv).toNat)
  case atStart => exact ⟨0, rfl, Nat.zero_le _, fun j y hj => by omega, G.refl _⟩
  case round =>
    rename_i wr hout
    obtain ⟨i, rfl, hik, hno, hg⟩ := hrel
    by_cases hil : i < l.length
    · obtain ⟨y, hy⟩ : ∃ y, l[i]? = some y := ⟨_, List.getElem?_eq_getElem hil⟩
      obtain ⟨g, cap, q⟩ := HS.out.slice (by omega)
      injection q with q1 q2 q3
      subst q1 q3
      have x1 : wr.cell? ⟨g, i * 2, none⟩ = some (I y.1) := by
        have := (HS.out.G hg).at hy 0 (by decide)
        simpa using this
      have x2 : wr.cell? ⟨g, i * 2 + 1, none⟩ = some (I y.2) := by
        have := (HS.out.G hg).at hy 1 (by decide)
        simpa using this
      have i1 : (i : Int) < l.length := Int.ofNat_lt.2 hil
      have KI := hide (isit_any B id y wr (HB.out.G hg))
      have HW : Hid (wrap64 ((i : Int) + 1) = (i : Int) + 1) := by show _ = _; have := HM.out; unfold wrap64; omega
      have HG := hide hg
      have HNO := hide hno
      have HY := hide hy
      have HIL := hide hil
      clear hik hil hy q2 hg hno
      go_wp2_with fail
      refine KI.out.mono ?_
      rintro e w' ⟨rfl, hg'⟩
      by_cases hyi : y.1 = id
      · have d1 : (y.1 == id) = true := beq_iff_eq.2 hyi
        rw [d1]
        clear d1 KI x1 x2
        have HYI := hide hyi
        clear hyi
        go_wp2
        go_ret
        refine ⟨⟨_, rfl, ?_⟩, HG.out.trans hg'⟩
        show decide _ = decide _
        rw [decide_eq_true (by omega : (0 : Int) ≤ (i : Int)), decide_eq_true]
        exact List.mem_map.2 ⟨y, List.mem_of_getElem? HY.out, HYI.out⟩
      · have d1 : (y.1 == id) = false := beq_eq_false_iff_ne.2 hyi
        rw [d1]
        have HYI := hide hyi
        clear hyi d1 KI x1 x2
        go_wp2
        rw [HW.out]
        go_roundw
        case rel => exact ⟨i + 1, rfl, HIL.out, fun j z hj hz => by
          by_cases e : j = i
          · subst e
            have h1 := HY.out
            rw [hz] at h1
            rw [Option.some.inj h1]
            exact HYI.out
          · exact HNO.out j z (by omega) hz, HG.out.trans hg'⟩
        case measure => simp only [RowKit.intOf]; have := HIL.out; omega
    · have i1 : ¬ ((i : Int) < l.length) := by omega
      have HNO := hide hno
      have HG := hide hg
      have HIL : Hid (l.length ≤ i) := by show _ ≤ _; omega
      clear hik hil hno hg
      go_wp2_with fail
      go_ret
      refine ⟨⟨_, rfl, ?_⟩, HG.out⟩
      show decide _ = decide _
      rw [decide_eq_false (by decide), decide_eq_false]
      intro hm
      obtain ⟨y, hy, he⟩ := List.mem_map.1 hm
      obtain ⟨j, hj, rfl⟩ := List.getElem_of_mem hy
      exact HNO.out j _ (Nat.lt_of_lt_of_le hj HIL.out) (List.getElem?_eq_getElem hj) he
set_option maxRecDepth 100000 in
set_option maxHeartbeats 1000000 in
theorem cfunc_any (l : List (Int × Int)) (v : Value) (B : Nat) (id : Int) (W : World) (h : SwQ W v l) (hB : Blk W B 3 [I id]) (hm : l.length ≤ 1000) :
    Calls Try.prog 54 #[v, .func (.func 53) #[] #[ptr B]] W fun e W' => e = .returned (.bool (decide (id ∈ l.map (·.1)))) ∧ G W W' := by
  have KI := hide (known_any l v B id W h hB hm)
  obtain ⟨bb, hbb⟩ : ∃ bb, bb = decide (id ∈ l.map (·.1)) := ⟨_, rfl⟩
  rw [← hbb]
  have HBB := hide hbb
  clear h hB hm hbb
  go_enter Try.func54, Try.ntmps54
  go_wp2_with fail
  refine KI.out.mono ?_
  rintro e w' ⟨⟨n, rfl, hn⟩, hg⟩
  have HN := hide hn
  have HG := hide hg
  clear hn hg KI
  go_wp2
  go_ret
  refine ⟨?_, HG.out⟩
  have h1 : decide (0 ≤ n) = _ := HN.out
  rw [← HBB.out] at h1
  rw [← h1]
  rfl
end Go.Proofs.Ytmclbnhbioficac
