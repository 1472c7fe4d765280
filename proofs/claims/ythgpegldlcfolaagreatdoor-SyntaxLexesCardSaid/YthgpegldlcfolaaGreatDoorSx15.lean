/- Tokens: the law. -/
import Derived.Test.YthgpegldlcfolaaGreatDoorSx11
import Derived.Maps.AppendAt
import Derived.OwnWalk
namespace Go.Proofs.YthgpegldlcfolaaGreatDoor
section
section
section
open Go.RowKit

set_option maxRecDepth 100000 in
set_option maxHeartbeats 1000000 in
theorem ta_st (u : ByteArray) (hs : u.size ≤ 140737488351232) (i : Nat) (hi : i < u.size) (hq : u[i].toNat = 39) (w : World) (hE : Lxe w) : Calls Tryz.prog 8 #[.string u, .int .i64 i] w fun e w' => ∃ x, Tk StA (u.data.toList.drop i) x ∧ e = .returned (tokV i x) ∧ G w w' := by
  have HRP := xh (Rp.new w)
  have HE1 := xh (hE.G HRP.out.g)
  have HKA := xh (fun W (h : Lxe W) => ka_any u (by omega) i hi W h)
  have hkf : kF u[i] (u.data.toList.drop i) = 5 := by unfold kF; simp [xA, xD, hq]
  rw [hkf] at HKA
  have HSA := xh (fun W (h : Env W) => sa_any u hs i hi hq W h)
  clear hE hkf
  go_enter Tryz.func8, Tryz.ntmps8
  go_wp2_with (first | (go_at_call 14; refine Hid.out ?_) | fail)
  unfold Hid
  generalize (w.alloc (.cells #[I 0, .string E0, I 0] 30)).alloc (.cells #[I 0, I 0] 32) = wb at HRP HE1 ⊢
  refine (HKA.out _ HE1.out).mono ?_
  rintro e w1 ⟨rfl, rfl⟩
  go_wp2_with (first | (go_at_call 21; refine Hid.out ?_) | fail)
  unfold Hid
  refine (HSA.out _ HE1.out.e).mono ?_
  rintro e w2 ⟨x, hx, rfl, hg⟩
  have HT := xh hx
  have HR2 := xh (HRP.out.G hg)
  have hcr := HR2.out.c
  have hfr := HR2.out.f
  have hdr := HR2.out.d
  have hhr := HR2.out.h
  clear hx hg HKA HSA HE1 HRP
  cases x with
  | bad c o =>
    simp only [tokV]
    generalize hio : ((i + o : Nat) : Int) = io
    have HIO := xh hio
    clear hio
    go_wp2
    refine bodyPost_ret (v := .tuple #[.agg #[I 0, .string E0, I 0], I 0, .agg #[I c, I io]]) (by simp [results, Tryz.results8, go_sem, hcr, hdr]) rfl ⟨_, HT.out, ?_, G.five HR2.out.g _ _ _ _ _⟩
    simp only [tokV]; rw [HIO.out]
  | tok k t m =>
    simp only [tokV]
    generalize hio : ((i + m : Nat) : Int) = io
    have HIO := xh hio
    clear hio
    go_wp2
    refine bodyPost_ret (v := .tuple #[.agg #[I k, .string t, I i], I io, .agg #[I 0, I 0]]) (by simp [results, Tryz.results8, go_sem, hcr, hdr]) rfl ⟨_, HT.out, ?_, G.five HR2.out.g _ _ _ _ _⟩
    simp only [tokV]; rw [HIO.out]
theorem ta_any (u : ByteArray) (hs : u.size ≤ 140737488351232) (i : Nat) (hi : i < u.size) (w : World) (hE : Lxe w) : Calls Tryz.prog 8 #[.string u, .int .i64 i] w fun e w' => ∃ x, Tk StA (u.data.toList.drop i) x ∧ e = .returned (tokV i x) ∧ G w w' := by
  cases hA : xA u[i] with
  | true => exact ta_nm u hs i hi hA w hE
  | false =>
    cases hD : xD u[i] with
    | true => exact ta_nu u hs i hi hA hD w hE
    | false =>
      by_cases hq : u[i].toNat = 39
      · exact ta_st u hs i hi hq w hE
      · exact ta_mk u hs i hi hA hD hq w hE
set_option maxRecDepth 100000 in
set_option maxHeartbeats 1000000 in
theorem ta_end (u : ByteArray) (w : World) (hE : Lxe w) : Calls Tryz.prog 8 #[.string u, .int .i64 u.size] w fun e w' => e = .returned (.tuple #[.agg #[I 7, .string ⟨#[]⟩, I u.size], I u.size, .agg #[I 0, I 0]]) ∧ G w w' := by
  have HRP := xh (Rp.new w)
  have HE1 := xh (hE.G HRP.out.g)
  have HKA := xh (fun W (_ : Lxe W) => ka_end u W)
  have hex := ex_nil u u.size
  clear hE
  go_enter Tryz.func8, Tryz.ntmps8
  go_wp2_with (first | (go_at_call 14; refine Hid.out ?_) | fail)
  unfold Hid
  generalize (w.alloc (.cells #[I 0, .string E0, I 0] 30)).alloc (.cells #[I 0, I 0] 32) = wb at HRP HE1 ⊢
  refine (HKA.out _ HE1.out).mono ?_
  rintro e w1 ⟨rfl, rfl⟩
  have hcr := HRP.out.c
  have hfr := HRP.out.f
  have hdr := HRP.out.d
  have hhr := HRP.out.h
  go_wp2
  refine bodyPost_ret (v := .tuple #[.agg #[I 7, .string ByteArray.empty, I u.size], I u.size, .agg #[I 0, I 0]]) (by simp [results, Tryz.results8, go_sem, hcr, hdr]) rfl ⟨rfl, G.five HRP.out.g _ _ _ _ _⟩
set_option maxRecDepth 100000 in
set_option maxHeartbeats 1000000 in
theorem cut_any (u : ByteArray) (hs : u.size ≤ 140737488351232) (i : Nat) (hi : i < u.size) (w : World) (hE : Lxe w) : Calls Tryz.prog 10 #[.string u, .int .i64 i] w fun e w' => ∃ x, Tk StR (u.data.toList.drop i) x ∧ e = .returned (cutV i x) ∧ G w w' := by
  have HDP := xh (drop_at (x_get u i hi))
  have HRP := xh (Rz.new w 36)
  have HE1 := xh (hE.G HRP.out.g)
  have hiI : (i : Int) < (u.size : Int) := by omega
  have HL := xh (rL u[i])
  have HD := xh (rDg u[i])
  clear hE
  cases hA : xA u[i] with
  | true =>
    rw [hA] at HL
    have H39 : Hid (¬ u[i].toNat = 39) := fun h => by simp [xA, h] at hA
    have HA := xh hA
    clear hA
    go_enter Tryz.func10, Tryz.ntmps10
    go_wp2_with (first
        | (go_at_call 23; refine (HL.out _).mono ?_; rintro e w1 ⟨rfl, rfl⟩)
        | (go_at_call 25; refine (HD.out _).mono ?_; rintro e w1 ⟨rfl, rfl⟩)
        | (go_at_call 24; refine Hid.out ?_)
        | fail)
    unfold Hid
    generalize w.alloc (.cells #[I 0, .string E0, I 0, I 0, I 0, I 0] 36) = wb at HRP HE1 ⊢
    refine (rrun_any u (by omega) i (by omega) _ HE1.out).mono ?_
    rintro e w2 ⟨rfl, hg⟩
    have HT : Hid (Tk StR (u.data.toList.drop i) (nmT (u.data.toList.drop i))) := by
      have := tk_n (Q := StR) (c := u[i]) (u.data.toList.drop (i + 1)) H39.out
      rw [← HDP.out] at this
      unfold tkN at this
      rw [HA.out, if_pos rfl] at this
      exact this
    generalize nmT (u.data.toList.drop i) = x at HT ⊢
    have HR2 := xh (HRP.out.G hg)
    have hcr := HR2.out.c
    have hfr := HR2.out.f
    clear hg HRP
    cases x with
    | bad c o =>
      simp only [cutV]
      generalize hio : ((i + o : Nat) : Int) = io
      have HIO := xh hio
      clear hio
      go_wp2
      refine bodyPost_ret (v := .agg #[I 0, .string E0, I 0, I 0, I c, I io]) (by simp [results, Tryz.results10, go_sem, hcr]) rfl ⟨_, HT.out, ?_, G.six HR2.out.g _ _ _ _ _ _⟩
      simp only [cutV]; rw [HIO.out]
    | tok k t m =>
      simp only [cutV]
      go_wp2
      refine bodyPost_ret (v := .agg #[I k, .string t, I i, I m, I 0, I 0]) (by simp [results, Tryz.results10, go_sem, hcr]) rfl ⟨_, HT.out, rfl, G.six HR2.out.g _ _ _ _ _ _⟩
  | false =>
    rw [hA] at HL
    have HA := xh hA
    clear hA
    cases hDD : xD u[i] with
    | true =>
      rw [hDD] at HD
      have H39 : Hid (¬ u[i].toNat = 39) := fun h => by simp [xD, h] at hDD
      have HX := xh hDD
      clear hDD
      go_enter Tryz.func10, Tryz.ntmps10
      go_wp2_with (first
          | (go_at_call 23; refine (HL.out _).mono ?_; rintro e w1 ⟨rfl, rfl⟩)
          | (go_at_call 25; refine (HD.out _).mono ?_; rintro e w1 ⟨rfl, rfl⟩)
          | (go_at_call 26; refine Hid.out ?_)
          | fail)
      unfold Hid
      generalize w.alloc (.cells #[I 0, .string E0, I 0, I 0, I 0, I 0] 36) = wb at HRP HE1 ⊢
      refine (rnum_any u (by omega) i (by omega) _).mono ?_
      rintro e w2 ⟨rfl, hg⟩
      have HT : Hid (Tk StR (u.data.toList.drop i) (nuT (u.data.toList.drop i))) := by
        have := tk_n (Q := StR) (c := u[i]) (u.data.toList.drop (i + 1)) H39.out
        rw [← HDP.out] at this
        unfold tkN at this
        rw [HA.out, HX.out, if_neg (by decide), if_pos rfl] at this
        exact this
      generalize nuT (u.data.toList.drop i) = x at HT ⊢
      have HR2 := xh (HRP.out.G hg)
      have hcr := HR2.out.c
      have hfr := HR2.out.f
      clear hg HRP
      cases x with
      | bad c o =>
        simp only [cutV]
        generalize hio : ((i + o : Nat) : Int) = io
        have HIO := xh hio
        clear hio
        go_wp2
        refine bodyPost_ret (v := .agg #[I 0, .string E0, I 0, I 0, I c, I io]) (by simp [results, Tryz.results10, go_sem, hcr]) rfl ⟨_, HT.out, ?_, G.six HR2.out.g _ _ _ _ _ _⟩
        simp only [cutV]; rw [HIO.out]
      | tok k t m =>
        simp only [cutV]
        go_wp2
        refine bodyPost_ret (v := .agg #[I k, .string t, I i, I m, I 0, I 0]) (by simp [results, Tryz.results10, go_sem, hcr]) rfl ⟨_, HT.out, rfl, G.six HR2.out.g _ _ _ _ _ _⟩
    | false =>
      rw [hDD] at HD
      have HX := xh hDD
      clear hDD
      by_cases hq : u[i].toNat = 39
      · have k1 : (u[i].toNat : Int) = 39 := by omega
        rw [k1] at HL HD
        have HQ := xh hq
        clear hq
        go_enter Tryz.func10, Tryz.ntmps10
        go_wp2_with (first
            | (go_at_call 23; refine (HL.out _).mono ?_; rintro e w1 ⟨rfl, rfl⟩)
            | (go_at_call 25; refine (HD.out _).mono ?_; rintro e w1 ⟨rfl, rfl⟩)
            | (go_at_call 27; refine Hid.out ?_)
            | fail)
        unfold Hid
        generalize w.alloc (.cells #[I 0, .string E0, I 0, I 0, I 0, I 0] 36) = wb at HRP HE1 ⊢
        refine (qu_any u hs i hi HQ.out _).mono ?_
        rintro e w2 ⟨x, hx, rfl, hg⟩
        have HT := xh hx
        clear hx
        have HR2 := xh (HRP.out.G hg)
        have hcr := HR2.out.c
        have hfr := HR2.out.f
        clear hg HRP
        cases x with
        | bad c o =>
          simp only [cutV]
          generalize hio : ((i + o : Nat) : Int) = io
          have HIO := xh hio
          clear hio
          go_wp2
          refine bodyPost_ret (v := .agg #[I 0, .string E0, I 0, I 0, I c, I io]) (by simp [results, Tryz.results10, go_sem, hcr]) rfl ⟨_, HT.out, ?_, G.six HR2.out.g _ _ _ _ _ _⟩
          simp only [cutV]; rw [HIO.out]
        | tok k t m =>
          simp only [cutV]
          go_wp2
          refine bodyPost_ret (v := .agg #[I k, .string t, I i, I m, I 0, I 0]) (by simp [results, Tryz.results10, go_sem, hcr]) rfl ⟨_, HT.out, rfl, G.six HR2.out.g _ _ _ _ _ _⟩
      · have k1 : ((u[i].toNat : Int) == 39) = false := beq_false_of_ne (by omega)
        have H39 := xh hq
        clear hq
        go_enter Tryz.func10, Tryz.ntmps10
        go_wp2_with (first
            | (go_at_call 23; refine (HL.out _).mono ?_; rintro e w1 ⟨rfl, rfl⟩)
            | (go_at_call 25; refine (HD.out _).mono ?_; rintro e w1 ⟨rfl, rfl⟩)
            | (go_at_call 28; refine Hid.out ?_)
            | fail)
        unfold Hid
        generalize w.alloc (.cells #[I 0, .string E0, I 0, I 0, I 0, I 0] 36) = wb at HRP HE1 ⊢
        refine (mk_any u (by omega) i hi _ HE1.out).mono ?_
        rintro e w2 ⟨rfl, hg⟩
        have HT : Hid (Tk StR (u.data.toList.drop i) (mkT u[i] (u.data.toList.drop i))) := by
          have := tk_n (Q := StR) (c := u[i]) (u.data.toList.drop (i + 1)) H39.out
          rw [← HDP.out] at this
          unfold tkN at this
          rw [HA.out, HX.out, if_neg (by decide), if_neg (by decide)] at this
          exact this
        generalize mkT u[i] (u.data.toList.drop i) = x at HT ⊢
        have HR2 := xh (HRP.out.G hg)
        have hcr := HR2.out.c
        have hfr := HR2.out.f
        clear hg HRP
        cases x with
        | bad c o =>
          simp only [cutV]
          generalize hio : ((i + o : Nat) : Int) = io
          have HIO := xh hio
          clear hio
          go_wp2
          refine bodyPost_ret (v := .agg #[I 0, .string E0, I 0, I 0, I c, I io]) (by simp [results, Tryz.results10, go_sem, hcr]) rfl ⟨_, HT.out, ?_, G.six HR2.out.g _ _ _ _ _ _⟩
          simp only [cutV]; rw [HIO.out]
        | tok k t m =>
          simp only [cutV]
          go_wp2
          refine bodyPost_ret (v := .agg #[I k, .string t, I i, I m, I 0, I 0]) (by simp [results, Tryz.results10, go_sem, hcr]) rfl ⟨_, HT.out, rfl, G.six HR2.out.g _ _ _ _ _ _⟩
end
open Go.RowKit

theorem wpList_append_run {P : Program} {w : World} {ops : Array Oper} {rest : List Oper} {o : Oper} {a : Act} {Q : Exit → Act → World → Prop} (hgd : o.guard = none) (s x : Operand) (t : TypeId)
    (ho : o.op = .call { callee := .builtin .append, args := #[s, x], argTypes := #[t, t] }) (v z : Value) (hs : a.eval s = v) (hx : a.eval x = z) {v' : Value} {w' : World} (hr : (Builtin.append_ #[t, t] o.type #[v, z]).run P w = .ok v' w')
    (h : wpList P ops Q rest (a.put o.dst v') w') : wpList P ops Q (o :: rest) a w := by
  refine wpList_plain hgd fun K hK => ?_
  unfold Oper.wp execOp
  simp only [ho, resolve, invoke, builtin, Sem.run_bind, Sem.run_pure, Result.andThen_ok, List.map_toArray, List.map_cons, List.map_nil, hs, hx, hr]
  exact hK _ _ h

theorem own_X {w w' : World} {base : Nat} {e : TypeId} {size : Nat} {v : Value} {n : Nat} {xs : List Value} (h : w.ownsRow base e size v n xs) (g : G w w') : w'.ownsRow base e size v n xs :=
  h.kept (⟨g.os, g.tape, g.output, g.size, fun k hk _ => g.block k hk⟩ : w.grownBy w' none) (by cases h2 : v.ownBlock <;> simp)
def tkC (x : Tok) : List Value := [I x.k, .string x.t, I x.p]
def tkCs (l : List Tok) : List Value := l.flatMap tkC
theorem tkCs_app (l : List Tok) (x : Tok) : tkCs (l ++ [x]) = tkCs l ++ tkC x := by simp [tkCs]
theorem own_blk {W : World} {b e k n : Nat} {v : Value} {xs : List Value} (h : W.ownsRow b e k v n xs) : ∀ g, v.ownBlock = some g → b ≤ g ∧ g < W.heap.size := by
  intro g hg
  rcases h.2 with ⟨rfl, -⟩ | ⟨g', cap, cur, rfl, hb, hh, -⟩
  · cases hg
  · simp only [Value.ownBlock, Option.some.injEq] at hg
    subst hg
    refine ⟨hb, ?_⟩
    rcases Nat.lt_or_ge g' W.heap.size with h1 | h1
    · exact h1
    · rw [Array.getElem?_eq_none h1] at hh; cases hh
theorem app_tok {w W W2 : World} {v : Value} {l : List Tok} (x : Tok) (g : G w W) (hown : W.ownsRow w.heap.size 30 3 v l.length (tkCs l)) (g2 : G W W2) (hl : l.length ≤ 5000) :
    ∃ v' W3, (Builtin.append_ #[22, 22] 22 #[v, .slice (some ⟨W2.heap.size, 0, none⟩) 1 1]).run Tryz.prog (W2.alloc (.cells #[I x.k, .string x.t, I x.p] 30)) = .ok v' W3 ∧ W3.ownsRow w.heap.size 30 3 v' (l ++ [x]).length (tkCs (l ++ [x])) ∧ G w W3 ∧ (∀ b, W.heap.size ≤ b → b < W2.heap.size → W3.heap[b]? = W2.heap[b]?) := by
  obtain ⟨i0, hi, hz0, hz1, hz2⟩ := info_parts (show (Tryz.prog.info? 30).map (fun i => (i.zero, i.size, i.bytes)) = some (some (.agg #[.int .i64 0, .string ByteArray.empty, .int .i64 0]), 3, 32) from by kernel_rfl)
  have g3 : G W2 (W2.alloc (.cells #[I x.k, .string x.t, I x.p] 30)) := (G.refl W2).alloc _
  have hmx : (1099511627776 : Nat) ≤ maxLen := of_decide_eq_true (by kernel_rfl)
  have hb := own_blk hown
  obtain ⟨v', W3, q1, q2, q3, -, -⟩ := run_append_own_at (P := Tryz.prog) (w := W2.alloc (.cells #[I x.k, .string x.t, I x.p] 30)) w.heap.size 22 22 30 i0 _ 3 32 Tryz.underlying22 hi hz0 hz1 hz2 rfl (by decide) v l.length (tkCs l) (own_X (own_X hown g2) g3) ⟨W2.heap.size, 0, none⟩ 1 1 (tkC x) rfl (fun j u hj => by
    have h1 : (W2.alloc (.cells #[I x.k, .string x.t, I x.p] 30)).cell? ⟨W2.heap.size, j, none⟩ = (tkC x)[j]? := by simp [tkC]
    rw [hj] at h1
    by_cases hj0 : j = 0
    · subst hj0; simpa [Addr.add] using h1
    · simpa [Addr.add, hj0] using h1) (by simp [tkC, Value.oneCell']) (by omega) (by omega) (Nat.le_trans g.size (Nat.le_trans g2.size g3.size))
  refine ⟨v', W3, q1, by rw [tkCs_app, List.length_append]; exact q2, ⟨q3.os.trans (g3.os.trans (g2.os.trans g.os)), q3.tape.trans (g3.tape.trans (g2.tape.trans g.tape)), q3.output.trans (g3.output.trans (g2.output.trans g.output)), Nat.le_trans g.size (Nat.le_trans g2.size (Nat.le_trans g3.size q3.size)), fun k hk => ?_⟩, fun b hb1 hb2 => ?_⟩
  · have a1 := Nat.lt_of_lt_of_le hk g.size
    have a2 := Nat.lt_of_lt_of_le a1 g2.size
    have a3 := Nat.lt_of_lt_of_le a2 g3.size
    rw [q3.block k a3 (fun e => by have := (hb k e.symm).1; omega), g3.block k a2, g2.block k a1, g.block k hk]
  · have a3 := Nat.lt_of_lt_of_le hb2 g3.size
    rw [q3.block b a3 (fun e => by have := (hb b e.symm).2; omega), g3.block b hb2]
/-- What Lex answers, in memory. -/
def OutV (w W : World) : Out → Value → Prop
  | .bad c p, x => x = .tuple #[.slice none 0 0, I c, I p]
  | .ok l, x => ∃ v, x = .tuple #[v, I 0, I 0] ∧ W.ownsRow w.heap.size 30 3 v l.length (tkCs l)
def LxT (Q : List UInt8 → Option ByteArray → Prop) (l : List UInt8) (o : Out) : Prop := if 4096 < l.length then o = .bad 102 0 else Lx Q l (skp l 0) o
/-- Between two tokens. -/
structure LS (Q : List UInt8 → Option ByteArray → Prop) (l : List UInt8) (w W : World) (v : Value) (j : Nat) (done : List Tok) : Prop where
  g : G w W
  own : W.ownsRow w.heap.size 30 3 v done.length (tkCs done)
  jl : j ≤ l.length
  dl : done.length ≤ j
  go : ∀ o, Lx Q l j o → Lx Q l (skp l 0) (o.app done)
theorem LS.new (Q : List UInt8 → Option ByteArray → Prop) (l : List UInt8) (w : World) : LS Q l w w (.slice none 0 0) (skp l 0) [] :=
  ⟨G.refl w, World.ownsRow_nil _ _ _ _, (skp_le l 0 (Nat.zero_le _)).2, Nat.zero_le _, fun o h => by rw [Out.app_nil]; exact h⟩
theorem LS.next {Q : List UInt8 → Option ByteArray → Prop} {l : List UInt8} {w W W3 : World} {v v' : Value} {j m : Nat} {k : Int} {t : ByteArray} {done : List Tok} (h : LS Q l w W v j done) (hl : j < l.length) (hk : Tk Q (l.drop j) (.tok k t m)) (g : G w W3) (hown : W3.ownsRow w.heap.size 30 3 v' (done ++ [(⟨k, t, j⟩ : Tok)]).length (tkCs (done ++ [⟨k, t, j⟩]))) : LS Q l w W3 v' (skp l (j + m)) (done ++ [⟨k, t, j⟩]) := by
  have h1 := tk_len hk
  rw [List.length_drop] at h1
  have h2 := skp_le l (j + m) (by omega)
  have h3 := h.dl
  refine ⟨g, hown, h2.2, by rw [List.length_append]; simp; omega, fun o ho => ?_⟩
  have h4 := h.go _ (Lx.step hk ho)
  rwa [Out.app_app] at h4
theorem tk_bad {Q : List UInt8 → Option ByteArray → Prop} {r : List UInt8} {c : Int} {o : Nat} (h : Tk Q r (.bad c o)) : c = 100 ∨ c = 102 := by
  cases r with
  | nil => exact h.elim
  | cons d r =>
    simp only [Tk] at h
    split at h
    · cases hq : qE r with
      | none => rw [hq] at h; cases h; exact .inl rfl
      | some n =>
        rw [hq] at h
        obtain ⟨x, -, h⟩ := h
        cases x with
        | none => cases h; exact .inl rfl
        | some s => cases h
    · unfold tkN nmT nuT mkT at h
      repeat' split at h
      all_goals first | (cases h; done) | (cases h; exact .inl rfl) | (cases h; exact .inr rfl)
set_option maxRecDepth 100000 in
set_option maxHeartbeats 1000000 in
theorem lex_any (u : ByteArray) (w : World) (hE : Lxe w) : Calls Tryz.prog 4 #[.string u] w fun e w' => ∃ o x, e = .returned x ∧ OutV w w' o x ∧ LxT StA u.data.toList o ∧ G w w' := by
  have hll := x_len u
  by_cases hbig : 4096 < u.size
  · have hbI : (4096 : Int) < (u.size : Int) := by omega
    have HT : Hid (LxT StA u.data.toList (.bad 102 0)) := by unfold Hid LxT; rw [hll, if_pos hbig]
    clear hbig
    go_enter Tryz.func4, Tryz.ntmps4
    go_wp2
    go_ret3
    exact ⟨.bad 102 0, _, rfl, rfl, HT.out, G.refl w⟩
  · have hbI : ¬ (4096 : Int) < (u.size : Int) := by omega
    have hsz : u.size ≤ 4096 := by omega
    have HTT : Hid (∀ o, Lx StA u.data.toList (skp u.data.toList 0) o → LxT StA u.data.toList o) := fun o h => by unfold LxT; rw [hll, if_neg hbig]; exact h
    have HE := xh hE
    have HAB0 := xh (ab_any u (by omega) 0 (by omega))
    have HL0 := xh (LS.new StA u.data.toList w)
    clear hbig hE
    go_enter Tryz.func4, Tryz.ntmps4
    go_wp2_with (first | (go_at_call 7; refine (HAB0.out _).mono ?_; rintro e w1 ⟨rfl, rfl⟩) | fail)
    go_loopw [5, 6] (fun v p W => ∃ (j : Nat) (done : List Tok), p = .int .i64 (j : Int) ∧ LS StA u.data.toList w1 W v j done) (fun _ p _ => u.size + 1 - (RowKit.intOf p).toNat)
    case atStart => exact ⟨_, [], rfl, HL0.out⟩
    case round =>
      obtain ⟨j, done, rfl, hls⟩ := hrel
      have HLS := xh hls
      have hjl := hls.jl
      rw [hll] at hjl
      have hdl := hls.dl
      clear hls HL0 HAB0
      by_cases hje : j < u.size
      · have HTA := xh (ta_any u (by omega) j hje wr (HE.out.G HLS.out.g))
        go_wp2_with (first | (go_at_call 8; refine Hid.out ?_) | fail)
        unfold Hid
        refine HTA.out.mono ?_
        rintro e w2 ⟨x, hx, rfl, hg⟩
        have HX := xh hx
        have HG2 := xh (HLS.out.g.trans hg)
        have HGA := xh hg
        clear hx hg HTA
        cases x with
        | bad c o =>
          have HF : Hid (LxT StA u.data.toList (.bad c (j + o))) := HTT.out _ (HLS.out.go _ (Lx.bad HX.out))
          have hcc := tk_bad HX.out
          simp only [tokV]
          generalize hio : ((j + o : Nat) : Int) = jo
          have HIO := xh hio
          clear hio HX HLS HTT HGA
          rcases hcc with rfl | rfl
          · go_wp2
            go_quiet (fail)
            go_wp2
            go_ret3
            exact ⟨.bad 100 (j + o), _, rfl, by show _ = Value.tuple #[.slice none 0 0, I 100, I ((j + o : Nat) : Int)]; rw [HIO.out]; rfl, HF.out, G.drewM ((HG2.out.alloc _).alloc _) _⟩
          · go_wp2
            go_quiet (fail)
            go_wp2
            go_ret3
            exact ⟨.bad 102 (j + o), _, rfl, by show _ = Value.tuple #[.slice none 0 0, I 102, I ((j + o : Nat) : Int)]; rw [HIO.out]; rfl, HF.out, G.drewM ((HG2.out.alloc _).alloc _) _⟩
        | tok k t m =>
          have htl := tk_len HX.out
          rw [List.length_drop, hll] at htl
          obtain ⟨v', W3, r1, r2, r3, r4⟩ := app_tok ⟨k, t, j⟩ HLS.out.g HLS.out.own ((HGA.out.alloc (.cells #[I k, .string t, I j] 30)).alloc (.cells #[I 0, I 0] 32)) (by omega)
          have hct : W3.cell? ⟨w2.heap.size, 0, none⟩ = some (I k) := by
            rw [World.cell?_of_block (r4 w2.heap.size HGA.out.size (by simp; omega))]
            have h1 : G (w2.alloc (.cells #[I k, .string t, I j] 30)) ((w2.alloc (.cells #[I k, .string t, I j] 30)).alloc (.cells #[I 0, I 0] 32)) := (G.refl _).alloc _
            have h2 := G.cells (b := w2.heap.size) (f := fun o => [I k, .string t, I j][o]?) h1 (fun o => by simp) (by simp) 0
            exact h2
          have HNX := xh (LS.next HLS.out (by omega) HX.out r3 r2)
          have hk7 : (k == 7) = false := beq_false_of_ne htl.2.2
          have hml : j + m ≤ u.size := by omega
          have HSK := xh (skp_le u.data.toList (j + m) (by omega))
          have HAB := xh (ab_any u (by omega) (j + m) (by omega))
          have HM1 := xh htl.1
          simp only [World.size_alloc] at r1
          have HR1 := xh r1
          simp only [tokV]
          clear r1 r2 r3 r4 htl HX HLS HTT HGA HG2
          go_wp2_with (first | (at_builtin; refine wpList_append_run rfl _ _ 22 rfl _ _ rfl rfl HR1.out ?_) | (go_at_call 7; refine (HAB.out _).mono ?_; rintro e w5 ⟨rfl, rfl⟩) | fail)
          go_roundw
          case rel => exact ⟨skp u.data.toList (j + m), done ++ [⟨k, t, j⟩], rfl, HNX.out⟩
          case measure =>
            have h1 := HSK.out
            have h2 := HM1.out
            rw [hll] at h1
            simp [RowKit.intOf]; omega
      · obtain rfl : j = u.size := by omega
        have HTA := xh (ta_end u wr (HE.out.G HLS.out.g))
        have HF : Hid (LxT StA u.data.toList (.ok (done ++ [⟨7, ⟨#[]⟩, u.size⟩]))) := HTT.out _ (HLS.out.go _ (Lx.fin (by omega)))
        go_wp2_with (first | (go_at_call 8; refine Hid.out ?_) | fail)
        unfold Hid
        refine HTA.out.mono ?_
        rintro e w2 ⟨rfl, hg⟩
        have HGA := xh hg
        clear hg HTA HTT
        obtain ⟨v', W3, r1, r2, r3, r4⟩ := app_tok ⟨7, ⟨#[]⟩, u.size⟩ HLS.out.g HLS.out.own ((HGA.out.alloc (.cells #[I 7, .string ⟨#[]⟩, I u.size] 30)).alloc (.cells #[I 0, I 0] 32)) (by omega)
        have hct : W3.cell? ⟨w2.heap.size, 0, none⟩ = some (I 7) := by
          rw [World.cell?_of_block (r4 w2.heap.size HGA.out.size (by simp; omega))]
          have h1 : G (w2.alloc (.cells #[I 7, .string ⟨#[]⟩, I u.size] 30)) ((w2.alloc (.cells #[I 7, .string ⟨#[]⟩, I u.size] 30)).alloc (.cells #[I 0, I 0] 32)) := (G.refl _).alloc _
          have h2 := G.cells (b := w2.heap.size) (f := fun o => [I 7, .string ⟨#[]⟩, I u.size][o]?) h1 (fun o => by simp) (by simp) 0
          exact h2
        simp only [World.size_alloc] at r1
        have HR1 := xh r1
        have HR2 := xh r2
        have HR3 := xh r3
        clear r1 r2 r3 r4 HLS HGA
        go_wp2_with (first | (at_builtin; refine wpList_append_run rfl _ _ 22 rfl _ _ rfl rfl HR1.out ?_) | fail)
        go_ret3
        exact ⟨.ok (done ++ [⟨7, ⟨#[]⟩, u.size⟩]), _, rfl, ⟨v', rfl, HR2.out⟩, HF.out, HR3.out⟩
end
open Go.RowKit

set_option maxRecDepth 100000 in
set_option maxHeartbeats 1000000 in
theorem rlex_any (u : ByteArray) (w : World) (hE : Lxe w) : Calls Tryz.prog 5 #[.string u] w fun e w' => ∃ o x, e = .returned x ∧ OutV w w' o x ∧ LxT StR u.data.toList o ∧ G w w' := by
  have hll := x_len u
  by_cases hbig : 4096 < u.size
  · have hbI : (4096 : Int) < (u.size : Int) := by omega
    have HT : Hid (LxT StR u.data.toList (.bad 102 0)) := by unfold Hid LxT; rw [hll, if_pos hbig]
    clear hbig
    go_enter Tryz.func5, Tryz.ntmps5
    go_wp2
    go_ret3
    exact ⟨.bad 102 0, _, rfl, rfl, HT.out, G.refl w⟩
  · have hbI : ¬ (4096 : Int) < (u.size : Int) := by omega
    have hsz : u.size ≤ 4096 := by omega
    have HTT : Hid (∀ o, Lx StR u.data.toList (skp u.data.toList 0) o → LxT StR u.data.toList o) := fun o h => by unfold LxT; rw [hll, if_neg hbig]; exact h
    have HE := xh hE
    have HAB0 := xh (rsk_any u (by omega) 0 (by omega))
    have HL0 := xh (LS.new StR u.data.toList w)
    clear hbig hE
    go_enter Tryz.func5, Tryz.ntmps5
    go_wp2_with (first | (go_at_call 9; refine (HAB0.out _).mono ?_; rintro e w1 ⟨rfl, rfl⟩) | fail)
    go_loopw [5, 6] (fun v p W => ∃ (j : Nat) (done : List Tok), p = .int .i64 (j : Int) ∧ LS StR u.data.toList w1 W v j done) (fun _ p _ => u.size + 1 - (RowKit.intOf p).toNat)
    case atStart => exact ⟨_, [], rfl, HL0.out⟩
    case round =>
      obtain ⟨j, done, rfl, hls⟩ := hrel
      have HLS := xh hls
      have hjl := hls.jl
      rw [hll] at hjl
      have hdl := hls.dl
      clear hls HL0 HAB0
      by_cases hje : j < u.size
      · have hjI : (j : Int) < (u.size : Int) := by omega
        have HTA := xh (cut_any u (by omega) j hje wr (HE.out.G HLS.out.g))
        go_wp2_with (first | (go_at_call 10; refine Hid.out ?_) | fail)
        unfold Hid
        refine HTA.out.mono ?_
        rintro e w2 ⟨x, hx, rfl, hg⟩
        have HX := xh hx
        have HG2 := xh (HLS.out.g.trans hg)
        have HGA := xh hg
        clear hx hg HTA
        cases x with
        | bad c o =>
          have HF : Hid (LxT StR u.data.toList (.bad c (j + o))) := HTT.out _ (HLS.out.go _ (Lx.bad HX.out))
          have hcc := tk_bad HX.out
          simp only [cutV]
          generalize hio : ((j + o : Nat) : Int) = jo
          have HIO := xh hio
          clear hio HX HLS HTT HGA
          rcases hcc with rfl | rfl
          · go_wp2
            go_quiet (fail)
            go_wp2
            go_ret3
            exact ⟨.bad 100 (j + o), _, rfl, by show _ = Value.tuple #[.slice none 0 0, I 100, I ((j + o : Nat) : Int)]; rw [HIO.out]; rfl, HF.out, G.drewM (HG2.out.alloc _) _⟩
          · go_wp2
            go_quiet (fail)
            go_wp2
            go_ret3
            exact ⟨.bad 102 (j + o), _, rfl, by show _ = Value.tuple #[.slice none 0 0, I 102, I ((j + o : Nat) : Int)]; rw [HIO.out]; rfl, HF.out, G.drewM (HG2.out.alloc _) _⟩
        | tok k t m =>
          have htl := tk_len HX.out
          rw [List.length_drop, hll] at htl
          obtain ⟨v', W3, r1, r2, r3, r4⟩ := app_tok ⟨k, t, j⟩ HLS.out.g HLS.out.own (HGA.out.alloc (.cells #[I k, .string t, I j, I m, I 0, I 0] 36)) (by omega)
          have hct : W3.cell? ⟨w2.heap.size, 3, none⟩ = some (I m) := by
            rw [World.cell?_of_block (r4 w2.heap.size HGA.out.size (by simp))]
            simp
          have HNX := xh (LS.next HLS.out (by omega) HX.out r3 r2)
          have hml : j + m ≤ u.size := by omega
          have HSK := xh (skp_le u.data.toList (j + m) (by omega))
          have HAB : Hid (∀ w, Calls Tryz.prog 9 #[.string u, .int .i64 ((j : Int) + (m : Int))] w fun e w' => e = .returned (.int .i64 (skp u.data.toList (j + m) : Nat)) ∧ w' = w) := fun w => by
            have := rsk_any u (by omega) (j + m) (by omega) w
            rwa [Int.natCast_add] at this
          have HM1 := xh htl.1
          simp only [World.size_alloc] at r1
          have HR1 := xh r1
          simp only [cutV]
          clear r1 r2 r3 r4 htl HX HLS HTT HGA HG2
          go_wp2_with (first | (at_builtin; refine wpList_append_run rfl _ _ 22 rfl _ _ rfl rfl HR1.out ?_) | (go_at_call 9; refine (HAB.out _).mono ?_; rintro e w5 ⟨rfl, rfl⟩) | fail)
          go_roundw
          case rel => exact ⟨skp u.data.toList (j + m), done ++ [⟨k, t, j⟩], rfl, HNX.out⟩
          case measure =>
            have h1 := HSK.out
            have h2 := HM1.out
            rw [hll] at h1
            simp [RowKit.intOf]; omega
      · obtain rfl : j = u.size := by omega
        have HF : Hid (LxT StR u.data.toList (.ok (done ++ [⟨7, ⟨#[]⟩, u.size⟩]))) := HTT.out _ (HLS.out.go _ (Lx.fin (by omega)))
        obtain ⟨v', W3, r1, r2, r3, r4⟩ := app_tok ⟨7, ⟨#[]⟩, u.size⟩ HLS.out.g HLS.out.own (G.refl _) (by omega)
        have HR1 := xh r1
        have HR2 := xh r2
        have HR3 := xh r3
        clear r1 r2 r3 r4 HLS HTT
        go_wp2_with (first | (at_builtin; refine wpList_append_run rfl _ _ 22 rfl _ _ rfl rfl HR1.out ?_) | fail)
        go_ret3
        exact ⟨.ok (done ++ [⟨7, ⟨#[]⟩, u.size⟩]), _, rfl, ⟨v', rfl, HR2.out⟩, HF.out, HR3.out⟩
theorem lxt_one {l : List UInt8} {a b : Out} (h1 : LxT StA l a) (h2 : LxT StR l b) : a = b := by
  unfold LxT at h1 h2
  split at h1
  · rename_i h
    rw [if_pos h] at h2
    exact h1.trans h2.symm
  · rename_i h
    rw [if_neg h] at h2
    exact lx_one st_one h1 h2
end
open Go.RowKit

theorem xLt {w : World} {b o : Nat} {u : Value} (h : w.cell? ⟨b, o, none⟩ = some u) : b < w.heap.size := Nat.lt_of_not_le fun hle => by
  have : w.heap[b]? = none := Array.getElem?_eq_none hle
  simp [World.cell?, this] at h
theorem neqT (k p : Int) (t : ByteArray) (w : World) : (binOp .neq 30 (.agg #[.int .i64 k, .string t, .int .i64 p]) (.agg #[.int .i64 k, .string t, .int .i64 p])).run Tryz.prog w = .ok (.bool false) w := by
  simp [go_sem]
/-- A slice of these tokens. -/
def TR (W : World) (v : Value) (l : List Tok) : Prop := (v = .slice none 0 0 ∧ l = []) ∨ ∃ g cap, v = .slice (some ⟨g, 0, none⟩) l.length cap ∧ l.length ≤ cap ∧ ∀ i x, l[i]? = some x → W.cell? ⟨g, i * 3, none⟩ = some (I x.k) ∧ W.cell? ⟨g, i * 3 + 1, none⟩ = some (.string x.t) ∧ W.cell? ⟨g, i * 3 + 2, none⟩ = some (I x.p)
theorem tkCs_at (l : List Tok) : ∀ i x, l[i]? = some x → (tkCs l)[i * 3]? = some (I x.k) ∧ (tkCs l)[i * 3 + 1]? = some (.string x.t) ∧ (tkCs l)[i * 3 + 2]? = some (I x.p) := by
  induction l with
  | nil => intro i x h; simp at h
  | cons y l ih =>
    intro i x h
    have e : tkCs (y :: l) = [I y.k, .string y.t, I y.p] ++ tkCs l := by unfold tkCs; rw [List.flatMap_cons]; rfl
    rw [e]
    cases i with
    | zero => simp at h; subst h; simp
    | succ i =>
      obtain ⟨h1, h2, h3⟩ := ih i x (by simpa using h)
      rw [List.getElem?_append_right (by simp; omega), List.getElem?_append_right (by simp; omega), List.getElem?_append_right (by simp; omega)]
      simp only [List.length_cons, List.length_nil]
      rw [show (i + 1) * 3 - (0 + 1 + 1 + 1) = i * 3 by omega, show (i + 1) * 3 + 1 - (0 + 1 + 1 + 1) = i * 3 + 1 by omega, show (i + 1) * 3 + 2 - (0 + 1 + 1 + 1) = i * 3 + 2 by omega]
      exact ⟨h1, h2, h3⟩
theorem own_TR {W : World} {b : Nat} {v : Value} {l : List Tok} (h : W.ownsRow b 30 3 v l.length (tkCs l)) : TR W v l := by
  rcases h.2 with ⟨rfl, hn⟩ | ⟨g, cap, cur, rfl, _, hh, hc, _, hs, ht⟩
  · exact .inl ⟨rfl, List.eq_nil_of_length_eq_zero hn⟩
  · refine .inr ⟨g, cap, rfl, hc, fun i x hx => ?_⟩
    obtain ⟨h1, h2, h3⟩ := tkCs_at l i x hx
    have e : ∀ j u, (tkCs l)[j]? = some u → W.cell? ⟨g, j, none⟩ = some u := fun j u hj => by
      have := h.cells (g := g) rfl j u hj
      have e2 : (⟨g, 0, none⟩ : Addr).add j = ⟨g, j, none⟩ := by
        by_cases c : j = 0
        · subst c; simp [Addr.add]
        · simp [Addr.add, c]
      rwa [e2] at this
    exact ⟨e _ _ h1, e _ _ h2, e _ _ h3⟩
theorem TR.G {W W' : World} {v : Value} {l : List Tok} (h : TR W v l) (g : G W W') : TR W' v l := by
  rcases h with h | ⟨b, cap, rfl, hc, hcell⟩
  · exact .inl h
  · exact .inr ⟨b, cap, rfl, hc, fun i x hx => by
      obtain ⟨h1, h2, h3⟩ := hcell i x hx
      exact ⟨(g.cell (xLt h1)).trans h1, (g.cell (xLt h2)).trans h2, (g.cell (xLt h3)).trans h3⟩⟩
set_option maxRecDepth 100000 in
set_option maxHeartbeats 1000000 in
theorem tokens_any (l : List Tok) (hl : l.length ≤ 100000) (v v' : Value) (w : World) (h1 : TR w v l) (h2 : TR w v' l) : Calls Tryz.prog 6 #[v, v'] w fun e w' => e = .returned (.bool true) ∧ G w w' := by
  rcases h1 with ⟨rfl, rfl⟩ | ⟨g, cap, rfl, hc, hcell⟩
  · rcases h2 with ⟨rfl, -⟩ | ⟨g', cap', rfl, hc', hcell'⟩
    · go_enter Tryz.func6, Tryz.ntmps6
      go_wp2_with fail
      go_loopw [5] (fun p W => p = .int .i64 0 ∧ W = w) (fun _ _ => 0)
      case atStart => exact ⟨rfl, rfl⟩
      case round =>
        obtain ⟨rfl, rfl⟩ := hrel
        go_wp2
        go_ret
        exact ⟨rfl, G.refl _⟩
    · clear hcell'
      go_enter Tryz.func6, Tryz.ntmps6
      go_wp2_with fail
      go_loopw [5] (fun p W => p = .int .i64 0 ∧ W = w) (fun _ _ => 0)
      case atStart => exact ⟨rfl, rfl⟩
      case round =>
        obtain ⟨rfl, rfl⟩ := hrel
        go_wp2
        go_ret
        exact ⟨rfl, G.refl _⟩
  · rcases h2 with ⟨rfl, rfl⟩ | ⟨g', cap', rfl, hc', hcell'⟩
    · clear hcell
      go_enter Tryz.func6, Tryz.ntmps6
      go_wp2_with fail
      go_loopw [5] (fun p W => p = .int .i64 0 ∧ W = w) (fun _ _ => 0)
      case atStart => exact ⟨rfl, rfl⟩
      case round =>
        obtain ⟨rfl, rfl⟩ := hrel
        go_wp2
        go_ret
        exact ⟨rfl, G.refl _⟩
    · have HC := xh hcell
      have HC' := xh hcell'
      obtain ⟨n, hn⟩ : ∃ n, n = l.length := ⟨_, rfl⟩
      rw [← hn] at hc hc' hl ⊢
      have HN := xh hn
      clear hcell hcell' hn
      go_enter Tryz.func6, Tryz.ntmps6
      go_wp2_with fail
      go_loopw [5] (fun p W => ∃ i : Nat, i ≤ n ∧ p = .int .i64 (i : Int) ∧ G w W) (fun p _ => n - (RowKit.intOf p).toNat)
      case atStart => exact ⟨0, Nat.zero_le _, rfl, G.refl _⟩
      case round =>
        obtain ⟨i, hi, rfl, hg⟩ := hrel
        have HG := xh hg
        by_cases hlt : i < n
        · obtain ⟨x, hx⟩ : ∃ x, l[i]? = some x := ⟨_, List.getElem?_eq_getElem (by rw [← HN.out]; exact hlt)⟩
          have hltI : (i : Int) < (n : Int) := by omega
          obtain ⟨a1, a2, a3⟩ := HC.out i x hx
          obtain ⟨b1, b2, b3⟩ := HC'.out i x hx
          have c1 := (hg.cell (xLt a1)).trans a1
          have c2 := (hg.cell (xLt a2)).trans a2
          have c3 := (hg.cell (xLt a3)).trans a3
          have d1 := (hg.cell (xLt b1)).trans b1
          have d2 := (hg.cell (xLt b2)).trans b2
          have d3 := (hg.cell (xLt b3)).trans b3
          have heq := neqT x.k x.p x.t
          clear a1 a2 a3 b1 b2 b3 hx hg
          go_wp2
          go_quiet (fail)
          go_wp2
          go_roundw
          case rel => exact ⟨i + 1, by omega, by go_num, G.drewM HG.out _⟩
          case measure => simp [RowKit.intOf]; omega
        · have hltI : ¬ (i : Int) < (n : Int) := by omega
          clear hg
          go_wp2
          go_ret
          exact ⟨rfl, HG.out⟩
theorem lx_len {Q : List UInt8 → Option ByteArray → Prop} {l : List UInt8} {j : Nat} {o : Out} (h : Lx Q l j o) : ∀ ts, o = .ok ts → j ≤ l.length → ts.length ≤ l.length + 1 - j := by
  induction h with
  | bad => intro ts h; cases h
  | fin h => intro ts h _; cases h; simp; omega
  | step h1 _ ih =>
    intro ts h hj
    rename_i j m k t o _
    cases o with
    | bad => cases h
    | ok ts' =>
      have hl := tk_len h1
      rw [List.length_drop] at hl
      have h2 := skp_le l (j + m) (by omega)
      have h3 := ih ts' rfl h2.2
      simp only [Out.app, Out.ok.injEq] at h
      rw [← h]
      simp
      omega
set_option maxRecDepth 100000 in
set_option maxHeartbeats 1000000 in
theorem lexes_any (u : ByteArray) (w : World) (hE : Lxe w) : Calls Tryz.prog 3 #[.string u] w fun e w' => e = .returned (.bool true) ∧ G w w' := by
  have HP := xh (lex_any u w hE)
  have HR := xh (fun W h => rlex_any u W h)
  have HE := xh hE
  clear hE
  go_enter Tryz.func3, Tryz.ntmps3
  go_wp2_with (first | (go_at_call 4; refine Hid.out ?_) | fail)
  unfold Hid
  refine HP.out.mono ?_
  rintro e w1 ⟨o, x, rfl, hv, ht, hg⟩
  have HT := xh ht
  have HG1 := xh hg
  cases o with
  | bad c p =>
    obtain rfl : x = .tuple #[.slice none 0 0, I c, I p] := hv
    clear ht hg HP
    go_wp2_with (first | (go_at_call 5; refine Hid.out ?_) | fail)
    unfold Hid
    refine (HR.out w1 (HE.out.G HG1.out)).mono ?_
    rintro e w2 ⟨o, x, rfl, hv, ht, hg⟩
    obtain rfl := lxt_one HT.out ht
    obtain rfl : x = .tuple #[.slice none 0 0, I c, I p] := hv
    have HG2 := xh (HG1.out.trans hg)
    have HTK := xh (tokens_any [] (by simp) (.slice none 0 0) (.slice none 0 0) w2 (.inl ⟨rfl, rfl⟩) (.inl ⟨rfl, rfl⟩))
    clear ht hg HT HR
    go_wp2_with (first | (go_at_call 6; refine HTK.out.mono ?_; rintro e w3 ⟨rfl, hg3⟩) | fail)
    go_ret
    exact ⟨rfl, HG2.out.trans hg3⟩
  | ok l =>
    obtain ⟨v, rfl, hrow⟩ := hv
    have HV := xh (own_TR hrow)
    have HLL : Hid (l.length ≤ 100000) := by
      have h1 := ht
      unfold LxT at h1
      split at h1
      · cases h1
      · rename_i hn
        have := lx_len h1 l rfl (skp_le _ 0 (Nat.zero_le _)).2
        unfold Hid; omega
    clear ht hg HP hrow
    go_wp2_with (first | (go_at_call 5; refine Hid.out ?_) | fail)
    unfold Hid
    refine (HR.out w1 (HE.out.G HG1.out)).mono ?_
    rintro e w2 ⟨o, x, rfl, hv, ht, hg⟩
    obtain rfl := lxt_one HT.out ht
    obtain ⟨v', rfl, hrow⟩ := hv
    have HG2 := xh (HG1.out.trans hg)
    have HTK := xh (tokens_any l HLL.out v v' w2 (HV.out.G hg) (own_TR hrow))
    clear ht hg HT HR hrow HV
    go_wp2_with (first | (go_at_call 6; refine HTK.out.mono ?_; rintro e w3 ⟨rfl, hg3⟩) | fail)
    go_ret
    exact ⟨rfl, HG2.out.trans hg3⟩
end Go.Proofs.YthgpegldlcfolaaGreatDoor
