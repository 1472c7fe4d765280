/- Gate: Swept, Next, Picked, End. -/
import Derived.Test.YtmclbnhbioficacGg1
namespace Go.Proofs.Ytmclbnhbioficac
open Go.RowKit Go.MuLone

theorem PGx.lock {w : World} {b : Nat} {st : Int} {m : GM} {K : Nat → Prop} {vq vi v : Value} {l : List It} (h : PGx w b st m K vq vi v l) (s : Int) : PGx (w.setCell ⟨b, 0, none⟩ (.int .i32 s)) b s m K vq vi v l :=
  ⟨h.hp.field 0 _ rfl, h.q.off (h.q.ne h.hp.blk (by decide)), h.i.off (h.i.ne h.hp.blk (by decide)), h.pm, h.hi, h.kb, h.kv, h.kq, h.ki, fun k e => by simpa using h.lt k e⟩
theorem PGx.lockS {w : World} {b : Nat} {st : Int} {m : GM} {K : Nat → Prop} {vq vi v : Value} {l : List It} (h : PGx w b st m K vq vi v l) (s : Int) : Ste K w K (w.setCell ⟨b, 0, none⟩ (.int .i32 s)) := ⟨chg_setCell _ _ (.inl h.kb), fun _ q => .inl q⟩
theorem PG.lock {w : World} {b : Nat} {st : Int} {m : GM} {K : Nat → Prop} (h : PG w b st m K) (s : Int) : PG (w.setCell ⟨b, 0, none⟩ (.int .i32 s)) b s m K ∧ Ste K w K (w.setCell ⟨b, 0, none⟩ (.int .i32 s)) := by
  obtain ⟨vq, vi, v, l, h⟩ := h
  exact ⟨⟨vq, vi, v, l, h.lock s⟩, h.lockS s⟩
theorem PG.c0 {w : World} {b : Nat} {st : Int} {m : GM} {K : Nat → Prop} (h : PG w b st m K) : w.cell? ⟨b, 0, none⟩ = some (.int .i32 st) := by
  obtain ⟨vq, vi, v, l, h⟩ := h
  exact h.hp.cells 0
theorem PG.f0 {w : World} {b : Nat} {st : Int} {m : GM} {K : Nat → Prop} (h : PG w b st m K) : w.frozen? ⟨b, 0, none⟩ = false := by
  obtain ⟨vq, vi, v, l, h⟩ := h
  exact h.hp.blk.frozen 0
set_option maxRecDepth 100000 in
set_option maxHeartbeats 1000000 in
theorem swept_any (b : Nat) (m : GM) (K : Nat → Prop) (W : World) (h : PG W b 0 m K) :
    Calls Try.prog 23 #[ptr b] W fun e W' => e = .returned (.tuple #[]) ∧ ∃ K', PG W' b 0 { m with lg := 0 } K' ∧ Ste K W K' W' := by
  have c0 := h.c0
  have f0 := h.f0
  go_enter_defers Try.func23, Try.ntmps23
  go_wp2_with (first | (go_at_call 14; refine Hid.out ?_) | fail)
  unfold Hid
  refine (lock_free muLib ⟨b, 0, none⟩ _ c0 f0).mono ?_
  rintro e w0 ⟨rfl, rfl⟩
  have H1 := hide (h.lock 1)
  clear c0 f0
  generalize W.setCell ⟨b, 0, none⟩ (.int .i32 1) = w1 at H1 ⊢
  obtain ⟨⟨vq, vi, v, l, h1⟩, hs1⟩ := H1.out
  have hc : ∀ o, w1.cell? ⟨b, o, none⟩ = ([.int .i32 1, .int .u32 0, I m.mo, I m.un, I m.sp, vq, vi, I m.lg, I m.ck, v] : List Value)[o]? := h1.hp.cells
  have hz := h1.hp.blk.frozen
  have H2 : Hid (PG (w1.setCell ⟨b, 7, none⟩ (I 0)) b 1 { m with lg := 0 } K ∧ Ste K W K (w1.setCell ⟨b, 7, none⟩ (I 0))) := ⟨⟨vq, vi, v, l, h1.hp.field 7 _ rfl, h1.q.off (h1.q.ne h1.hp.blk (by decide)), h1.i.off (h1.i.ne h1.hp.blk (by decide)), h1.pm, h1.hi, h1.kb, h1.kv, h1.kq, h1.ki, fun k e => by simpa using h1.lt k e⟩, hs1.trans ⟨chg_setCell _ _ (.inl h1.kb), fun _ q => .inl q⟩⟩
  clear h1 hs1 H1 h
  go_wp2_with fail
  generalize w1.setCell ⟨b, 7, none⟩ (I 0) = w2 at H2 ⊢
  refine leaves_cons (f := 15) (args := #[.pointer (some ⟨b, 0, none⟩)]) (by simp) (by simp [go_sem]) ?_
  refine (unlock_deferred muLib ⟨b, 0, none⟩ .returning _ H2.out.1.c0 H2.out.1.f0).mono ?_
  rintro e u' w'' ⟨rfl, rfl, rfl⟩
  exact ⟨_, results_none rfl _ _ _, rfl, K, (H2.out.1.lock 0).1, H2.out.2.trans (H2.out.1.lock 0).2⟩
set_option maxRecDepth 100000 in
set_option maxHeartbeats 1000000 in
theorem next_gate (b : Nat) (m : GM) (K : Nat → Prop) (W : World) (h : PG W b 0 m K) :
    Calls Try.prog 25 #[ptr b] W fun e W' => ∃ n, e = .returned (I n) ∧ NextR m n ∧ ∃ K', PG W' b 0 m K' ∧ Ste K W K' W' := by
  have c0 := h.c0
  have f0 := h.f0
  go_enter_defers Try.func25, Try.ntmps25
  go_wp2_with (first | (go_at_call 14; refine Hid.out ?_) | fail)
  unfold Hid
  refine (lock_free muLib ⟨b, 0, none⟩ _ c0 f0).mono ?_
  rintro e w0 ⟨rfl, rfl⟩
  have H1 := hide (h.lock 1)
  clear c0 f0
  generalize W.setCell ⟨b, 0, none⟩ (.int .i32 1) = w1 at H1 ⊢
  obtain ⟨⟨vq, vi, v, l, h1⟩, hs1⟩ := H1.out
  have hl : 0 < l.length := by rw [h1.pm.length_eq]; simp [GM.all]
  have KN := hide (next_any b _ v l w1 h1.hp hl)
  have HN : Hid (NextR m l[0]!.1.1) := ⟨l[0]!, h1.pm.subset (by rw [Hp.get_of hl]; exact List.getElem_mem hl), fun y hy => h1.hi.first gr_wo y (h1.pm.symm.subset hy), rfl⟩
  have HS1 := hide hs1
  clear h1 hs1 h hl
  generalize l[0]!.1.1 = n at KN HN
  go_wp2_with fail
  refine KN.out.mono ?_
  rintro e w2 ⟨rfl, rfl⟩
  go_wp2_with fail
  refine leaves_cons (f := 15) (args := #[.pointer (some ⟨b, 0, none⟩)]) (by simp) (by simp [go_sem]) ?_
  refine (unlock_deferred muLib ⟨b, 0, none⟩ .returning _ H1.out.1.c0 H1.out.1.f0).mono ?_
  rintro e u' w'' ⟨rfl, rfl, rfl⟩
  exact ⟨_, results_tmp rfl _ _ _, n, rfl, HN.out, K, (H1.out.1.lock 0).1, HS1.out.trans (H1.out.1.lock 0).2⟩
theorem erase_perm {β : Type} [Inhabited β] (l : List β) (k : Nat) (hk : k < l.length) : l.Perm (l[k]! :: l.eraseIdx k) := by
  rw [Hp.get_of hk, List.eraseIdx_eq_take_drop_succ]
  have e : l = l.take k ++ l[k] :: l.drop (k + 1) := by rw [List.getElem_cons_drop]; exact (List.take_append_drop k l).symm
  exact (List.Perm.of_eq e).trans List.perm_middle
theorem set_perm {β : Type} [Inhabited β] (l : List β) (k : Nat) (z : β) (hk : k < l.length) : (l.set k z).Perm (z :: l.eraseIdx k) := by
  rw [List.eraseIdx_eq_take_drop_succ, List.set_eq_take_append_cons_drop, if_pos hk]
  exact List.perm_middle
theorem pick0_all (m : GM) : m.pick0.all = m.all.set 0 (m.all[0]!.1, m.ck + 1) := by simp [GM.all, GM.pick0, swp]
theorem pick_all (m : GM) (k : Nat) : (m.pick k).all = m.all.set (k + 1) (m.all[k + 1]!.1, m.ck + 1) := by simp [GM.all, GM.pick, swp]
theorem set_perm2 {β : Type} [Inhabited β] {l L : List β} (h : l.Perm L) {k j : Nat} (hk : k < l.length) (hj : j < L.length) (e : l[k]! = L[j]!) (z : β) : (l.set k z).Perm (L.set j z) := by
  have h1 := (erase_perm l k hk).symm.trans (h.trans (erase_perm L j hj))
  rw [e] at h1
  exact (set_perm l k z hk).trans ((List.Perm.cons z (List.Perm.cons_inv h1)).trans (set_perm L j z hj).symm)
/-- Where one of them stands in the heap. -/
theorem Iv.find {m : GM} (hv : Iv m) {l : List It} (hp : l.Perm m.all) {j : Nat} (hj : j < m.all.length) : ∃ k, k < l.length ∧ l[k]! = m.all[j]! ∧ ∀ i, i < k → l[i]!.1.1 ≠ m.all[j]!.1.1 := by
  have hmem : m.all[j]! ∈ l := hp.symm.subset (by rw [Hp.get_of hj]; exact List.getElem_mem hj)
  obtain ⟨k, y, hk, hy, hf⟩ := first_of (p := fun y : It => y.1.1 = m.all[j]!.1.1) ⟨_, hmem, rfl⟩
  have hkl := (List.getElem?_eq_some_iff.1 hk).1
  have hky : l[k]! = y := by simp [hk]
  refine ⟨k, hkl, ?_, fun i hi => ?_⟩
  · rw [hky]
    have hym : y ∈ m.all := hp.subset (List.mem_of_getElem? hk)
    obtain ⟨i, hi, rfl⟩ := List.getElem_of_mem hym
    have hnd : (m.all.map (·.1.1)).Nodup := by
      have h1 : (m.ids).Nodup := (List.nodup_append.1 hv.nd).1
      show (((swp m).1.1) :: m.ids).Nodup
      refine List.nodup_cons.2 ⟨fun q => ?_, h1⟩
      have := hv.ids _ (List.mem_append_left _ q)
      simp [swp] at this
    have e : i = j := by
      refine (List.getElem_inj (h₀ := by simpa using hi) (h₁ := by simpa using hj) hnd).1 ?_
      rw [Hp.get_of hj] at hy
      simpa using hy
    subst e
    rw [Hp.get_of hj]
  · have hil : i < l.length := by omega
    exact hf i l[i]! hi (Hp.get_o hil)
set_option maxRecDepth 100000 in
set_option maxHeartbeats 1000000 in
theorem picked_0 (b : Nat) (m : GM) (K : Nat → Prop) (W : World) (h : PG W b 0 m K) (hv : Iv m) (hck : m.ck < 4611686018427387904) :
    Calls Try.prog 27 #[ptr b, I 0] W fun e W' => e = .returned (I 0) ∧ ∃ K', PG W' b 0 (m.pick0) K' ∧ Ste K W K' W' := by
  have c0 := h.c0
  have f0 := h.f0
  go_enter_defers Try.func27, Try.ntmps27
  go_wp2_with (first | (go_at_call 14; refine Hid.out ?_) | fail)
  unfold Hid
  refine (lock_free muLib ⟨b, 0, none⟩ _ c0 f0).mono ?_
  rintro e w0 ⟨rfl, rfl⟩
  have H1 := hide (h.lock 1)
  clear c0 f0
  generalize W.setCell ⟨b, 0, none⟩ (.int .i32 1) = w1 at H1 ⊢
  obtain ⟨⟨vq, vi, v, l, h1⟩, hs1⟩ := H1.out
  have hcr := hv.crowd
  have hll : l.length = m.ins.length + 1 := by rw [h1.pm.length_eq]; rfl
  have hil : m.ids.length = m.ins.length := List.length_map _
  have hal : m.all.length = m.ins.length + 1 := rfl
  obtain ⟨kk, hkl, hke, hkf⟩ := hv.find h1.pm (j := 0) (by omega)
  have KP := hide (picked_any b _ v l m.all[0]!.1.1 kk w1 h1.hp hkl (by rw [hke]) hkf (by omega) hck hv.ck0)
  have HPM : Hid ((l.set kk (l[kk]!.1, m.ck + 1)).Perm (m.pick0).all) := by
    have := set_perm2 h1.pm hkl (show 0 < m.all.length by omega) hke (l[kk]!.1, m.ck + 1)
    show (l.set kk (l[kk]!.1, m.ck + 1)).Perm _
    rw [pick0_all]
    rw [hke] at this ⊢
    exact this
  have HLE : Hid (∀ y ∈ l, y.2 ≤ m.ck) := fun y hy => by
    rcases List.mem_cons.1 (h1.pm.subset hy) with rfl | q
    · exact hv.sw1
    · exact (hv.last y q).2
  have hc : ∀ o, w1.cell? ⟨b, o, none⟩ = ([.int .i32 1, .int .u32 0, I m.mo, I m.un, I m.sp, vq, vi, I m.lg, I m.ck, v] : List Value)[o]? := h1.hp.cells
  have HH := hide h1
  have HS1 := hide hs1
  have e0 : m.all[0]!.1.1 = 0 := by simp [GM.all, swp]
  rw [e0] at KP
  clear h1 hs1 h hv hck hcr hll hil hal hkl hke hkf e0
  go_wp2_with fail
  refine KP.out.mono ?_
  rintro e w2 ⟨rfl, l', hp2, hpm2, hhi2, hch2⟩
  have H2 : Hid (PG w2 b 1 (m.pick0) K ∧ Ste K W K w2) := ⟨⟨vq, vi, v, l', hp2, HH.out.q.chg hch2 (fun k hk e => HH.out.hp.offS HH.out.q (by decide) (by decide) hk e), HH.out.i.chg hch2 (fun k hk e => HH.out.hp.offS HH.out.i (by decide) (by decide) hk e), hpm2.trans HPM.out, hhi2 HH.out.hi HLE.out, HH.out.kb, HH.out.kv, HH.out.kq, HH.out.ki, fun k e => Nat.lt_of_lt_of_le (HH.out.lt k e) hch2.size⟩, HS1.out.trans ⟨hch2.mono (fun k e => e.elim (fun q => by rw [q]; exact HH.out.kb) (HH.out.kv k)), fun _ q => .inl q⟩⟩
  clear hp2 hpm2 hhi2 hch2 HH HS1 HLE HPM KP
  go_wp2_with fail
  refine leaves_cons (f := 15) (args := #[.pointer (some ⟨b, 0, none⟩)]) (by simp) (by simp [go_sem]) ?_
  refine (unlock_deferred muLib ⟨b, 0, none⟩ .returning _ H2.out.1.c0 H2.out.1.f0).mono ?_
  rintro e u' w'' ⟨rfl, rfl, rfl⟩
  exact ⟨_, results_tmp rfl _ _ _, rfl, K, (H2.out.1.lock 0).1, H2.out.2.trans (H2.out.1.lock 0).2⟩
set_option maxRecDepth 100000 in
set_option maxHeartbeats 1000000 in
theorem picked_yes (b : Nat) (m : GM) (K : Nat → Prop) (W : World) (h : PG W b 0 m K) (hv : Iv m) (hck : m.ck < 4611686018427387904) (id : Int) (k : Nat) (hk : m.ids[k]? = some id) :
    Calls Try.prog 27 #[ptr b, I id] W fun e W' => e = .returned (I 0) ∧ ∃ K', PG W' b 0 (m.pick k) K' ∧ Ste K W K' W' := by
  have c0 := h.c0
  have f0 := h.f0
  have hki : k < m.ins.length := by simpa using (List.getElem?_eq_some_iff.1 hk).1
  have hmem : id ∈ m.ids := List.mem_of_getElem? hk
  have hid0 : (id != 0) = true := bne_iff_ne.2 (by have := hv.ids id (List.mem_append_left _ hmem); omega)
  have HKI := hide hki
  go_enter_defers Try.func27, Try.ntmps27
  go_wp2_with (first | (go_at_call 14; refine Hid.out ?_) | fail)
  unfold Hid
  refine (lock_free muLib ⟨b, 0, none⟩ _ c0 f0).mono ?_
  rintro e w0 ⟨rfl, rfl⟩
  have H1 := hide (h.lock 1)
  clear c0 f0
  generalize W.setCell ⟨b, 0, none⟩ (.int .i32 1) = w1 at H1 ⊢
  obtain ⟨⟨vq, vi, v, l, h1⟩, hs1⟩ := H1.out
  have hcr := hv.crowd
  have hll : l.length = m.ins.length + 1 := by rw [h1.pm.length_eq]; rfl
  have hil : m.ids.length = m.ins.length := List.length_map _
  have hal : m.all.length = m.ins.length + 1 := rfl
  obtain ⟨kk, hkl, hke, hkf⟩ := hv.find h1.pm (j := (k + 1)) (by omega)
  have KP := hide (picked_any b _ v l m.all[(k + 1)]!.1.1 kk w1 h1.hp hkl (by rw [hke]) hkf (by omega) hck hv.ck0)
  have HPM : Hid ((l.set kk (l[kk]!.1, m.ck + 1)).Perm (m.pick k).all) := by
    have := set_perm2 h1.pm hkl (show (k + 1) < m.all.length by omega) hke (l[kk]!.1, m.ck + 1)
    show (l.set kk (l[kk]!.1, m.ck + 1)).Perm _
    rw [pick_all]
    rw [hke] at this ⊢
    exact this
  have HLE : Hid (∀ y ∈ l, y.2 ≤ m.ck) := fun y hy => by
    rcases List.mem_cons.1 (h1.pm.subset hy) with rfl | q
    · exact hv.sw1
    · exact (hv.last y q).2
  have hc : ∀ o, w1.cell? ⟨b, o, none⟩ = ([.int .i32 1, .int .u32 0, I m.mo, I m.un, I m.sp, vq, vi, I m.lg, I m.ck, v] : List Value)[o]? := h1.hp.cells
  have HH := hide h1
  have HS1 := hide hs1
  have e0 : m.all[k + 1]!.1.1 = id := by
    have e1 : m.ins[k]? = some m.ins[k]! := Hp.get_o hki
    rw [List.getElem?_map, e1] at hk
    have e2 : m.all[k + 1]! = m.ins[k]! := by simp [GM.all]
    rw [e2]
    exact Option.some.inj hk
  rw [e0] at KP
  have KC := hide (contains_any m.ids vi id w1 h1.i (by omega))
  rw [decide_eq_true hmem] at KC
  clear h1 hs1 h hv hck hcr hll hil hal hkl hke hkf e0 hk hki hmem
  go_wp2_with (first | (go_at_call 42; refine KC.out.mono ?_; rintro e w9 ⟨rfl, rfl⟩) | (go_at_call 43; refine Hid.out ?_) | fail)
  unfold Hid
  refine KP.out.mono ?_
  rintro e w2 ⟨rfl, l', hp2, hpm2, hhi2, hch2⟩
  have H2 : Hid (PG w2 b 1 (m.pick k) K ∧ Ste K W K w2) := ⟨⟨vq, vi, v, l', hp2, HH.out.q.chg hch2 (fun k hk e => HH.out.hp.offS HH.out.q (by decide) (by decide) hk e), (show (m.pick k).ids = m.ids from set_map _ _ _ _ rfl HKI.out) ▸ HH.out.i.chg hch2 (fun k hk e => HH.out.hp.offS HH.out.i (by decide) (by decide) hk e), hpm2.trans HPM.out, hhi2 HH.out.hi HLE.out, HH.out.kb, HH.out.kv, HH.out.kq, HH.out.ki, fun k e => Nat.lt_of_lt_of_le (HH.out.lt k e) hch2.size⟩, HS1.out.trans ⟨hch2.mono (fun k e => e.elim (fun q => by rw [q]; exact HH.out.kb) (HH.out.kv k)), fun _ q => .inl q⟩⟩
  clear hp2 hpm2 hhi2 hch2 HH HS1 HLE HPM KP
  go_wp2_with fail
  refine leaves_cons (f := 15) (args := #[.pointer (some ⟨b, 0, none⟩)]) (by simp) (by simp [go_sem]) ?_
  refine (unlock_deferred muLib ⟨b, 0, none⟩ .returning _ H2.out.1.c0 H2.out.1.f0).mono ?_
  rintro e u' w'' ⟨rfl, rfl, rfl⟩
  exact ⟨_, results_tmp rfl _ _ _, rfl, K, (H2.out.1.lock 0).1, H2.out.2.trans (H2.out.1.lock 0).2⟩
set_option maxRecDepth 100000 in
set_option maxHeartbeats 1000000 in
theorem picked_no (b : Nat) (m : GM) (K : Nat → Prop) (W : World) (h : PG W b 0 m K) (hv : Iv m) (id : Int) (h0 : id ≠ 0) (hk : id ∉ m.ids) :
    Calls Try.prog 27 #[ptr b, I id] W fun e W' => e = .returned (I 152) ∧ ∃ K', PG W' b 0 m K' ∧ Ste K W K' W' := by
  have c0 := h.c0
  have f0 := h.f0
  have hid0 : (id != 0) = true := bne_iff_ne.2 h0
  go_enter_defers Try.func27, Try.ntmps27
  go_wp2_with (first | (go_at_call 14; refine Hid.out ?_) | fail)
  unfold Hid
  refine (lock_free muLib ⟨b, 0, none⟩ _ c0 f0).mono ?_
  rintro e w0 ⟨rfl, rfl⟩
  have H1 := hide (h.lock 1)
  clear c0 f0
  generalize W.setCell ⟨b, 0, none⟩ (.int .i32 1) = w1 at H1 ⊢
  obtain ⟨⟨vq, vi, v, l, h1⟩, hs1⟩ := H1.out
  have hcr := hv.crowd
  have hil : m.ids.length = m.ins.length := List.length_map _
  have hc : ∀ o, w1.cell? ⟨b, o, none⟩ = ([.int .i32 1, .int .u32 0, I m.mo, I m.un, I m.sp, vq, vi, I m.lg, I m.ck, v] : List Value)[o]? := h1.hp.cells
  have KC := hide (contains_any m.ids vi id w1 h1.i (by omega))
  rw [decide_eq_false hk] at KC
  have HS1 := hide hs1
  clear h1 hs1 h hv hcr hil hk h0
  go_wp2_with (first | (go_at_call 42; refine KC.out.mono ?_; rintro e w9 ⟨rfl, rfl⟩) | fail)
  refine leaves_cons (f := 15) (args := #[.pointer (some ⟨b, 0, none⟩)]) (by simp) (by simp [go_sem]) ?_
  refine (unlock_deferred muLib ⟨b, 0, none⟩ .returning _ H1.out.1.c0 H1.out.1.f0).mono ?_
  rintro e u' w'' ⟨rfl, rfl, rfl⟩
  exact ⟨_, results_tmp rfl _ _ _, rfl, K, (H1.out.1.lock 0).1, HS1.out.trans (H1.out.1.lock 0).2⟩
end Go.Proofs.Ytmclbnhbioficac
