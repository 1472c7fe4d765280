/- The law. -/
import Derived.Test.YtonhocmjecgfbaaGreatDoorRd14
namespace Go.Proofs.YtonhocmjecgfbaaGreatDoor
section
section
open Go.RowKit Go.Lib

theorem tkCs_at : ∀ (ts : List Tok) (j : Nat) (x : Tok), ts[j]? = some x → ∀ d v, (tkC x)[d]? = some v → (tkCs ts)[j * 3 + d]? = some v
  | [], j, x, h, _, _, _ => by simp at h
  | y :: ts, 0, x, h, d, v, hv => by
    simp at h; subst h
    have hd : d < (tkC y).length := (List.getElem?_eq_some_iff.1 hv).1
    show (tkC y ++ tkCs ts)[0 * 3 + d]? = some v
    rw [Nat.zero_mul, Nat.zero_add, List.getElem?_append_left hd]
    exact hv
  | y :: ts, j + 1, x, h, d, v, hv => by
    have h2 := tkCs_at ts j x (by simpa using h) d v hv
    show (tkC y ++ tkCs ts)[(j + 1) * 3 + d]? = some v
    rw [List.getElem?_append_right (by simp [tkC]; omega), show (j + 1) * 3 + d - (tkC y).length = j * 3 + d by simp [tkC]; omega]
    exact h2
theorem lex_ok {u : ByteArray} {ts : List Tok} {w0 : World} (hE : Lxe w0) (hs : u.size ≤ 4096) (h0 : 0 < ts.length) (hL : Lx (fun _ _ => False) u.data.toList (skp u.data.toList 0) (.ok ts)) : LexOk u ts w0 := fun W g0 => by
  refine (lex_any u W (hE.G g0)).mono ?_
  rintro e w' ⟨o, x, rfl, hv, hl, hg⟩
  have hll : u.data.toList.length = u.size := by rw [Array.length_toList]; rfl
  unfold LxT at hl
  rw [hll, if_neg (by omega)] at hl
  have e := lx_one (Q := fun _ _ => False) (fun _ _ _ h _ => h.elim) hL hl
  subst e
  obtain ⟨v, rfl, hown⟩ := hv
  rcases hown.2 with ⟨-, hn⟩ | ⟨g, cap, cur, rfl, hb, hcu, hc1, -, -, htk⟩
  · omega
  · refine ⟨g, cap, rfl, hc1, fun j x hx => ?_, hb, hg⟩
    have hce : ∀ d v, (tkC x)[d]? = some v → w'.cell? ⟨g, j * 3 + d, none⟩ = some v := fun d v hv => by
      have h2 := tkCs_at ts j x hx d v hv
      rw [← htk, List.getElem?_take] at h2
      split at h2
      · simp [World.cell?, hcu]
        simpa using h2
      · cases h2
    exact ⟨hce 0 _ rfl, hce 1 _ rfl, hce 2 _ rfl⟩
theorem lex_bad {u : ByteArray} {c : Int} {p : Nat} {w0 : World} (hE : Lxe w0) (hs : u.size ≤ 4096) (hL : Lx (fun _ _ => False) u.data.toList (skp u.data.toList 0) (.bad c p)) : LexBad u c p w0 := fun W g0 => by
  refine (lex_any u W (hE.G g0)).mono ?_
  rintro e w' ⟨o, x, rfl, hv, hl, hg⟩
  have hll : u.data.toList.length = u.size := by rw [Array.length_toList]; rfl
  unfold LxT at hl
  rw [hll, if_neg (by omega)] at hl
  have e := lx_one (Q := fun _ _ => False) (fun _ _ _ h _ => h.elim) hL hl
  subst e
  rw [show x = _ from hv]
  exact ⟨rfl, hg⟩
/-- No blank, no comment begins here. -/
def Gd (d : List UInt8) : Prop := d = [] ∨ ∃ c r, d = c :: r ∧ xB c = false ∧ c.toNat ≠ 47
theorem Gd.z {d : List UInt8} (h : Gd d) : skN false d = 0 := by
  rcases h with rfl | ⟨c, r, rfl, h1, h2⟩
  · rfl
  · simp [skN, h1, h2]
theorem Gd.s {d : List UInt8} (h : Gd d) : skN false (32 :: d) = 1 := by
  have : xB 32 = true := by decide
  simp [skN, this, h.z]
abbrev NQ : List UInt8 → Option ByteArray → Prop := fun _ _ => False
theorem lx_go {l tk bl d : List UInt8} {j m : Nat} {k : Int} {t : ByteArray} {o : Out} (hd : l.drop j = tk ++ (bl ++ d)) (hm : tk.length = m) (ht : Tk NQ (tk ++ (bl ++ d)) (.tok k t m)) (hb : skN false (bl ++ d) = bl.length) (hn : l.drop (j + m + bl.length) = d → Lx NQ l (j + m + bl.length) o) : Lx NQ l j (o.app [⟨k, t, j⟩]) := by
  subst hm
  have h1 : l.drop (j + tk.length) = bl ++ d := by rw [← List.drop_drop, hd]; simp
  refine Lx.step (m := tk.length) (by rw [hd]; exact ht) ?_
  unfold skp
  rw [h1, hb]
  exact hn (by rw [← List.drop_drop, h1]; simp)
theorem spn_app {p : UInt8 → Bool} : ∀ (ds r : List UInt8), (∀ c ∈ ds, p c = true) → (∀ c, r[0]? = some c → p c = false) → spn p (ds ++ r) = ds.length
  | [], r, _, h => by
    cases r with
    | nil => rfl
    | cons c r => simp [spn, h c rfl]
  | d :: ds, r, h, h2 => by
    have := spn_app ds r (fun c hc => h c (List.mem_cons_of_mem _ hc)) h2
    unfold spn at this ⊢
    simp only [List.cons_append, List.takeWhile_cons, h d (List.mem_cons_self ..), if_true, List.length_cons, this]
theorem xD_not {c : UInt8} (h : xD c = true) : ¬ c.toNat = 39 ∧ xA c = false ∧ xB c = false ∧ c.toNat ≠ 47 ∧ c.toNat ≠ 45 := by
  simp [xD] at h
  refine ⟨by omega, by simp [xA]; omega, by simp [xB]; omega, by omega, by omega⟩
theorem xD_W {c : UInt8} (h : xD c = true) : xW c = true := by simp [xW, h]
theorem Gd.ds {ds : List UInt8} (h : isDs ds) (hn : ds ≠ []) (r : List UInt8) : Gd (ds ++ r) := by
  cases ds with
  | nil => exact absurd rfl hn
  | cons c ds =>
    have hc := xD_not (h c (List.mem_cons_self ..))
    exact .inr ⟨c, ds ++ r, rfl, hc.2.2.1, hc.2.2.2.1⟩
theorem tk_num {ds r : List UInt8} (hd : isDs ds) (hn : ds ≠ []) (hN : decN ds ≤ 9223372036854775808) (hr : r = [] ∨ ∃ t, r = 32 :: t) : Tk NQ (ds ++ r) (.tok 3 (sU ds) ds.length) := by
  have hs : spn xD (ds ++ r) = ds.length := spn_app ds r hd (fun c hc => by
    rcases hr with rfl | ⟨t, rfl⟩
    · simp at hc
    · simp at hc; subst hc; decide)
  have hat : (ds ++ r)[ds.length]? = r[0]? := by rw [List.getElem?_append_right (Nat.le_refl _), Nat.sub_self]
  have htk : (ds ++ r).take ds.length = ds := by simp
  have him : imB (ds ++ r) = false := by
    unfold imB
    rw [hs, hat]
    rcases hr with rfl | ⟨t, rfl⟩
    · rfl
    · simp
  have hnu : nuT (ds ++ r) = .tok 3 (sU ds) ds.length := by
    unfold nuT
    rw [him, hs, htk, hat]
    rw [if_neg (by decide), if_neg (by omega), if_neg (by
      rcases hr with rfl | ⟨t, rfl⟩
      · simp
      · have : xA 32 = false := by decide
        simp [this])]
  cases ds with
  | nil => exact absurd rfl hn
  | cons c ds =>
    have hx := hd c (List.mem_cons_self ..)
    have hc := xD_not hx
    show (if c.toNat = 39 then _ else _)
    rw [if_neg hc.1]
    show _ = tkN c (c :: (ds ++ r))
    unfold tkN
    rw [hc.2.1, hx, if_neg (by decide), if_pos rfl]
    exact hnu.symm
theorem tk_im {ds : List UInt8} (hd : isDs ds) (hn : ds ≠ []) : Tk NQ (ds ++ [105]) (if 33554432 < decN ds then .bad 102 0 else .tok 4 (sU (ds ++ [105])) (ds.length + 1)) := by
  have hs : spn xD (ds ++ [105]) = ds.length := spn_app ds [105] hd (fun c hc => by simp at hc; subst hc; decide)
  have hat : (ds ++ [105])[ds.length]? = some 105 := by simp
  have ha2 : (ds ++ [105])[ds.length + 1]? = none := by simp
  have htk : (ds ++ [105]).take ds.length = ds := by simp
  have htk2 : (ds ++ [105]).take (ds.length + 1) = ds ++ [105] := List.take_of_length_le (by simp)
  have him : imB (ds ++ [105]) = true := by
    unfold imB
    rw [hs, hat, ha2]
    rfl
  have hnu : nuT (ds ++ [105]) = if 33554432 < decN ds then .bad 102 0 else .tok 4 (sU (ds ++ [105])) (ds.length + 1) := by
    unfold nuT
    rw [him, hs, htk, htk2, if_pos rfl]
  cases ds with
  | nil => exact absurd rfl hn
  | cons c ds =>
    have hx := hd c (List.mem_cons_self ..)
    have hc := xD_not hx
    show (if c.toNat = 39 then _ else _)
    rw [if_neg hc.1]
    show _ = tkN c (c :: (ds ++ [105]))
    unfold tkN
    rw [hc.2.1, hx, if_neg (show ¬ (false = true) by decide), if_pos rfl]
    exact hnu.symm
theorem tk_minus (r : List UInt8) : Tk NQ ([45] ++ r) (.tok 6 (sU [45]) 1) := by
  have h2 : mk2 (45 :: r) = false := by
    cases r with
    | nil => rfl
    | cons d r => simp [mk2]
  show _ = tkN 45 (45 :: r)
  unfold tkN mkT
  rw [h2]
  rfl
theorem tk_word (wd r : List UInt8) (hw : ∀ c ∈ wd, xW c = true) (hh : wd.head?.any xA = true) (hl : wd.length ≤ 8) (hb : wdB wd = true) : Tk NQ (wd ++ 32 :: r) (.tok 2 (sU wd) wd.length) := by
  have hs : spn xW (wd ++ 32 :: r) = wd.length := spn_app wd (32 :: r) hw (fun c hc => by simp at hc; subst hc; decide)
  have htk : (wd ++ 32 :: r).take wd.length = wd := by simp
  have hnm : nmT (wd ++ 32 :: r) = .tok 2 (sU wd) wd.length := by
    unfold nmT
    rw [hs, htk, if_neg (by omega), hb, if_pos rfl]
  cases wd with
  | nil => cases hh
  | cons c wd =>
    have hc : xA c = true := by simpa using hh
    have h39 : ¬ c.toNat = 39 := by simp [xA] at hc; omega
    show (if c.toNat = 39 then _ else _)
    rw [if_neg h39]
    show _ = tkN c (c :: (wd ++ 32 :: r))
    unfold tkN
    rw [hc, if_pos rfl]
    exact hnm.symm
theorem skp_0 {l : List UInt8} (h : Gd l) : skp l 0 = 0 := by unfold skp; rw [List.drop_zero, h.z]
abbrev tE (p : Nat) : Tok := ⟨7, ⟨#[]⟩, p⟩
abbrev tN (ds : List UInt8) (p : Nat) : Tok := ⟨3, sU ds, p⟩
abbrev tM (p : Nat) : Tok := ⟨6, sU [45], p⟩
abbrev tI (ds : List UInt8) (p : Nat) : Tok := ⟨4, sU (ds ++ [105]), p⟩
theorem lx_num_end {l ds : List UInt8} {j : Nat} (hd : isDs ds) (hn : ds ≠ []) (hN : decN ds ≤ 9223372036854775808) (h : l.drop j = ds) : Lx NQ l j (.ok [tN ds j, tE (j + ds.length)]) := by
  have h1 := lx_go (l := l) (tk := ds) (bl := []) (d := []) (j := j) (m := ds.length) (o := .ok [tE (j + ds.length + 0)]) (by simpa using h) rfl (tk_num hd hn hN (.inl rfl)) rfl (fun hq => Lx.fin (List.drop_eq_nil_iff.1 hq))
  exact h1
theorem lx_im_end {l ds : List UInt8} {j : Nat} (hd : isDs ds) (hn : ds ≠ []) (h : l.drop j = ds ++ [105]) : Lx NQ l j (if 33554432 < decN ds then .bad 102 j else .ok [tI ds j, tE (j + (ds.length + 1))]) := by
  have ht := tk_im hd hn
  by_cases hc : 33554432 < decN ds
  · rw [if_pos hc] at ht ⊢
    exact Lx.bad (o := 0) (by rw [h]; exact ht)
  · rw [if_neg hc] at ht ⊢
    have h1 := lx_go (l := l) (tk := ds ++ [105]) (bl := []) (d := []) (j := j) (m := ds.length + 1) (o := .ok [tE (j + (ds.length + 1) + 0)]) (by simpa using h) (by simp) (by simpa using ht) rfl (fun hq => Lx.fin (List.drop_eq_nil_iff.1 hq))
    exact h1
theorem lx_minus {l r : List UInt8} {j : Nat} {o : Out} (hg : Gd r) (h : l.drop j = 45 :: r) (hn : l.drop (j + 1) = r → Lx NQ l (j + 1) o) : Lx NQ l j (o.app [tM j]) :=
  lx_go (l := l) (tk := [45]) (bl := []) (d := r) (j := j) (m := 1) (by simpa using h) rfl (tk_minus _) hg.z hn
theorem lx_num_sp {l ds r : List UInt8} {j : Nat} {o : Out} (hd : isDs ds) (hn : ds ≠ []) (hN : decN ds ≤ 9223372036854775808) (hg : Gd r) (h : l.drop j = ds ++ 32 :: r) (hx : l.drop (j + ds.length + 1) = r → Lx NQ l (j + ds.length + 1) o) : Lx NQ l j (o.app [tN ds j]) :=
  lx_go (l := l) (tk := ds) (bl := [32]) (d := r) (j := j) (m := ds.length) h rfl (tk_num hd hn hN (.inr ⟨_, rfl⟩)) hg.s hx
theorem lx_word {l r : List UInt8} {j : Nat} {o : Out} (wd : List UInt8) (hw : ∀ c ∈ wd, xW c = true) (hh : wd.head?.any xA = true) (hl : wd.length ≤ 8) (hb : wdB wd = true) (hg : Gd r) (h : l.drop j = wd ++ 32 :: r) (hx : l.drop (j + wd.length + 1) = r → Lx NQ l (j + wd.length + 1) o) : Lx NQ l j (o.app [⟨2, sU wd, j⟩]) :=
  lx_go (l := l) (tk := wd) (bl := [32]) (d := r) (j := j) (m := wd.length) h rfl (tk_word wd r hw hh hl hb) hg.s hx
theorem decN_snoc (l : List UInt8) (c : UInt8) : decN (l ++ [c]) = decN l * 10 + (c.toNat - 48) := by unfold decN; rw [List.foldl_append]; rfl
theorem decN_dec (u : Nat) : decN (decDigits u) = u := by
  induction u using Nat.strongRecOn with
  | _ u ih =>
    rw [decDigits]
    by_cases h : u < 10
    · rw [dif_pos h]
      have := decN_snoc [] (UInt8.ofNat (48 + u))
      rw [List.nil_append, dig_nat u h] at this
      rw [this, show decN [] = 0 from rfl]; omega
    · rw [dif_neg h, decN_snoc, ih (u / 10) (by omega), dig_nat (u % 10) (by omega)]; omega
theorem decD_len : ∀ (k u : Nat), u < 10 ^ (k + 1) → (decDigits u).length ≤ k + 1
  | 0, u, h => by
    rw [decDigits, dif_pos (by simpa using h)]; simp
  | k + 1, u, h => by
    rw [decDigits]
    by_cases c : u < 10
    · rw [dif_pos c]; simp
    · rw [dif_neg c, List.length_append]
      have := decD_len k (u / 10) (by rw [Nat.pow_succ] at h; omega)
      simp; omega
def dsN (z u : Nat) : List UInt8 := List.replicate z 48 ++ decDigits u
theorem dsN_ds (z u : Nat) : isDs (dsN z u) := fun c hc => by
  unfold dsN at hc
  rcases List.mem_append.1 hc with h | h
  · rw [(List.mem_replicate.1 h).2]; decide
  · have := decD_digit u c h
    simp [xD]; omega
theorem dsN_ne (z u : Nat) : dsN z u ≠ [] := fun h => decD_ne u (List.append_eq_nil_iff.1 h).2
theorem decN_48 (l : List UInt8) : decN (48 :: l) = decN l := rfl
theorem dsN_N (z u : Nat) : decN (dsN z u) = u := by
  induction z with
  | zero => exact decN_dec u
  | succ z ih => exact (decN_48 _).trans ih
theorem dsN_len {z u : Nat} (hz : z ≤ 60) (hu : u ≤ 9223372036854775808) : (dsN z u).length ≤ 80 := by
  have := decD_len 19 u (by omega)
  unfold dsN; rw [List.length_append, List.length_replicate]; omega
end
open Go.RowKit Go.Lib

theorem seB_w (a b : List UInt8) (k : Int) (p : Nat) (h : (a == b) = false) : seB ⟨k, sU a, p⟩ ⟨b.toArray⟩ = false := by
  show ((_ || _) && ((sU a).toList == (sU b).toList)) = false
  rw [s_eq, sU_list, h, Bool.and_false]
theorem seB_t (a : List UInt8) (k : Int) (p : Nat) (hk : (k == 2 || k == 6) = true) : seB ⟨k, sU a, p⟩ ⟨a.toArray⟩ = true := by
  show ((k == 2 || k == 6) && ((sU a).toList == (sU a).toList)) = true
  rw [hk, beq_self_eq_true]; rfl
theorem seB_all (a : List UInt8) (k : Int) (p : Nat) (bs : List (List UInt8)) (h : (bs.all fun b => !(a == b)) = true) : ∀ t ∈ bs.map (fun b => (⟨b.toArray⟩ : ByteArray)), seB ⟨k, sU a, p⟩ t = false := fun t ht => by
  obtain ⟨b, hb, rfl⟩ := List.mem_map.1 ht
  exact seB_w a b k p (by simpa using List.all_eq_true.1 h b hb)
theorem stop_w (a : List UInt8) (p : Nat) (h : (opsL.all fun e => !(a == e.1)) = true) (h1 : (a == [105, 115]) = false) (h2 : (a == [105, 110]) = false) : StopT ⟨2, sU a, p⟩ :=
  ⟨fun rank k t r b hk _ => seB_w a t 2 p (by simpa using List.all_eq_true.1 h _ (List.mem_of_getElem? hk)), seB_w a _ 2 p h1, seB_w a _ 2 p h2⟩
theorem stop_e (p : Nat) : StopT (tE p) := ⟨fun _ _ _ _ _ _ _ => seB_num (.inr (.inr rfl)) _, seB_num (.inr (.inr rfl)) _, seB_num (.inr (.inr rfl)) _⟩
theorem OpV.G {w W : World} (h : OpV w) (g : G w W) : OpV W := var_G g h
theorem pe_ok {u : ByteArray} {ts : List Tok} {w : World} (hE : Lxe w) (hO : OpV w) (hs : u.size ≤ 4096) (hL : Lx NQ u.data.toList (skp u.data.toList 0) (.ok ts)) {k a b : Int} {m : Nat} (ho : OpT ts 0 k a b m) {x : Tok} (hx : ts[m]? = some x) (hk : x.k = 7) (h5 : ts.length ≤ 5000) :
    Calls Tryz.prog 5 #[.string u] w fun e W' => e = .returned (.tuple #[litE k a b E0, I 0, I 0]) ∧ G w W' := by
  have hl : 0 < ts.length := by have := (List.getElem?_eq_some_iff.1 hx).1; omega
  have hst : StopT x := ⟨fun _ _ _ _ _ _ _ => seB_num (.inr (.inr hk)) _, seB_num (.inr (.inr hk)) _, seB_num (.inr (.inr hk)) _⟩
  exact pe_of 1 k a b 0 0 (fun W g => caught_ok g (lex_ok hE hs hl hL) hl h5 hx hk (fun rb g W hr h g0 => by
    have := whole_num hO hr ho (x := x) (by rw [Nat.zero_add]; exact hx) hst h g0
    rwa [Nat.zero_add] at this))
theorem pe_bad {u : ByteArray} {w : World} {c : Int} {p : Nat} (hc : ¬ c = 0) (hE : Lxe w) (hs : u.size ≤ 4096) (hL : Lx NQ u.data.toList (skp u.data.toList 0) (.bad c p)) :
    Calls Tryz.prog 5 #[.string u] w fun e W' => e = .returned (.tuple #[.agg #[I 0, I 0, I 0, I 0, I 0, .string E0, .string E0, .string E0, .bool false, .slice none 0 0], I c, I p]) ∧ G w W' :=
  pe_of 0 0 0 0 c p (fun _ g => caught_bad hc g (lex_bad hE hs hL) _)
theorem numT {ds : List UInt8} (p : Nat) (hd : isDs ds) (hn : ds ≠ []) (hl : ds.length ≤ 4096) (hN : decN ds ≤ 9223372036854775808) : NumT (tN ds p) := by
  have hz : (sU ds).size = ds.length := by simp [sU, ByteArray.size]
  refine ⟨rfl, by show isDs (sU ds).data.toList; rw [sU_list]; exact hd, ?_, by show (sU ds).size ≤ _; omega, by show decN (sU ds).data.toList ≤ _; rw [sU_list]; exact hN⟩
  show 0 < (sU ds).size
  have : ds.length ≠ 0 := fun e => hn (List.eq_nil_of_length_eq_zero e)
  omega
theorem imT {ds : List UInt8} (p : Nat) (hd : isDs ds) (hn : ds ≠ []) (hl : ds.length ≤ 4000) (hN : decN ds ≤ 33554432) : ImT (tI ds p) ds :=
  ⟨rfl, sU_list _, hd, hn, by show (sU (ds ++ [105])).size ≤ _; simp [sU, ByteArray.size]; omega, hN⟩
theorem px_pos {ds : List UInt8} {w : World} (hE : Lxe w) (hO : OpV w) (hd : isDs ds) (hn : ds ≠ []) (hl : ds.length ≤ 80) (hN : decN ds ≤ 9223372036854775807) : Calls Tryz.prog 5 #[.string (sU ds)] w fun e W' => e = .returned (.tuple #[litE 2 (decN ds : Nat) 0 E0, I 0, I 0]) ∧ G w W' := by
  have ho := OpT.num (ts := [tN ds 0, tE (0 + ds.length)]) (i := 0) rfl (numT 0 hd hn (by omega) (by omega)) (by rw [sU_list]; exact hN)
  rw [sU_list] at ho
  refine pe_ok hE hO (by rw [sU_size]; omega) ?_ ho rfl rfl (by simp)
  rw [sU_list, skp_0 (by simpa using Gd.ds hd hn [])]
  exact lx_num_end hd hn (by omega) rfl
theorem px_neg {ds : List UInt8} {w : World} (hE : Lxe w) (hO : OpV w) (hd : isDs ds) (hn : ds ≠ []) (hl : ds.length ≤ 80) (hN : decN ds ≤ 9223372036854775808) : Calls Tryz.prog 5 #[.string (sU (45 :: ds))] w fun e W' => e = .returned (.tuple #[litE 2 (-(decN ds : Nat)) 0 E0, I 0, I 0]) ∧ G w W' := by
  have ho := OpT.neg (ts := [tM 0, tN ds (0 + 1), tE (0 + 1 + ds.length)]) (i := 0) rfl (seB_t [45] 6 0 rfl) rfl (numT (0 + 1) hd hn (by omega) (by omega))
  rw [sU_list] at ho
  refine pe_ok hE hO (by rw [sU_size, List.length_cons]; omega) ?_ ho rfl rfl (by simp)
  rw [sU_list, skp_0 (.inr ⟨45, ds, rfl, by decide, by decide⟩)]
  exact lx_minus (o := .ok [tN ds (0 + 1), tE (0 + 1 + ds.length)]) (by simpa using Gd.ds hd hn []) rfl (fun h => lx_num_end hd hn hN h)
theorem py_pos {ds : List UInt8} {w : World} (hE : Lxe w) (hO : OpV w) (hd : isDs ds) (hn : ds ≠ []) (hl : ds.length ≤ 80) (hN : decN ds ≤ 33554432) : Calls Tryz.prog 5 #[.string (sU (ds ++ [105]))] w fun e W' => e = .returned (.tuple #[litE 3 0 (decN ds : Nat) E0, I 0, I 0]) ∧ G w W' := by
  have ho := OpT.img (ts := [tI ds 0, tE (0 + (ds.length + 1))]) (i := 0) rfl (imT 0 hd hn (by omega) hN)
  refine pe_ok hE hO (by rw [sU_size, List.length_append]; simp; omega) ?_ ho rfl rfl (by simp)
  rw [sU_list, skp_0 (Gd.ds hd hn _)]
  have h := lx_im_end (l := ds ++ [105]) (j := 0) hd hn rfl
  rwa [if_neg (by omega)] at h
theorem py_neg {ds : List UInt8} {w : World} (hE : Lxe w) (hO : OpV w) (hd : isDs ds) (hn : ds ≠ []) (hl : ds.length ≤ 80) (hN : decN ds ≤ 33554432) : Calls Tryz.prog 5 #[.string (sU (45 :: (ds ++ [105])))] w fun e W' => e = .returned (.tuple #[litE 3 0 (-(decN ds : Nat)) E0, I 0, I 0]) ∧ G w W' := by
  have ho := OpT.ngi (ts := [tM 0, tI ds (0 + 1), tE (0 + 1 + (ds.length + 1))]) (i := 0) rfl (seB_t [45] 6 0 rfl) rfl (imT (0 + 1) hd hn (by omega) hN)
  refine pe_ok hE hO (by rw [sU_size, List.length_cons, List.length_append]; simp; omega) ?_ ho rfl rfl (by simp)
  rw [sU_list, skp_0 (.inr ⟨45, _, rfl, by decide, by decide⟩)]
  exact lx_minus (o := .ok [tI ds (0 + 1), tE (0 + 1 + (ds.length + 1))]) (Gd.ds hd hn _) rfl (fun h => by
    have h := lx_im_end (j := 0 + 1) hd hn h
    rwa [if_neg (by omega)] at h)
theorem py_long {ds : List UInt8} {w : World} (hE : Lxe w) (hd : isDs ds) (hn : ds ≠ []) (hl : ds.length ≤ 80) (hN : 33554432 < decN ds) : Calls Tryz.prog 5 #[.string (sU (ds ++ [105]))] w fun e W' => e = .returned (.tuple #[.agg #[I 0, I 0, I 0, I 0, I 0, .string E0, .string E0, .string E0, .bool false, .slice none 0 0], I 102, I (0 : Nat)]) ∧ G w W' := by
  refine pe_bad (by decide) hE (by rw [sU_size, List.length_append]; simp; omega) ?_
  rw [sU_list, skp_0 (Gd.ds hd hn _)]
  have h := lx_im_end (l := ds ++ [105]) (j := 0) hd hn rfl
  rwa [if_pos (by omega)] at h
theorem pz_long {ds : List UInt8} {w : World} (hE : Lxe w) (hd : isDs ds) (hn : ds ≠ []) (hl : ds.length ≤ 80) (hN : 33554432 < decN ds) : Calls Tryz.prog 5 #[.string (sU (45 :: (ds ++ [105])))] w fun e W' => e = .returned (.tuple #[.agg #[I 0, I 0, I 0, I 0, I 0, .string E0, .string E0, .string E0, .bool false, .slice none 0 0], I 102, I (1 : Nat)]) ∧ G w W' := by
  refine pe_bad (by decide) hE (by rw [sU_size, List.length_cons, List.length_append]; simp; omega) ?_
  rw [sU_list, skp_0 (.inr ⟨45, _, rfl, by decide, by decide⟩)]
  exact lx_minus (o := .bad 102 (0 + 1)) (Gd.ds hd hn _) rfl (fun h => by
    have h := lx_im_end (j := 0 + 1) hd hn h
    rwa [if_pos (by omega)] at h)
def qT (a b : List UInt8) : List UInt8 := [114, 101, 116, 117, 114, 110] ++ 32 :: ([49] ++ 32 :: ([115, 107, 105, 112] ++ 32 :: (a ++ 32 :: ([108, 105, 109, 105, 116] ++ 32 :: b))))
theorem one_ds : isDs [49] := fun c hc => by simp at hc; subst hc; decide
theorem Gd.w (c : UInt8) (r : List UInt8) (h : (xB c || decide (c.toNat = 47)) = false) : Gd (c :: r) := .inr ⟨c, r, rfl, by simp at h; exact h.1, by simp at h; exact h.2⟩
theorem lx_pos {ds : List UInt8} (hd : isDs ds) (hn : ds ≠ []) (hN : decN ds ≤ 9223372036854775808) : ∃ p4 p5 p6, Lx NQ (qT ds ds) 0 (.ok [⟨2, sU [114, 101, 116, 117, 114, 110], 0⟩, tN [49] 7, ⟨2, sU [115, 107, 105, 112], 9⟩, tN ds 14, ⟨2, sU [108, 105, 109, 105, 116], p4⟩, tN ds p5, tE p6]) := by
  have hg : Gd ds := by simpa using Gd.ds hd hn []
  refine ⟨14 + ds.length + 1, 14 + ds.length + 1 + 5 + 1, 14 + ds.length + 1 + 5 + 1 + ds.length, ?_⟩
  exact lx_word [114, 101, 116, 117, 114, 110] (by decide) (by decide) (by decide) (by decide) (o := .ok [tN [49] 7, ⟨2, sU [115, 107, 105, 112], 9⟩, tN ds 14, ⟨2, sU [108, 105, 109, 105, 116], _⟩, tN ds _, tE _]) (Gd.w 49 _ (by decide)) rfl fun h1 =>
    lx_num_sp (j := 7) (o := .ok [⟨2, sU [115, 107, 105, 112], 9⟩, tN ds 14, ⟨2, sU [108, 105, 109, 105, 116], _⟩, tN ds _, tE _]) one_ds (by decide) (by decide) (Gd.w 115 _ (by decide)) h1 fun h2 =>
    lx_word (j := 9) [115, 107, 105, 112] (by decide) (by decide) (by decide) (by decide) (o := .ok [tN ds 14, ⟨2, sU [108, 105, 109, 105, 116], _⟩, tN ds _, tE _]) (Gd.ds hd hn _) h2 fun h3 =>
    lx_num_sp (j := 14) (o := .ok [⟨2, sU [108, 105, 109, 105, 116], _⟩, tN ds _, tE _]) hd hn hN (Gd.w 108 _ (by decide)) h3 fun h4 =>
    lx_word (j := 14 + ds.length + 1) [108, 105, 109, 105, 116] (by decide) (by decide) (by decide) (by decide) (o := .ok [tN ds _, tE _]) hg h4 fun h5 =>
    lx_num_end hd hn hN h5
theorem lx_neg {ds : List UInt8} (hd : isDs ds) (hn : ds ≠ []) (hN : decN ds ≤ 9223372036854775808) : ∃ p4 p5 p6 p7, Lx NQ (qT (45 :: ds) (45 :: ds)) 0 (.ok [⟨2, sU [114, 101, 116, 117, 114, 110], 0⟩, tN [49] 7, ⟨2, sU [115, 107, 105, 112], 9⟩, tM 14, tN ds 15, ⟨2, sU [108, 105, 109, 105, 116], p4⟩, tM p5, tN ds p6, tE p7]) := by
  have hg : Gd ds := by simpa using Gd.ds hd hn []
  refine ⟨15 + ds.length + 1, 15 + ds.length + 1 + 5 + 1, 15 + ds.length + 1 + 5 + 1 + 1, 15 + ds.length + 1 + 5 + 1 + 1 + ds.length, ?_⟩
  exact lx_word [114, 101, 116, 117, 114, 110] (by decide) (by decide) (by decide) (by decide) (o := .ok [tN [49] 7, ⟨2, sU [115, 107, 105, 112], 9⟩, tM 14, tN ds 15, ⟨2, sU [108, 105, 109, 105, 116], _⟩, tM _, tN ds _, tE _]) (Gd.w 49 _ (by decide)) rfl fun h1 =>
    lx_num_sp (j := 7) (o := .ok [⟨2, sU [115, 107, 105, 112], 9⟩, tM 14, tN ds 15, ⟨2, sU [108, 105, 109, 105, 116], _⟩, tM _, tN ds _, tE _]) one_ds (by decide) (by decide) (Gd.w 115 _ (by decide)) h1 fun h2 =>
    lx_word (j := 9) [115, 107, 105, 112] (by decide) (by decide) (by decide) (by decide) (o := .ok [tM 14, tN ds 15, ⟨2, sU [108, 105, 109, 105, 116], _⟩, tM _, tN ds _, tE _]) (Gd.w 45 _ (by decide)) h2 fun h3 =>
    lx_minus (j := 14) (o := .ok [tN ds 15, ⟨2, sU [108, 105, 109, 105, 116], _⟩, tM _, tN ds _, tE _]) (Gd.ds hd hn _) h3 fun h3b =>
    lx_num_sp (j := 15) (o := .ok [⟨2, sU [108, 105, 109, 105, 116], _⟩, tM _, tN ds _, tE _]) hd hn hN (Gd.w 108 _ (by decide)) h3b fun h4 =>
    lx_word (j := 15 + ds.length + 1) [108, 105, 109, 105, 116] (by decide) (by decide) (by decide) (by decide) (o := .ok [tM _, tN ds _, tE _]) (Gd.w 45 _ (by decide)) h4 fun h5 =>
    lx_minus (o := .ok [tN ds _, tE _]) hg h5 fun h6 =>
    lx_num_end hd hn hN h6
theorem qT_len (a b : List UInt8) : (qT a b).length = a.length + b.length + 21 := by simp [qT]; omega
theorem pp_pos {ds : List UInt8} {w : World} (hE : Lxe w) (hO : OpV w) (hd : isDs ds) (hn : ds ≠ []) (hl : ds.length ≤ 80) (hN : decN ds ≤ 9223372036854775807) : Calls Tryz.prog 7 #[.string (sU (qT ds ds))] w fun e W' => (∃ pb cap, e = .returned (.tuple #[.agg #[.slice (some ⟨pb, 0, none⟩) 1 cap], I 0, I 0]) ∧ PtM pb (decN ds : Nat) (decN ds : Nat) W' ∧ w.heap.size + 1 ≤ pb ∧ 1 ≤ cap) ∧ G w W' := by
  obtain ⟨p4, p5, p6, hL⟩ := lx_pos hd hn (by omega)
  have ho : OpT ([⟨2, sU [114, 101, 116, 117, 114, 110], 0⟩, tN [49] 7, ⟨2, sU [115, 107, 105, 112], 9⟩, tN ds 14, ⟨2, sU [108, 105, 109, 105, 116], p4⟩, tN ds p5, tE p6] : List Tok) 1 2 (decN (tN [49] 7).t.data.toList : Nat) 0 1 := OpT.num rfl (numT 7 one_ds (by decide) (by decide) (by decide)) (by rw [sU_list]; decide)
  have hst : StopT ⟨2, sU [115, 107, 105, 112], 9⟩ := stop_w [115, 107, 105, 112] 9 (by decide) (by decide) (by decide)
  have n49 : NumT (tN [49] 7) := numT 7 one_ds (by decide) (by decide) (by decide)
  have m49 : decN (tN [49] 7).t.data.toList ≤ 9223372036854775807 := by rw [sU_list]; decide
  have HL : ∀ (rb g : Nat), w.heap.size ≤ rb → ∀ W, Rd rb g [⟨2, sU [114, 101, 116, 117, 114, 110], 0⟩, tN [49] 7, ⟨2, sU [115, 107, 105, 112], 9⟩, tN ds 14, ⟨2, sU [108, 105, 109, 105, 116], p4⟩, tN ds p5, tE p6] 1 W → G w W → Calls Tryz.prog 81 #[ptr rb, .slice none 0 0, .int .i64 12, .func (.func 82) #[] #[], .func (.func 46) #[] #[]] W fun e W' => (∃ gb cap, e = .returned (.slice (some ⟨gb, 0, none⟩) 1 cap)) ∧ Rd rb g [⟨2, sU [114, 101, 116, 117, 114, 110], 0⟩, tN [49] 7, ⟨2, sU [115, 107, 105, 112], 9⟩, tN ds 14, ⟨2, sU [108, 105, 109, 105, 116], p4⟩, tN ds p5, tE p6] 2 W' ∧ Qr rb W W' := fun rb g hr W h g0 =>
    list_num h g0 rfl n49 m49 (j := 2) rfl (seB_w [115, 107, 105, 112] [44] 2 9 (by decide)) hr fun W h g0 => item_num h g0 (j := 2) rfl (seB_w [115, 107, 105, 112] [97, 115] 2 9 (by decide)) fun W h g0 => whole_num hO hr ho (x := ⟨2, sU [115, 107, 105, 112], 9⟩) rfl hst h g0
  have nT : ∀ p, NumT (tN ds p) := fun p => numT p hd hn (by omega) (by omega)
  have mT : ∀ p, decN (tN ds p).t.data.toList ≤ 9223372036854775807 := fun p => by rw [sU_list]; exact hN
  have HW : ∀ rb g W, w.heap.size ≤ rb → Rd rb g [⟨2, sU [114, 101, 116, 117, 114, 110], 0⟩, tN [49] 7, ⟨2, sU [115, 107, 105, 112], 9⟩, tN ds 14, ⟨2, sU [108, 105, 109, 105, 116], p4⟩, tN ds p5, tE p6] 0 W → G w W → Calls Tryz.prog 12 #[ptr rb] W fun e W' => (∃ pb cap, e = .returned (.agg #[.slice (some ⟨pb, 0, none⟩) 1 cap]) ∧ PtM pb (decN ds : Nat) (decN ds : Nat) W' ∧ W.heap.size ≤ pb ∧ 1 ≤ cap) ∧ Rd rb g [⟨2, sU [114, 101, 116, 117, 114, 110], 0⟩, tN [49] 7, ⟨2, sU [115, 107, 105, 112], 9⟩, tN ds 14, ⟨2, sU [108, 105, 109, 105, 116], p4⟩, tN ds p5, tE p6] 6 W' ∧ Qr rb W W' := fun rb g W hr h g0 =>
    query_ok h g0 hr (j := 6) rfl (seB_w [114, 101, 116, 117, 114, 110] [119, 105, 116, 104] 2 0 (by decide)) (fun W h => part_no h rfl (seB_all [114, 101, 116, 117, 114, 110] 2 0 [[111, 112, 116, 105, 111, 110, 97, 108], [109, 97, 116, 99, 104]] (by decide)) (seB_all [114, 101, 116, 117, 114, 110] 2 0 [[99, 114, 101, 97, 116, 101], [109, 101, 114, 103, 101], [115, 101, 116], [114, 101, 109, 111, 118, 101], [100, 101, 116, 97, 99, 104], [100, 101, 108, 101, 116, 101], [97, 98, 111, 114, 116]] (by decide))) fun W h g0 =>
      lp_ok h g0 hr (j := 6) rfl (seB_t [114, 101, 116, 117, 114, 110] 2 0 rfl) (by simp) fun W h g0 => by
        have := given_ok h g0 hr (j := 2) rfl rfl (HL rb g hr) (x1 := ⟨2, sU [115, 107, 105, 112], 9⟩) (x2 := tN ds 14) (x3 := ⟨2, sU [108, 105, 109, 105, 116], p4⟩) (x4 := tN ds p5) rfl (seB_w [115, 107, 105, 112] [111, 114, 100, 101, 114] 2 9 (by decide)) (seB_t [115, 107, 105, 112] 2 9 rfl) rfl (nT 14) (mT 14) rfl (seB_t [108, 105, 109, 105, 116] 2 p4 rfl) rfl (nT p5) (mT p5) (by simp)
        rwa [sU_list] at this
  have hs : (sU (qT ds ds)).size ≤ 4096 := by rw [sU_size, qT_len]; omega
  have hlx := lex_ok (ts := [⟨2, sU [114, 101, 116, 117, 114, 110], 0⟩, tN [49] 7, ⟨2, sU [115, 107, 105, 112], 9⟩, tN ds 14, ⟨2, sU [108, 105, 109, 105, 116], p4⟩, tN ds p5, tE p6]) hE hs (by simp) (by rw [sU_list, skp_0 (show Gd (qT _ _) from Gd.w 114 _ (by decide))]; exact hL)
  exact pq_ok fun W g hz => (cauq_ok g hlx (by simp) (by simp) (j := 6) rfl rfl HW).mono (by
    rintro e w' ⟨⟨pb, cap, he, hpm, hpb, hcp⟩, hg⟩
    exact ⟨⟨pb, cap, he, hpm, by omega, hcp⟩, hg⟩)
theorem pp_neg {ds : List UInt8} {w : World} (hE : Lxe w) (hO : OpV w) (hd : isDs ds) (hn : ds ≠ []) (hl : ds.length ≤ 80) (hN : decN ds ≤ 9223372036854775808) : Calls Tryz.prog 7 #[.string (sU (qT (45 :: ds) (45 :: ds)))] w fun e W' => (∃ pp, e = .returned (.tuple #[.agg #[.slice none 0 0], I 101, I pp])) ∧ G w W' := by
  obtain ⟨p4, p5, p6, p7, hL⟩ := lx_neg hd hn hN
  have ho : OpT ([⟨2, sU [114, 101, 116, 117, 114, 110], 0⟩, tN [49] 7, ⟨2, sU [115, 107, 105, 112], 9⟩, tM 14, tN ds 15, ⟨2, sU [108, 105, 109, 105, 116], p4⟩, tM p5, tN ds p6, tE p7] : List Tok) 1 2 (decN (tN [49] 7).t.data.toList : Nat) 0 1 := OpT.num rfl (numT 7 one_ds (by decide) (by decide) (by decide)) (by rw [sU_list]; decide)
  have hst : StopT ⟨2, sU [115, 107, 105, 112], 9⟩ := stop_w [115, 107, 105, 112] 9 (by decide) (by decide) (by decide)
  have n49 : NumT (tN [49] 7) := numT 7 one_ds (by decide) (by decide) (by decide)
  have m49 : decN (tN [49] 7).t.data.toList ≤ 9223372036854775807 := by rw [sU_list]; decide
  have HL : ∀ (rb g : Nat), w.heap.size ≤ rb → ∀ W, Rd rb g [⟨2, sU [114, 101, 116, 117, 114, 110], 0⟩, tN [49] 7, ⟨2, sU [115, 107, 105, 112], 9⟩, tM 14, tN ds 15, ⟨2, sU [108, 105, 109, 105, 116], p4⟩, tM p5, tN ds p6, tE p7] 1 W → G w W → Calls Tryz.prog 81 #[ptr rb, .slice none 0 0, .int .i64 12, .func (.func 82) #[] #[], .func (.func 46) #[] #[]] W fun e W' => (∃ gb cap, e = .returned (.slice (some ⟨gb, 0, none⟩) 1 cap)) ∧ Rd rb g [⟨2, sU [114, 101, 116, 117, 114, 110], 0⟩, tN [49] 7, ⟨2, sU [115, 107, 105, 112], 9⟩, tM 14, tN ds 15, ⟨2, sU [108, 105, 109, 105, 116], p4⟩, tM p5, tN ds p6, tE p7] 2 W' ∧ Qr rb W W' := fun rb g hr W h g0 =>
    list_num h g0 rfl n49 m49 (j := 2) rfl (seB_w [115, 107, 105, 112] [44] 2 9 (by decide)) hr fun W h g0 => item_num h g0 (j := 2) rfl (seB_w [115, 107, 105, 112] [97, 115] 2 9 (by decide)) fun W h g0 => whole_num hO hr ho (x := ⟨2, sU [115, 107, 105, 112], 9⟩) rfl hst h g0
  have HW : ∀ rb g W, w.heap.size ≤ rb → Rd rb g [⟨2, sU [114, 101, 116, 117, 114, 110], 0⟩, tN [49] 7, ⟨2, sU [115, 107, 105, 112], 9⟩, tM 14, tN ds 15, ⟨2, sU [108, 105, 109, 105, 116], p4⟩, tM p5, tN ds p6, tE p7] 0 W → G w W → Calls Tryz.prog 12 #[ptr rb] W fun e W' => (∃ pp, e = .panicked [{ v := .iface 55 (.agg #[I 101, I pp]), recovered := false }]) ∧ Qr rb W W' := fun rb g W hr h g0 =>
    query_no h g0 hr rfl (seB_w [114, 101, 116, 117, 114, 110] [119, 105, 116, 104] 2 0 (by decide)) (fun W h => part_no h rfl (seB_all [114, 101, 116, 117, 114, 110] 2 0 [[111, 112, 116, 105, 111, 110, 97, 108], [109, 97, 116, 99, 104]] (by decide)) (seB_all [114, 101, 116, 117, 114, 110] 2 0 [[99, 114, 101, 97, 116, 101], [109, 101, 114, 103, 101], [115, 101, 116], [114, 101, 109, 111, 118, 101], [100, 101, 116, 97, 99, 104], [100, 101, 108, 101, 116, 101], [97, 98, 111, 114, 116]] (by decide))) fun W h g0 =>
      lp_no h g0 hr rfl (seB_t [114, 101, 116, 117, 114, 110] 2 0 rfl) (by simp) fun W h g0 =>
        given_no h g0 hr (j := 2) rfl rfl (HL rb g hr) (x1 := ⟨2, sU [115, 107, 105, 112], 9⟩) (x2 := tM 14) rfl (seB_w [115, 107, 105, 112] [111, 114, 100, 101, 114] 2 9 (by decide)) (seB_t [115, 107, 105, 112] 2 9 rfl) rfl (by decide) (by show (sU [45]).size ≤ _; rw [sU_size]; decide) hE.e (by simp)
  have hs : (sU (qT (45 :: ds) (45 :: ds))).size ≤ 4096 := by rw [sU_size, qT_len, List.length_cons]; omega
  have hlx := lex_ok (ts := [⟨2, sU [114, 101, 116, 117, 114, 110], 0⟩, tN [49] 7, ⟨2, sU [115, 107, 105, 112], 9⟩, tM 14, tN ds 15, ⟨2, sU [108, 105, 109, 105, 116], p4⟩, tM p5, tN ds p6, tE p7]) hE hs (by simp) (by rw [sU_list, skp_0 (show Gd (qT _ _) from Gd.w 114 _ (by decide))]; exact hL)
  exact pq_no fun W g _ => cauq_no g hlx (by simp) (by simp) HW
end
open Go.RowKit Go.Lib

theorem fmt_any (n : Int) (h : R64 n) (w : World) (hE : Env w) : Calls Tryz.prog 6 #[.int .i64 n, .int .i64 10] w fun e w' => e = .returned (.string (sU (itoa n))) ∧ G w w' := by
  refine (Any.strconv_FormatInt_10 Tryz.laysFormatInt n h.1 h.2 w hE.p).mono ?_
  rintro e w' ⟨rfl, k, os, rfl⟩
  exact ⟨rfl, G.grow w k os⟩
theorem z_add (l : List UInt8) : (⟨#[48]⟩ : ByteArray) ++ sU l = sU (48 :: l) := by
  apply ByteArray.ext; apply Array.ext'; simp [sU]
theorem m_add (l : List UInt8) : (⟨#[45]⟩ : ByteArray) ++ sU l = sU (45 :: l) := by
  apply ByteArray.ext; apply Array.ext'; simp [sU]
theorem e_add (l : List UInt8) : (⟨#[]⟩ : ByteArray) ++ sU l = sU l := by
  apply ByteArray.ext; apply Array.ext'; simp [sU]
theorem i_add (l : List UInt8) : sU l ++ (⟨#[105]⟩ : ByteArray) = sU (l ++ [105]) := by
  apply ByteArray.ext; apply Array.ext'; simp [sU]
theorem q_neg (l : List UInt8) : (⟨#[114, 101, 116, 117, 114, 110, 32, 49, 32, 115, 107, 105, 112, 32]⟩ : ByteArray) ++ (⟨#[45]⟩ : ByteArray) ++ sU l ++ (⟨#[32, 108, 105, 109, 105, 116, 32]⟩ : ByteArray) ++ (⟨#[45]⟩ : ByteArray) ++ sU l = sU (qT (45 :: l) (45 :: l)) := by
  apply ByteArray.ext; apply Array.ext'; simp [sU, qT]
theorem q_pos (l : List UInt8) : (⟨#[114, 101, 116, 117, 114, 110, 32, 49, 32, 115, 107, 105, 112, 32]⟩ : ByteArray) ++ (⟨#[]⟩ : ByteArray) ++ sU l ++ (⟨#[32, 108, 105, 109, 105, 116, 32]⟩ : ByteArray) ++ (⟨#[]⟩ : ByteArray) ++ sU l = sU (qT l l) := by
  apply ByteArray.ext; apply Array.ext'; simp [sU, qT]
set_option maxRecDepth 100000 in
set_option maxHeartbeats 1000000 in
theorem law_neg_short (n : Int) (Z : Nat) (hz2 : Z ≤ 60) (hn : n < 0) (hb : ¬ n < -33554432) (hR : R64 n) (w : World) (hE : Lxe w) (hO : OpV w) : Calls Tryz.prog 4 #[.int .i64 n, .int .i64 (Z : Int)] w fun e w' => e = .returned (.bool true) ∧ G w w' := by
  have HF := xh (fmt_any n hR w hE.e)
  have hit : itoa n = 45 :: decDigits n.natAbs := by unfold itoa; rw [if_pos hn]
  rw [hit] at HF
  obtain ⟨D, hD⟩ : ∃ D, D = decDigits n.natAbs := ⟨_, rfl⟩
  rw [← hD] at HF
  have HDD := xh hD
  have hln : D.length ≤ 20 := by rw [hD]; exact dec_len 19 _ (by have := hR; unfold R64 at this; omega)
  have hsz : (sU (45 :: D)).size = D.length + 1 := by rw [sU_size]; rfl
  have HCUT : Hid ((sU (45 :: D)).extract 1 (D.length + 1) = sU D) := by
    have := sU_ext (sU (45 :: D)) 1 D.length
    rw [Nat.add_comm 1 D.length, sU_list] at this
    unfold Hid
    rw [this]; simp
  have hz1 : ¬ (Z : Int) < 0 := by omega
  have hz3 : ¬ 60 < (Z : Int) := by omega
  have HEE := xh hE
  have HOO := xh hO
  have HRR := xh hR
  clear hit hD hE hO hR
  go_enter Tryz.func4, Tryz.ntmps4
  go_wp2_with (first | (go_at_call 6; refine Hid.out ?_) | fail)
  unfold Hid
  refine HF.out.mono ?_
  rintro e w1 ⟨rfl, hg⟩
  have HG1 := xh hg
  clear hg HF
  go_wp2_with fail
  have hlI : (0 : Int) ≤ (D.length : Int) := by omega
  go_region
  rw [HCUT.out]
  clear hlI
  have HG2 := xh (G.drew HG1.out)
  generalize w1.drew = w2 at HG2 ⊢
  go_wp2_with fail
  clear HCUT hsz HG1
  go_loopw [6, 7] (fun d p W' => ∃ k : Nat, k ≤ Z ∧ p = .int .i64 (k : Int) ∧ d = .string (sU (List.replicate k 48 ++ D)) ∧ W' = w2) (fun _ p _ => Z - (RowKit.intOf p).toNat)
  case atStart => exact ⟨0, by omega, rfl, rfl, rfl⟩
  case round =>
    obtain ⟨k, hk, rfl, rfl, hw⟩ := hrel
    subst hw
    by_cases hlt : k < Z
    · have hltI : (k : Int) < (Z : Int) := by omega
      have hss : (sU (List.replicate k 48 ++ D)).size ≤ 80 := by rw [sU_size, List.length_append, List.length_replicate]; omega
      go_wp2
      exact ⟨⟨k + 1, by omega, rfl, by rw [z_add]; rfl, trivial⟩, by simp [RowKit.intOf]; omega⟩
    · have hltI : ¬ (k : Int) < (Z : Int) := by omega
      obtain rfl : k = Z := by omega
      have hl2 : (List.replicate k 48 ++ D).length ≤ 80 := by rw [List.length_append, List.length_replicate]; omega
      have hds : Hid (isDs (List.replicate k 48 ++ D) ∧ List.replicate k 48 ++ D ≠ [] ∧ decN (List.replicate k 48 ++ D) = n.natAbs) := by
        rw [HDD.out]
        exact ⟨dsN_ds k _, dsN_ne k _, dsN_N k _⟩
      generalize List.replicate k 48 ++ D = L at hl2 hds ⊢
      have HL2 := xh hl2
      have hss : (sU L).size ≤ 80 := by rw [sU_size]; omega
      have hsa : ∀ x y : ByteArray, (x ++ y).size = x.size + y.size := fun x y => ByteArray.size_append
      clear hl2 HDD hln
      go_wp2_with (first | (go_at_call 5; refine Hid.out ?_) | fail)
      unfold Hid
      rw [m_add]
      have HN : Hid (decN L ≤ 9223372036854775808) := by have := HRR.out; have h2 := hds.out.2.2; unfold R64 at this; unfold Hid; omega
      refine (px_neg (HEE.out.G HG2.out) (HOO.out.G HG2.out) hds.out.1 hds.out.2.1 HL2.out HN.out).mono ?_
      rintro e w3 ⟨rfl, hg⟩
      have HG3 := xh (HG2.out.trans hg)
      have hnn : (-((decN L : Nat) : Int)) = n := by have := hds.out.2.2; omega
      rw [hnn]
      clear hg HG2 hnn
      simp only [litE]
      go_wp2_with (first | (go_at_call 5; refine Hid.out ?_) | fail)
      unfold Hid
      rw [m_add, i_add]
      have hga : G w3 (w3.alloc (.cells #[I 1, I 0, I 2, I n, I 0, .string E0, .string E0, .string E0, .bool false, .slice none 0 0] 26)) := (G.refl _).alloc _
      have HG4 := xh (HG3.out.trans hga)
      clear hga HG3
      generalize w3.alloc (.cells #[I 1, I 0, I 2, I n, I 0, .string E0, .string E0, .string E0, .bool false, .slice none 0 0] 26) = w4 at HG4 ⊢
      have HB : Hid (decN L ≤ 33554432) := by have h2 := hds.out.2.2; unfold Hid; omega
      refine (py_neg (HEE.out.G HG4.out) (HOO.out.G HG4.out) hds.out.1 hds.out.2.1 HL2.out HB.out).mono ?_
      rintro e w5 ⟨rfl, hg⟩
      have HG5 := xh (HG4.out.trans hg)
      clear hg HG4 HB
      have hnn : (-((decN L : Nat) : Int)) = n := by have := hds.out.2.2; omega
      rw [hnn]
      clear hnn
      simp only [litE]
      go_wp2_with (first | (go_at_call 7; refine Hid.out ?_) | fail)
      unfold Hid
      rw [q_neg]
      have hga : G w5 (w5.alloc (.cells #[I 1, I 0, I 3, I 0, I n, .string E0, .string E0, .string E0, .bool false, .slice none 0 0] 26)) := (G.refl _).alloc _
      have HG6 := xh (HG5.out.trans hga)
      clear hga HG5
      generalize w5.alloc (.cells #[I 1, I 0, I 3, I 0, I n, .string E0, .string E0, .string E0, .bool false, .slice none 0 0] 26) = w6 at HG6 ⊢
      refine (pp_neg (HEE.out.G HG6.out) (HOO.out.G HG6.out) hds.out.1 hds.out.2.1 HL2.out HN.out).mono ?_
      rintro e w7 ⟨⟨pp, rfl⟩, hg⟩
      have HG7 := xh (HG6.out.trans hg)
      clear hg HG6
      go_wp2
      go_ret
      exact ⟨rfl, HG7.out.alloc _⟩
set_option maxRecDepth 100000 in
set_option maxHeartbeats 1000000 in
theorem law_neg_long (n : Int) (Z : Nat) (hz2 : Z ≤ 60) (hn : n < 0) (hb : n < -33554432) (hR : R64 n) (w : World) (hE : Lxe w) (hO : OpV w) : Calls Tryz.prog 4 #[.int .i64 n, .int .i64 (Z : Int)] w fun e w' => e = .returned (.bool true) ∧ G w w' := by
  have HF := xh (fmt_any n hR w hE.e)
  have hit : itoa n = 45 :: decDigits n.natAbs := by unfold itoa; rw [if_pos hn]
  rw [hit] at HF
  obtain ⟨D, hD⟩ : ∃ D, D = decDigits n.natAbs := ⟨_, rfl⟩
  rw [← hD] at HF
  have HDD := xh hD
  have hln : D.length ≤ 20 := by rw [hD]; exact dec_len 19 _ (by have := hR; unfold R64 at this; omega)
  have hsz : (sU (45 :: D)).size = D.length + 1 := by rw [sU_size]; rfl
  have HCUT : Hid ((sU (45 :: D)).extract 1 (D.length + 1) = sU D) := by
    have := sU_ext (sU (45 :: D)) 1 D.length
    rw [Nat.add_comm 1 D.length, sU_list] at this
    unfold Hid
    rw [this]; simp
  have hz1 : ¬ (Z : Int) < 0 := by omega
  have hz3 : ¬ 60 < (Z : Int) := by omega
  have HEE := xh hE
  have HOO := xh hO
  have HRR := xh hR
  clear hit hD hE hO hR
  go_enter Tryz.func4, Tryz.ntmps4
  go_wp2_with (first | (go_at_call 6; refine Hid.out ?_) | fail)
  unfold Hid
  refine HF.out.mono ?_
  rintro e w1 ⟨rfl, hg⟩
  have HG1 := xh hg
  clear hg HF
  go_wp2_with fail
  have hlI : (0 : Int) ≤ (D.length : Int) := by omega
  go_region
  rw [HCUT.out]
  clear hlI
  have HG2 := xh (G.drew HG1.out)
  generalize w1.drew = w2 at HG2 ⊢
  go_wp2_with fail
  clear HCUT hsz HG1
  go_loopw [6, 7] (fun d p W' => ∃ k : Nat, k ≤ Z ∧ p = .int .i64 (k : Int) ∧ d = .string (sU (List.replicate k 48 ++ D)) ∧ W' = w2) (fun _ p _ => Z - (RowKit.intOf p).toNat)
  case atStart => exact ⟨0, by omega, rfl, rfl, rfl⟩
  case round =>
    obtain ⟨k, hk, rfl, rfl, hw⟩ := hrel
    subst hw
    by_cases hlt : k < Z
    · have hltI : (k : Int) < (Z : Int) := by omega
      have hss : (sU (List.replicate k 48 ++ D)).size ≤ 80 := by rw [sU_size, List.length_append, List.length_replicate]; omega
      go_wp2
      exact ⟨⟨k + 1, by omega, rfl, by rw [z_add]; rfl, trivial⟩, by simp [RowKit.intOf]; omega⟩
    · have hltI : ¬ (k : Int) < (Z : Int) := by omega
      obtain rfl : k = Z := by omega
      have hl2 : (List.replicate k 48 ++ D).length ≤ 80 := by rw [List.length_append, List.length_replicate]; omega
      have hds : Hid (isDs (List.replicate k 48 ++ D) ∧ List.replicate k 48 ++ D ≠ [] ∧ decN (List.replicate k 48 ++ D) = n.natAbs) := by
        rw [HDD.out]
        exact ⟨dsN_ds k _, dsN_ne k _, dsN_N k _⟩
      generalize List.replicate k 48 ++ D = L at hl2 hds ⊢
      have HL2 := xh hl2
      have hss : (sU L).size ≤ 80 := by rw [sU_size]; omega
      have hsa : ∀ x y : ByteArray, (x ++ y).size = x.size + y.size := fun x y => ByteArray.size_append
      clear hl2 HDD hln
      go_wp2_with (first | (go_at_call 5; refine Hid.out ?_) | fail)
      unfold Hid
      rw [m_add]
      have HN : Hid (decN L ≤ 9223372036854775808) := by have := HRR.out; have h2 := hds.out.2.2; unfold R64 at this; unfold Hid; omega
      refine (px_neg (HEE.out.G HG2.out) (HOO.out.G HG2.out) hds.out.1 hds.out.2.1 HL2.out HN.out).mono ?_
      rintro e w3 ⟨rfl, hg⟩
      have HG3 := xh (HG2.out.trans hg)
      have hnn : (-((decN L : Nat) : Int)) = n := by have := hds.out.2.2; omega
      rw [hnn]
      clear hg HG2 hnn
      simp only [litE]
      go_wp2_with (first | (go_at_call 5; refine Hid.out ?_) | fail)
      unfold Hid
      rw [m_add, i_add]
      have hga : G w3 (w3.alloc (.cells #[I 1, I 0, I 2, I n, I 0, .string E0, .string E0, .string E0, .bool false, .slice none 0 0] 26)) := (G.refl _).alloc _
      have HG4 := xh (HG3.out.trans hga)
      clear hga HG3
      generalize w3.alloc (.cells #[I 1, I 0, I 2, I n, I 0, .string E0, .string E0, .string E0, .bool false, .slice none 0 0] 26) = w4 at HG4 ⊢
      have HB : Hid (33554432 < decN L) := by have h2 := hds.out.2.2; unfold Hid; omega
      refine (pz_long (HEE.out.G HG4.out) hds.out.1 hds.out.2.1 HL2.out HB.out).mono ?_
      rintro e w5 ⟨rfl, hg⟩
      have HG5 := xh (HG4.out.trans hg)
      clear hg HG4 HB
      go_wp2_with (first | (go_at_call 7; refine Hid.out ?_) | fail)
      unfold Hid
      rw [q_neg]
      have hga : G w5 (w5.alloc (.cells #[I 0, I 0, I 0, I 0, I 0, .string E0, .string E0, .string E0, .bool false, .slice none 0 0] 26)) := (G.refl _).alloc _
      have HG6 := xh (HG5.out.trans hga)
      clear hga HG5
      generalize w5.alloc (.cells #[I 0, I 0, I 0, I 0, I 0, .string E0, .string E0, .string E0, .bool false, .slice none 0 0] 26) = w6 at HG6 ⊢
      refine (pp_neg (HEE.out.G HG6.out) (HOO.out.G HG6.out) hds.out.1 hds.out.2.1 HL2.out HN.out).mono ?_
      rintro e w7 ⟨⟨pp, rfl⟩, hg⟩
      have HG7 := xh (HG6.out.trans hg)
      clear hg HG6
      go_wp2
      go_ret
      exact ⟨rfl, HG7.out.alloc _⟩
set_option maxRecDepth 100000 in
set_option maxHeartbeats 1000000 in
theorem law_pos_short (n : Int) (Z : Nat) (hz2 : Z ≤ 60) (hn : ¬ n < 0) (hb : ¬ 33554432 < n) (hR : R64 n) (w : World) (hE : Lxe w) (hO : OpV w) : Calls Tryz.prog 4 #[.int .i64 n, .int .i64 (Z : Int)] w fun e w' => e = .returned (.bool true) ∧ G w w' := by
  have HF := xh (fmt_any n hR w hE.e)
  have hit : itoa n = decDigits n.natAbs := by unfold itoa; rw [if_neg hn]; congr 1; omega
  rw [hit] at HF
  obtain ⟨D, hD⟩ : ∃ D, D = decDigits n.natAbs := ⟨_, rfl⟩
  rw [← hD] at HF
  have HDD := xh hD
  have hln : D.length ≤ 20 := by rw [hD]; exact dec_len 19 _ (by have := hR; unfold R64 at this; omega)
  have hsz : (sU (45 :: D)).size = D.length + 1 := by rw [sU_size]; rfl
  have HCUT : Hid ((sU (45 :: D)).extract 1 (D.length + 1) = sU D) := by
    have := sU_ext (sU (45 :: D)) 1 D.length
    rw [Nat.add_comm 1 D.length, sU_list] at this
    unfold Hid
    rw [this]; simp
  have hz1 : ¬ (Z : Int) < 0 := by omega
  have hz3 : ¬ 60 < (Z : Int) := by omega
  have HEE := xh hE
  have HOO := xh hO
  have HRR := xh hR
  clear hit hD hE hO hR
  go_enter Tryz.func4, Tryz.ntmps4
  go_wp2_with (first | (go_at_call 6; refine Hid.out ?_) | fail)
  unfold Hid
  refine HF.out.mono ?_
  rintro e w1 ⟨rfl, hg⟩
  have HG1 := xh hg
  clear hg HF
  go_wp2_with fail
  have HG2 := HG1
  generalize w1 = w2 at HG2 ⊢
  clear HCUT hsz HG1
  go_loopw [6, 7] (fun d p W' => ∃ k : Nat, k ≤ Z ∧ p = .int .i64 (k : Int) ∧ d = .string (sU (List.replicate k 48 ++ D)) ∧ W' = w2) (fun _ p _ => Z - (RowKit.intOf p).toNat)
  case atStart => exact ⟨0, by omega, rfl, rfl, rfl⟩
  case round =>
    obtain ⟨k, hk, rfl, rfl, hw⟩ := hrel
    subst hw
    by_cases hlt : k < Z
    · have hltI : (k : Int) < (Z : Int) := by omega
      have hss : (sU (List.replicate k 48 ++ D)).size ≤ 80 := by rw [sU_size, List.length_append, List.length_replicate]; omega
      go_wp2
      exact ⟨⟨k + 1, by omega, rfl, by rw [z_add]; rfl, trivial⟩, by simp [RowKit.intOf]; omega⟩
    · have hltI : ¬ (k : Int) < (Z : Int) := by omega
      obtain rfl : k = Z := by omega
      have hl2 : (List.replicate k 48 ++ D).length ≤ 80 := by rw [List.length_append, List.length_replicate]; omega
      have hds : Hid (isDs (List.replicate k 48 ++ D) ∧ List.replicate k 48 ++ D ≠ [] ∧ decN (List.replicate k 48 ++ D) = n.natAbs) := by
        rw [HDD.out]
        exact ⟨dsN_ds k _, dsN_ne k _, dsN_N k _⟩
      generalize List.replicate k 48 ++ D = L at hl2 hds ⊢
      have HL2 := xh hl2
      have hss : (sU L).size ≤ 80 := by rw [sU_size]; omega
      have hsa : ∀ x y : ByteArray, (x ++ y).size = x.size + y.size := fun x y => ByteArray.size_append
      clear hl2 HDD hln
      go_wp2_with (first | (go_at_call 5; refine Hid.out ?_) | fail)
      unfold Hid
      rw [e_add]
      have HN : Hid (decN L ≤ 9223372036854775807) := by have := HRR.out; have h2 := hds.out.2.2; unfold R64 at this; unfold Hid; omega
      refine (px_pos (HEE.out.G HG2.out) (HOO.out.G HG2.out) hds.out.1 hds.out.2.1 HL2.out HN.out).mono ?_
      rintro e w3 ⟨rfl, hg⟩
      have HG3 := xh (HG2.out.trans hg)
      have hnn : ((decN L : Nat) : Int) = n := by have := hds.out.2.2; omega
      rw [hnn]
      clear hg HG2 hnn
      simp only [litE]
      go_wp2_with (first | (go_at_call 5; refine Hid.out ?_) | fail)
      unfold Hid
      rw [e_add, i_add]
      have hga : G w3 (w3.alloc (.cells #[I 1, I 0, I 2, I n, I 0, .string E0, .string E0, .string E0, .bool false, .slice none 0 0] 26)) := (G.refl _).alloc _
      have HG4 := xh (HG3.out.trans hga)
      clear hga HG3
      generalize w3.alloc (.cells #[I 1, I 0, I 2, I n, I 0, .string E0, .string E0, .string E0, .bool false, .slice none 0 0] 26) = w4 at HG4 ⊢
      have HB : Hid (decN L ≤ 33554432) := by have h2 := hds.out.2.2; unfold Hid; omega
      refine (py_pos (HEE.out.G HG4.out) (HOO.out.G HG4.out) hds.out.1 hds.out.2.1 HL2.out HB.out).mono ?_
      rintro e w5 ⟨rfl, hg⟩
      have HG5 := xh (HG4.out.trans hg)
      clear hg HG4 HB
      have hnn : ((decN L : Nat) : Int) = n := by have := hds.out.2.2; omega
      rw [hnn]
      clear hnn
      simp only [litE]
      go_wp2_with (first | (go_at_call 7; refine Hid.out ?_) | fail)
      unfold Hid
      rw [q_pos]
      have hga : G w5 (w5.alloc (.cells #[I 1, I 0, I 3, I 0, I n, .string E0, .string E0, .string E0, .bool false, .slice none 0 0] 26)) := (G.refl _).alloc _
      have HG6 := xh (HG5.out.trans hga)
      clear hga HG5
      generalize w5.alloc (.cells #[I 1, I 0, I 3, I 0, I n, .string E0, .string E0, .string E0, .bool false, .slice none 0 0] 26) = w6 at HG6 ⊢
      refine (pp_pos (HEE.out.G HG6.out) (HOO.out.G HG6.out) hds.out.1 hds.out.2.1 HL2.out HN.out).mono ?_
      rintro e w7 ⟨⟨pb, cap, rfl, hpm, hpb, hcp⟩, hg⟩
      have HG7 := xh (HG6.out.trans hg)
      have hga : G w7 (w7.alloc (.cells #[.slice (some ⟨pb, 0, none⟩) 1 cap] 34)) := (G.refl _).alloc _
      have hnn : ((decN L : Nat) : Int) = n := by have := hds.out.2.2; omega
      rw [hnn] at hpm
      have hs6 := (hpm.G hga).s
      have hs7 := (hpm.G hga).l
      have hcI : (1 : Int) ≤ (cap : Int) := by omega
      clear hg HG6 hga hnn
      go_wp2
      go_ret
      exact ⟨rfl, HG7.out.alloc _⟩
set_option maxRecDepth 100000 in
set_option maxHeartbeats 1000000 in
theorem law_pos_long (n : Int) (Z : Nat) (hz2 : Z ≤ 60) (hn : ¬ n < 0) (hb : 33554432 < n) (hR : R64 n) (w : World) (hE : Lxe w) (hO : OpV w) : Calls Tryz.prog 4 #[.int .i64 n, .int .i64 (Z : Int)] w fun e w' => e = .returned (.bool true) ∧ G w w' := by
  have HF := xh (fmt_any n hR w hE.e)
  have hit : itoa n = decDigits n.natAbs := by unfold itoa; rw [if_neg hn]; congr 1; omega
  rw [hit] at HF
  obtain ⟨D, hD⟩ : ∃ D, D = decDigits n.natAbs := ⟨_, rfl⟩
  rw [← hD] at HF
  have HDD := xh hD
  have hln : D.length ≤ 20 := by rw [hD]; exact dec_len 19 _ (by have := hR; unfold R64 at this; omega)
  have hsz : (sU (45 :: D)).size = D.length + 1 := by rw [sU_size]; rfl
  have HCUT : Hid ((sU (45 :: D)).extract 1 (D.length + 1) = sU D) := by
    have := sU_ext (sU (45 :: D)) 1 D.length
    rw [Nat.add_comm 1 D.length, sU_list] at this
    unfold Hid
    rw [this]; simp
  have hz1 : ¬ (Z : Int) < 0 := by omega
  have hz3 : ¬ 60 < (Z : Int) := by omega
  have HEE := xh hE
  have HOO := xh hO
  have HRR := xh hR
  clear hit hD hE hO hR
  go_enter Tryz.func4, Tryz.ntmps4
  go_wp2_with (first | (go_at_call 6; refine Hid.out ?_) | fail)
  unfold Hid
  refine HF.out.mono ?_
  rintro e w1 ⟨rfl, hg⟩
  have HG1 := xh hg
  clear hg HF
  go_wp2_with fail
  have HG2 := HG1
  generalize w1 = w2 at HG2 ⊢
  clear HCUT hsz HG1
  go_loopw [6, 7] (fun d p W' => ∃ k : Nat, k ≤ Z ∧ p = .int .i64 (k : Int) ∧ d = .string (sU (List.replicate k 48 ++ D)) ∧ W' = w2) (fun _ p _ => Z - (RowKit.intOf p).toNat)
  case atStart => exact ⟨0, by omega, rfl, rfl, rfl⟩
  case round =>
    obtain ⟨k, hk, rfl, rfl, hw⟩ := hrel
    subst hw
    by_cases hlt : k < Z
    · have hltI : (k : Int) < (Z : Int) := by omega
      have hss : (sU (List.replicate k 48 ++ D)).size ≤ 80 := by rw [sU_size, List.length_append, List.length_replicate]; omega
      go_wp2
      exact ⟨⟨k + 1, by omega, rfl, by rw [z_add]; rfl, trivial⟩, by simp [RowKit.intOf]; omega⟩
    · have hltI : ¬ (k : Int) < (Z : Int) := by omega
      obtain rfl : k = Z := by omega
      have hl2 : (List.replicate k 48 ++ D).length ≤ 80 := by rw [List.length_append, List.length_replicate]; omega
      have hds : Hid (isDs (List.replicate k 48 ++ D) ∧ List.replicate k 48 ++ D ≠ [] ∧ decN (List.replicate k 48 ++ D) = n.natAbs) := by
        rw [HDD.out]
        exact ⟨dsN_ds k _, dsN_ne k _, dsN_N k _⟩
      generalize List.replicate k 48 ++ D = L at hl2 hds ⊢
      have HL2 := xh hl2
      have hss : (sU L).size ≤ 80 := by rw [sU_size]; omega
      have hsa : ∀ x y : ByteArray, (x ++ y).size = x.size + y.size := fun x y => ByteArray.size_append
      clear hl2 HDD hln
      go_wp2_with (first | (go_at_call 5; refine Hid.out ?_) | fail)
      unfold Hid
      rw [e_add]
      have HN : Hid (decN L ≤ 9223372036854775807) := by have := HRR.out; have h2 := hds.out.2.2; unfold R64 at this; unfold Hid; omega
      refine (px_pos (HEE.out.G HG2.out) (HOO.out.G HG2.out) hds.out.1 hds.out.2.1 HL2.out HN.out).mono ?_
      rintro e w3 ⟨rfl, hg⟩
      have HG3 := xh (HG2.out.trans hg)
      have hnn : ((decN L : Nat) : Int) = n := by have := hds.out.2.2; omega
      rw [hnn]
      clear hg HG2 hnn
      simp only [litE]
      go_wp2_with (first | (go_at_call 5; refine Hid.out ?_) | fail)
      unfold Hid
      rw [e_add, i_add]
      have hga : G w3 (w3.alloc (.cells #[I 1, I 0, I 2, I n, I 0, .string E0, .string E0, .string E0, .bool false, .slice none 0 0] 26)) := (G.refl _).alloc _
      have HG4 := xh (HG3.out.trans hga)
      clear hga HG3
      generalize w3.alloc (.cells #[I 1, I 0, I 2, I n, I 0, .string E0, .string E0, .string E0, .bool false, .slice none 0 0] 26) = w4 at HG4 ⊢
      have HB : Hid (33554432 < decN L) := by have h2 := hds.out.2.2; unfold Hid; omega
      refine (py_long (HEE.out.G HG4.out) hds.out.1 hds.out.2.1 HL2.out HB.out).mono ?_
      rintro e w5 ⟨rfl, hg⟩
      have HG5 := xh (HG4.out.trans hg)
      clear hg HG4 HB
      go_wp2_with (first | (go_at_call 7; refine Hid.out ?_) | fail)
      unfold Hid
      rw [q_pos]
      have hga : G w5 (w5.alloc (.cells #[I 0, I 0, I 0, I 0, I 0, .string E0, .string E0, .string E0, .bool false, .slice none 0 0] 26)) := (G.refl _).alloc _
      have HG6 := xh (HG5.out.trans hga)
      clear hga HG5
      generalize w5.alloc (.cells #[I 0, I 0, I 0, I 0, I 0, .string E0, .string E0, .string E0, .bool false, .slice none 0 0] 26) = w6 at HG6 ⊢
      refine (pp_pos (HEE.out.G HG6.out) (HOO.out.G HG6.out) hds.out.1 hds.out.2.1 HL2.out HN.out).mono ?_
      rintro e w7 ⟨⟨pb, cap, rfl, hpm, hpb, hcp⟩, hg⟩
      have HG7 := xh (HG6.out.trans hg)
      have hga : G w7 (w7.alloc (.cells #[.slice (some ⟨pb, 0, none⟩) 1 cap] 34)) := (G.refl _).alloc _
      have hnn : ((decN L : Nat) : Int) = n := by have := hds.out.2.2; omega
      rw [hnn] at hpm
      have hs6 := (hpm.G hga).s
      have hs7 := (hpm.G hga).l
      have hcI : (1 : Int) ≤ (cap : Int) := by omega
      clear hg HG6 hga hnn
      go_wp2
      go_ret
      exact ⟨rfl, HG7.out.alloc _⟩
set_option maxRecDepth 100000 in
set_option maxHeartbeats 1000000 in
theorem law_under (n z : Int) (hz : z < 0) (w : World) : Calls Tryz.prog 4 #[.int .i64 n, .int .i64 z] w fun e w' => e = .returned (.bool true) ∧ G w w' := by
  skip
  go_enter Tryz.func4, Tryz.ntmps4
  go_wp2
  go_ret
  exact ⟨rfl, G.refl _⟩
set_option maxRecDepth 100000 in
set_option maxHeartbeats 1000000 in
theorem law_over (n z : Int) (hz : 60 < z) (w : World) : Calls Tryz.prog 4 #[.int .i64 n, .int .i64 z] w fun e w' => e = .returned (.bool true) ∧ G w w' := by
  have hz1 : ¬ z < 0 := by omega
  go_enter Tryz.func4, Tryz.ntmps4
  go_wp2
  go_ret
  exact ⟨rfl, G.refl _⟩
theorem numbers_any (n z : Int) (hR : R64 n) (w : World) (hE : Lxe w) (hO : OpV w) : Calls Tryz.prog 4 #[.int .i64 n, .int .i64 z] w fun e w' => e = .returned (.bool true) ∧ G w w' := by
  by_cases h1 : z < 0
  · exact law_under n z h1 w
  by_cases h2 : 60 < z
  · exact law_over n z h2 w
  obtain ⟨Z, rfl⟩ : ∃ Z : Nat, z = (Z : Int) := ⟨z.toNat, by omega⟩
  have hz : Z ≤ 60 := by omega
  by_cases hn : n < 0
  · by_cases hb : n < -33554432
    · exact law_neg_long n Z hz hn hb hR w hE hO
    · exact law_neg_short n Z hz hn hb hR w hE hO
  · by_cases hb : 33554432 < n
    · exact law_pos_long n Z hz hn hb hR w hE hO
    · exact law_pos_short n Z hz hn hb hR w hE hO
end Go.Proofs.YtonhocmjecgfbaaGreatDoor
