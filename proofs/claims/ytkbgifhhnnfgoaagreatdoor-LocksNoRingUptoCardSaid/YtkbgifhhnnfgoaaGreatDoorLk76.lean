/- Locks: the book's script. -/
import Derived.Test.YtkbgifhhnnfgoaaGreatDoorLk75
namespace Go.Proofs.YtkbgifhhnnfgoaaGreatDoor
open Go.RowKit

/-- A step of a script. -/
structure Lo where
  kd : Int
  who : Int
  x : Int
  st : Int
  r : Rs
  md : Int
def Lo.c (o : Lo) : List Value := [I o.kd, I o.who, I o.x, I o.st, I o.r.lv, .string o.r.lb, I o.r.id, I o.md]
/-- A script that came in. -/
def OpsL (w : World) (b off N : Nat) (X : Nat → Lo) : Prop := ∀ i, i < N → ∀ j, j < 8 → w.cell? ⟨b, off + i * 8 + j, none⟩ = (X i).c[j]?
def ScL (w : World) (v : Value) (N : Nat) (X : Nat → Lo) : Prop := ∃ a cap, v = .slice a N cap ∧ (N = 0 ∨ ∃ b off, a = some ⟨b, off, none⟩ ∧ OpsL w b off N X)
theorem cell_lt' {w : World} {b o : Nat} {v : Value} (h : w.cell? ⟨b, o, none⟩ = some v) : b < w.heap.size := by
  by_cases hb : b < w.heap.size
  · exact hb
  · have : w.heap[b]? = none := by simp; omega
    simp [World.cell?, this] at h
theorem OpsL.G {w w' : World} {b off N : Nat} {X : Nat → Lo} (h : OpsL w b off N X) (g : Go.Proofs.YtkbgifhhnnfgoaaGreatDoor.G w w') : OpsL w' b off N X := fun i hi j hj => by
  have h1 := h i hi j hj
  have h2 : ∃ v, (X i).c[j]? = some v := ⟨_, List.getElem?_eq_getElem (by simp [Lo.c]; omega)⟩
  obtain ⟨v, hv⟩ := h2
  rw [g.cell (cell_lt' (h1.trans hv))]; exact h1
theorem OpsL.at {w : World} {b off N : Nat} {X : Nat → Lo} (h : OpsL w b off N X) {i : Nat} (hi : i < N) : w.cell? ⟨b, off + i * 8, none⟩ = some (I (X i).kd) ∧ w.cell? ⟨b, off + i * 8 + 1, none⟩ = some (I (X i).who) ∧ w.cell? ⟨b, off + i * 8 + 2, none⟩ = some (I (X i).x) ∧ w.cell? ⟨b, off + i * 8 + 3, none⟩ = some (I (X i).st) ∧ w.cell? ⟨b, off + i * 8 + 4, none⟩ = some (I (X i).r.lv) ∧ w.cell? ⟨b, off + i * 8 + 5, none⟩ = some (.string (X i).r.lb) ∧ w.cell? ⟨b, off + i * 8 + 6, none⟩ = some (I (X i).r.id) ∧ w.cell? ⟨b, off + i * 8 + 7, none⟩ = some (I (X i).md) :=
  ⟨h i hi 0 (by omega), h i hi 1 (by omega), h i hi 2 (by omega), h i hi 3 (by omega), h i hi 4 (by omega), h i hi 5 (by omega), h i hi 6 (by omega), h i hi 7 (by omega)⟩
/-- A step, whatever it is. -/
theorem steps_all {W0 w : World} {b t lo : Nat} {s : Gs} {m : Ms} {live : List (Int × Int)} {res : List Rs} {va vr : Value} {L : List Int} {LR : List Rs} (h : Ld W0 w b t lo s m live res va vr L LR) (hbk : Bk m live) (kd who x st : Int) (r : Rs) (mode : Int) (hx : R64 x) (hxl : x ∈ L) (hrm : r ∈ LR) (hro : r.ok) (hL : L.length < 2000000000000) (hLR : LR.length < 2000000000000) (hrl : res.length + 1 < 2000000000000) (hll : live.length + 1 < 2000000000000) :
    Calls Tryz.prog 10 #[ptr b, .agg #[I kd, I who, I x, I st, I r.lv, .string r.lb, I r.id, I mode]] w (StepQ W0 b t lo live.length res.length L LR) := by
  by_cases h1 : kd = 1
  · subst h1; exact steps_begin h hbk who x st r mode hx hxl hL hll
  · by_cases h2 : kd = 2
    · exact steps_ask h hbk kd who x st r mode h2 hrm hro hL hLR hrl hll
    · by_cases h3 : kd = 3
      · exact steps_end h hbk kd who x st r mode h3 hL hLR hrl hll
      · exact steps_other h hbk kd who x st r mode h1 h2 h3 hL hLR hrl hll
/-- An empty table. -/
def m0 : Ms := ⟨fun _ => none, fun _ => []⟩
theorem iv_m0 (L : List Int) (LR : List Rs) : Iv m0 L LR :=
  ⟨fun _ _ h => (by cases h), fun _ _ _ _ h => (by cases h), fun _ => List.nodup_nil, fun _ _ _ => ⟨fun h => (by cases h), fun ⟨_, h, _⟩ => (by cases h)⟩, fun _ _ _ _ h => (by cases h), fun _ _ _ _ _ h => (by cases h), fun _ _ _ _ h => absurd rfl h⟩
theorem bk_m0 : Bk m0 [] := ⟨List.nodup_nil, fun _ _ => ⟨fun h => (by cases h), fun ⟨_, h, _⟩ => (by cases h)⟩⟩
/-- The law's beginning. -/
theorem ld_new {W w2 w3 : World} {t : Nat} {s : Gs} (L : List Int) (LR : List Rs) (hT : TT w2 t s) (hl : ∀ x, s.lv x = none) (hp : ∀ r, s.pl r = none) (hg : G W w2) (ho : ∀ k tg, s.own k = some tg → W.heap.size ≤ k) (hTb : Tb W) (hw : w3 = w2.alloc (.cells #[ptr t, .slice none 0 0, .slice none 0 0] 31)) : Ld W w3 w2.heap.size t w3.heap.size s m0 [] [] (.slice none 0 0) (.slice none 0 0) L LR := by
  have g3 : G w2 w3 := by rw [hw]; exact (G.refl w2).alloc _
  have hsz : w2.heap.size < w3.heap.size := by rw [hw]; simp
  have hlf := hTb.lf
  have hlj := hTb.lj
  have h1 := hg.size
  have own0 : ∀ k, k < W.heap.size → s.own k = none := fun k hk => by
    cases e : s.own k with
    | none => rfl
    | some tg => have := ho k tg e; omega
  exact ⟨⟨by rw [hw]; exact Blk.new w2 _ 31, ⟨⟨rfl, .inl ⟨rfl, rfl⟩⟩, by simp⟩, ⟨rfl, .inl ⟨rfl, rfl⟩⟩, by simp, hsz, Nat.le_refl _, hT.fresh (Nat.le_refl _), fun k hk => (by cases hk), fun k hk => (by cases hk), ⟨by omega, by omega⟩, ⟨by omega, by omega⟩⟩, ⟨hT.G g3, hTb.G (hg.trans g3), ⟨own0 _ hlf, own0 _ hlj⟩, ⟨fun x => (by rw [hl x]; rfl), fun r q e => (by rw [hp r] at e; cases e), fun r _ => ⟨fun _ => rfl, rfl⟩⟩, iv_m0 L LR⟩, fun r hr => (by cases hr), hg.trans g3, ho, h1⟩
theorem oldL_mem : ∀ (live : List (Int × Int)) (z : Int), oldL z live = z ∨ ∃ a ∈ live, a.2 = oldL z live
  | [], z => .inl rfl
  | c :: live, z => by
    have e : oldL z (c :: live) = oldL (oldS z c) live := rfl
    rcases oldL_mem live (oldS z c) with h | ⟨a, ha, h⟩
    · rw [e, h]
      unfold oldS
      split
      · exact .inr ⟨c, List.mem_cons_self .., rfl⟩
      · exact .inl rfl
    · exact .inr ⟨a, List.mem_cons_of_mem _ ha, by rw [e]; exact h⟩
def idS (f : Int) (z : Int) (a : Int × Int) : Int := if a.2 = f then a.1 else z
def idL (f : Int) (live : List (Int × Int)) : Int := live.foldl (idS f) 0
theorem idL_snoc {f : Int} {live : List (Int × Int)} {n : Nat} {a : Int × Int} (h : live[n]? = some a) : idL f (live.take (n + 1)) = idS f (idL f (live.take n)) a := by
  unfold idL
  rw [List.take_add_one, h]
  simp
theorem idL_mem (f : Int) : ∀ (live : List (Int × Int)) (z : Int), (∃ a ∈ live, a.2 = f) → ∃ a ∈ live, a.2 = f ∧ live.foldl (idS f) z = a.1
  | [], z, ⟨a, ha, _⟩ => by cases ha
  | c :: live, z, ⟨a, ha, he⟩ => by
    by_cases h : ∃ a ∈ live, a.2 = f
    · obtain ⟨d, h1, h2, h3⟩ := idL_mem f live (idS f z c) h
      exact ⟨d, List.mem_cons_of_mem _ h1, h2, h3⟩
    · rcases List.mem_cons.1 ha with ha | ha
      · subst ha
        refine ⟨a, List.mem_cons_self .., he, ?_⟩
        have hk : ∀ (l : List (Int × Int)) (z : Int), (∀ a ∈ l, a.2 ≠ f) → l.foldl (idS f) z = z := by
          intro l
          induction l with
          | nil => intro z _; rfl
          | cons d l ih =>
            intro z hz
            have h1 : idS f z d = z := by unfold idS; rw [if_neg (hz d (List.mem_cons_self ..))]
            show l.foldl (idS f) (idS f z d) = z
            rw [h1]
            exact ih z (fun a ha => hz a (List.mem_cons_of_mem _ ha))
        show live.foldl (idS f) (idS f z a) = a.1
        rw [hk live _ (fun a ha e => h ⟨a, ha, e⟩)]
        unfold idS
        rw [if_pos he]
      · exact absurd ⟨a, ha, he⟩ h
/-- The oldest one, not wounded. -/
def Ov (m : Ms) (id first : Int) : Prop := ∃ p, m.lv id = some p ∧ p.stamp = first ∧ p.hurt = false ∧ ∀ y q, m.lv y = some q → first ≤ q.stamp
section
variable {m m' : Ms} {live : List (Int × Int)} {L : List Int} {LR : List Rs} {x : Int}
theorem first_is (hb : Bk m live) (hI : Iv m L LR) (h0 : oldL 0 live ≠ 0) : ∃ p, m.lv (idL (oldL 0 live) live) = some p ∧ p.stamp = oldL 0 live ∧ ∀ y q, m.lv y = some q → oldL 0 live ≤ q.stamp := by
  have h1 : ∃ a ∈ live, a.2 = oldL 0 live := by
    rcases oldL_mem live 0 with h | h
    · exact absurd h h0
    · exact h
  obtain ⟨a, ha, he, hi⟩ := idL_mem (oldL 0 live) live 0 h1
  obtain ⟨p, hp, hs⟩ := (hb.mem a.1 a.2).1 ha
  refine ⟨p, ?_, by rw [hs, he], fun y q hq => hb.oldest hI hq⟩
  show m.lv (live.foldl (idS (oldL 0 live)) 0) = some p
  rw [hi]; exact hp
theorem AskK.ov {p : Pm} {first : Int} (hp : m.lv x = some p) {r : Rs} {mode k : Int} {l : List Int} {c : Int} (h : AskK m x p r mode k l c m') (ho : Ov m x first) : Ov m' x first := by
  obtain ⟨q, h1, h2, h3, h4⟩ := ho
  have keep : ∀ y, (m'.lv y).map Pm.stamp = (m.lv y).map Pm.stamp := by
    rcases h with ⟨-, -, -, -, rfl⟩ | ⟨-, -, ⟨-, -, -, rfl⟩ | ⟨-, ⟨-, -, rfl⟩ | ⟨-, -, rfl⟩, -⟩⟩
    · exact fun _ => rfl
    · exact fun _ => rfl
    · exact grant_stamps hp _ _ _
    · exact wait_stamps hp _ _ _
  have hx : ∃ q', m'.lv x = some q' ∧ q'.stamp = q.stamp := by
    have := keep x
    rw [h1] at this
    cases e : m'.lv x with
    | none => rw [e] at this; cases this
    | some q' => rw [e] at this; exact ⟨q', rfl, by simpa using this⟩
  obtain ⟨q', hq', hs'⟩ := hx
  refine ⟨q', hq', by rw [hs', h2], ?_, fun y c hc => ?_⟩
  · cases hh : q'.hurt with
    | false => rfl
    | true =>
      rcases h with ⟨-, -, -, -, rfl⟩ | ⟨-, -, ⟨-, -, -, rfl⟩ | ⟨-, hT⟩⟩
      · rw [h1] at hq'; cases hq'; rw [h3] at hh; cases hh
      · rw [h1] at hq'; cases hq'; rw [h3] at hh; cases hh
      · have hm : x ∈ l := (hT.2.2 x).2 ⟨q, q', h1, hq', h3, hh⟩
        obtain ⟨b1, b2, k1, -, k3, k4, k5, k6⟩ := hT.older hp x hm
        rw [h1] at k1; cases k1
        obtain ⟨z, hz⟩ := Pm.hurt_iff.1 k4
        obtain ⟨d, hd, hlt⟩ := k6 z hz
        have := h4 z d hd
        omega
  · have := keep y
    rw [hc] at this
    cases e : m.lv y with
    | none => rw [e] at this; cases this
    | some d =>
      rw [e] at this
      have h5 := h4 y d e
      have h6 : c.stamp = d.stamp := by simpa using this
      omega
theorem EndK.ov {p : Pm} {out : List Int} {id first : Int} (hp : m.lv x = some p) (hh : p.hurt = true) (h : EndK m x p out m') (ho : Ov m id first) : Ov m' id first := by
  obtain ⟨q, h1, h2, h3, h4⟩ := ho
  have hne : id ≠ x := fun e => by rw [e, hp] at h1; cases h1; rw [hh] at h3; cases h3
  have hex : ∃ q', m'.lv id = some q' := by
    obtain ⟨rs, -, -, -, -, -, -, hl, -⟩ := h
    rw [hl id]
    have e : (mDel m x).lv id = some q := mDel_lv.2 ⟨hne, h1⟩
    rw [e]
    split
    · exact ⟨_, rfl⟩
    · exact ⟨_, rfl⟩
  obtain ⟨q', hq'⟩ := hex
  obtain ⟨-, d, hd, hs, hw⟩ := h.rest hq'
  rw [h1] at hd; cases hd
  refine ⟨q', hq', by rw [hs, h2], ?_, fun y c hc => ?_⟩
  · rw [Pm.hurt_no] at h3 ⊢
    rw [hw]; exact h3
  · obtain ⟨-, d, hd, hs, -⟩ := h.rest hc
    rw [hs]; exact h4 y d hd
theorem hurtL_nodup (hb : Bk m live) : (hurtL m live).Nodup := by
  unfold hurtL
  exact hb.nd.sublist (List.filter_sublist.map _)
theorem EndK.fewer {p : Pm} {out : List Int} (hb : Bk m live) (hp : m.lv x = some p) (hh : p.hurt = true) (h : EndK m x p out m') : (hurtL m' (noX x live)).length + 1 ≤ (hurtL m live).length := by
  have hb' := h.bk hb
  have hx : x ∈ hurtL m live := (hurtL_mem hb).2 ⟨p, hp, hh⟩
  have h1 := nodup_sub_le (hurtL m' (noX x live)) ((hurtL m live).erase x) (hurtL_nodup hb') (fun y hy => by
    obtain ⟨q, hq, hqh⟩ := (hurtL_mem hb').1 hy
    obtain ⟨hne, d, hd, -, hw⟩ := h.rest hq
    refine (List.mem_erase_of_ne hne).2 ((hurtL_mem hb).2 ⟨d, hd, ?_⟩)
    rw [Pm.hurt_iff] at hqh ⊢
    rw [← hw]; exact hqh)
  have h2 := (List.perm_cons_erase hx).length_eq
  rw [h2]
  simp only [List.length_cons]
  omega
end
end Go.Proofs.YtkbgifhhnnfgoaaGreatDoor
