/- Gate: a gate as a thing of thought. -/
import Derived.Test.YtmclbnhbioficacGs2
namespace Go.Proofs.Ytmclbnhbioficac

structure GM where
  mo : Int
  un : Int
  sp : Int
  lg : Int
  ck : Int
  sw : Int
  q : List (Int × Int)
  ins : List It
abbrev GM.ids (m : GM) : List Int := m.ins.map (·.1.1)
abbrev GM.qids (m : GM) : List Int := m.q.map (·.1)
/-- The sweeper, as one that has turns. -/
def swp (m : GM) : It := ((0, 9223372036854775807), m.sw)
/-- What holds behind every call. -/
structure Iv (m : GM) : Prop where
  mo1 : 1 ≤ m.mo
  mo2 : m.mo ≤ 16
  un1 : 1 ≤ m.un
  un2 : m.un ≤ 64
  lg0 : 0 ≤ m.lg
  room : m.lg + m.ins.length ≤ m.un
  most : (m.ins.length : Int) ≤ m.mo
  crowd : m.q.length + m.ins.length ≤ 64
  sp0 : 0 ≤ m.sp
  ck0 : 0 ≤ m.ck
  sw0 : 0 ≤ m.sw
  sw1 : m.sw ≤ m.ck
  ids : ∀ id ∈ m.ids ++ m.qids, 1 ≤ id ∧ id ≤ 1073741824
  nd : (m.ids ++ m.qids).Nodup
  sps : ∀ s ∈ m.ins.map (·.1.2) ++ m.q.map (·.2), 1 ≤ s ∧ s ≤ m.sp
  snd : (m.ins.map (·.1.2) ++ m.q.map (·.2)).Nodup
  last : ∀ y ∈ m.ins, 0 ≤ y.2 ∧ y.2 ≤ m.ck
def new0 (mo un : Int) : GM := ⟨mo, un, 0, 0, 0, 0, [], []⟩
theorem iv_new {mo un : Int} (h1 : 1 ≤ mo) (h2 : mo ≤ 16) (h3 : 1 ≤ un) (h4 : un ≤ 64) : Iv (new0 mo un) := by
  refine ⟨h1, h2, h3, h4, by simp [new0], by simp [new0]; omega, by simp [new0]; omega, by simp [new0], by simp [new0], by simp [new0], by simp [new0], by simp [new0], by simp [new0], by simp [new0, GM.ids, GM.qids], by simp [new0], by simp [new0], by simp [new0]⟩
/-- One is submitted. -/
def GM.sub (m : GM) (id : Int) : GM := { m with sp := m.sp + 1, q := m.q ++ [(id, m.sp + 1)] }
theorem iv_sub {m : GM} (h : Iv m) {id : Int} (h1 : 1 ≤ id) (h2 : id ≤ 1073741824) (h3 : id ∉ m.ids) (h4 : id ∉ m.qids) (h5 : m.q.length + m.ins.length < 64) : Iv (m.sub id) := by
  refine ⟨h.mo1, h.mo2, h.un1, h.un2, h.lg0, h.room, h.most, by simp [GM.sub]; omega, by have := h.sp0; simp [GM.sub]; omega, h.ck0, h.sw0, h.sw1, fun i hi => ?_, ?_, fun s hs => ?_, ?_, h.last⟩
  · simp only [GM.sub, GM.ids, GM.qids, List.map_append, List.map_cons, List.map_nil, ← List.append_assoc] at hi
    rcases List.mem_append.1 hi with q | q
    · exact h.ids i q
    · simp at q; subst q; exact ⟨h1, h2⟩
  · simp only [GM.sub, GM.ids, GM.qids, List.map_append, List.map_cons, List.map_nil, ← List.append_assoc]
    refine List.nodup_append.2 ⟨h.nd, by simp, fun a ha b hb => ?_⟩
    simp at hb; subst hb
    rintro rfl
    rcases List.mem_append.1 ha with q | q
    · exact h3 q
    · exact h4 q
  · simp only [GM.sub, List.map_append, List.map_cons, List.map_nil, ← List.append_assoc] at hs ⊢
    have hp := h.sp0
    rcases List.mem_append.1 hs with q | q
    · have := h.sps s q; omega
    · simp at q; subst q; omega
  · simp only [GM.sub, List.map_append, List.map_cons, List.map_nil, ← List.append_assoc]
    refine List.nodup_append.2 ⟨h.snd, by simp, fun a ha b hb => ?_⟩
    simp at hb; subst hb
    have := h.sps a ha
    omega
def GM.room (m : GM) : Bool := decide ((m.ins.length : Int) < m.mo) && decide (m.lg + m.ins.length < m.un)
/-- The first of the queue enters. -/
def GM.ent (m : GM) (x : Int × Int) (t : List (Int × Int)) : GM := { m with q := t, ins := m.ins ++ [(x, m.ck)] }
theorem iv_ent {m : GM} (h : Iv m) {x : Int × Int} {t : List (Int × Int)} (hq : m.q = x :: t) (hr : m.room = true) : Iv (m.ent x t) := by
  have hr1 := hr
  simp only [GM.room, Bool.and_eq_true, decide_eq_true_eq] at hr1
  have e1 : (m.ins ++ [(x, m.ck)]).map (·.1.1) ++ t.map (·.1) = m.ids ++ m.qids := by simp [GM.ids, GM.qids, hq]
  have e2 : (m.ins ++ [(x, m.ck)]).map (·.1.2) ++ t.map (·.2) = m.ins.map (·.1.2) ++ m.q.map (·.2) := by simp [hq]
  have hl : m.q.length = t.length + 1 := by rw [hq]; rfl
  have hcr := h.crowd
  refine ⟨h.mo1, h.mo2, h.un1, h.un2, h.lg0, by simp [GM.ent]; omega, by simp [GM.ent]; omega, by simp [GM.ent]; omega, h.sp0, h.ck0, h.sw0, h.sw1, ?_, ?_, ?_, ?_, fun y hy => ?_⟩
  · simp only [GM.ent, GM.ids, GM.qids]; rw [e1]; exact h.ids
  · simp only [GM.ent, GM.ids, GM.qids]; rw [e1]; exact h.nd
  · simp only [GM.ent]; rw [e2]; exact h.sps
  · simp only [GM.ent]; rw [e2]; exact h.snd
  · simp only [GM.ent] at hy ⊢
    rcases List.mem_append.1 hy with q | q
    · exact h.last y q
    · simp at q; subst q; have := h.ck0; simp only; omega
/-- Those who enter now. -/
def GM.adm : Nat → GM → List Int × GM
  | 0, m => ([], m)
  | n + 1, m => match m.q with
    | [] => ([], m)
    | x :: t => if m.room = true then (x.1 :: ((m.ent x t).adm n).1, ((m.ent x t).adm n).2) else ([], m)
/-- One that was inside goes. -/
def GM.gone (m : GM) (k : Nat) (lg : Int) : GM := { m with ins := cutL m.ins k, lg := lg }
theorem cutL_mem {α : Type} {l : List α} {k : Nat} {x : α} (h : x ∈ cutL l k) : x ∈ l := by
  unfold cutL at h
  rcases List.mem_append.1 h with q | q
  · exact List.mem_of_mem_take q
  · exact List.mem_of_mem_drop q
theorem cutL_map {α β : Type} (f : α → β) (l : List α) (k : Nat) : (cutL l k).map f = cutL (l.map f) k := by simp [cutL]
theorem cutL_sub {α : Type} (l : List α) (k : Nat) : (cutL l k).Sublist l := by
  unfold cutL
  have h1 : (l.drop (k + 1)).Sublist (l.drop k) := by
    rw [← List.drop_drop]
    exact List.drop_sublist _ _
  have := (List.Sublist.refl (l.take k)).append h1
  rwa [List.take_append_drop] at this
theorem iv_gone {m : GM} (h : Iv m) {k : Nat} (hk : k < m.ins.length) {lg : Int} (h1 : lg = m.lg ∨ lg = m.lg + 1) : Iv (m.gone k lg) := by
  have hl := cutL_len hk
  have hroom := h.room
  have hmost := h.most
  have hcr := h.crowd
  have hlg := h.lg0
  have s1 : ((cutL m.ins k).map (·.1.1) ++ m.q.map (·.1)).Sublist (m.ids ++ m.qids) := ((cutL_sub m.ins k).map _).append (List.Sublist.refl _)
  have s2 : ((cutL m.ins k).map (·.1.2) ++ m.q.map (·.2)).Sublist (m.ins.map (·.1.2) ++ m.q.map (·.2)) := ((cutL_sub m.ins k).map _).append (List.Sublist.refl _)
  refine ⟨h.mo1, h.mo2, h.un1, h.un2, by simp only [GM.gone]; omega, by simp only [GM.gone]; omega, by simp only [GM.gone]; omega, by simp only [GM.gone]; omega, h.sp0, h.ck0, h.sw0, h.sw1, fun i hi => h.ids i (s1.subset hi), h.nd.sublist s1, fun i hi => h.sps i (s2.subset hi), h.snd.sublist s2, fun y hy => h.last y (cutL_mem hy)⟩
theorem iv_swept {m : GM} (h : Iv m) : Iv { m with lg := 0 } := by
  have h1 := h.lg0
  have h2 := h.room
  exact ⟨h.mo1, h.mo2, h.un1, h.un2, by simp, by simp only; omega, h.most, h.crowd, h.sp0, h.ck0, h.sw0, h.sw1, h.ids, h.nd, h.sps, h.snd, h.last⟩
/-- The sweeper has its turn. -/
def GM.pick0 (m : GM) : GM := { m with ck := m.ck + 1, sw := m.ck + 1 }
theorem iv_pick0 {m : GM} (h : Iv m) : Iv m.pick0 := by
  have h1 := h.ck0
  refine ⟨h.mo1, h.mo2, h.un1, h.un2, h.lg0, h.room, h.most, h.crowd, h.sp0, by simp only [GM.pick0]; omega, by simp only [GM.pick0]; omega, by simp only [GM.pick0]; omega, h.ids, h.nd, h.sps, h.snd, fun y hy => ?_⟩
  have := h.last y hy
  simp only [GM.pick0]; omega
/-- One that is inside has its turn. -/
def GM.pick (m : GM) (k : Nat) : GM := { m with ck := m.ck + 1, ins := m.ins.set k (m.ins[k]!.1, m.ck + 1) }
theorem set_map {α β : Type} [Inhabited α] (f : α → β) (l : List α) (k : Nat) (y : α) (h : f y = f l[k]!) (hk : k < l.length) : (l.set k y).map f = l.map f := by
  apply List.ext_getElem?
  intro j
  rw [List.getElem?_map, List.getElem?_map]
  by_cases e : j = k
  · subst e; rw [List.getElem?_set_self hk, Hp.get_o hk]; simp only [Option.map_some]; rw [h]
  · rw [List.getElem?_set_ne (Ne.symm e)]
theorem iv_pick {m : GM} (h : Iv m) {k : Nat} (hk : k < m.ins.length) : Iv (m.pick k) := by
  have h1 := h.ck0
  have h2 := h.sw1
  have e1 : (m.ins.set k (m.ins[k]!.1, m.ck + 1)).map (·.1.1) = m.ids := set_map _ _ _ _ rfl hk
  have e2 : (m.ins.set k (m.ins[k]!.1, m.ck + 1)).map (·.1.2) = m.ins.map (·.1.2) := set_map _ _ _ _ rfl hk
  refine ⟨h.mo1, h.mo2, h.un1, h.un2, h.lg0, by simp only [GM.pick, List.length_set]; exact h.room, by simp only [GM.pick, List.length_set]; exact h.most, by simp only [GM.pick, List.length_set]; exact h.crowd, h.sp0, by simp only [GM.pick]; omega, h.sw0, by simp only [GM.pick]; omega, ?_, ?_, ?_, ?_, fun y hy => ?_⟩
  · simp only [GM.pick, GM.ids]; rw [e1]; exact h.ids
  · simp only [GM.pick, GM.ids]; rw [e1]; exact h.nd
  · simp only [GM.pick]; rw [e2]; exact h.sps
  · simp only [GM.pick]; rw [e2]; exact h.snd
  · simp only [GM.pick] at hy ⊢
    rcases List.mem_or_eq_of_mem_set hy with q | q
    · have := h.last y q; omega
    · subst q; simp only; omega
/-- All that have turns. -/
def GM.all (m : GM) : List It := swp m :: m.ins
/-- Whose turn it is. -/
def NextR (m : GM) (n : Int) : Prop := ∃ x ∈ m.all, (∀ y ∈ m.all, gr y x = false) ∧ x.1.1 = n
theorem next_one {m : GM} (h : Iv m) (hs : m.sp < 9223372036854775807) {a b : Int} (ha : NextR m a) (hb : NextR m b) : a = b := by
  obtain ⟨x, hx, gx, rfl⟩ := ha
  obtain ⟨y, hy, gy, rfl⟩ := hb
  have h1 := gx y hy
  have h2 := gy x hx
  have hst : x.1.2 = y.1.2 := by
    unfold gr at h1 h2
    split at h1
    · rename_i e
      rw [if_pos e.symm] at h2
      simp at h1 h2
      omega
    · rename_i e
      rw [if_neg (fun q => e q.symm)] at h2
      simp at h1 h2
      omega
  have hin : ∀ z ∈ m.ins, z.1.2 ≤ m.sp := fun z hz => (h.sps _ (List.mem_append_left _ (List.mem_map.2 ⟨z, hz, rfl⟩))).2
  rcases List.mem_cons.1 hx with rfl | hx <;> rcases List.mem_cons.1 hy with rfl | hy
  · rfl
  · have := hin y hy; simp only [swp] at hst; omega
  · have := hin x hx; simp only [swp] at hst; omega
  · have hnd : (m.ins.map (·.1.2)).Nodup := (List.nodup_append.1 h.snd).1
    obtain ⟨i, hi, rfl⟩ := List.getElem_of_mem hx
    obtain ⟨j, hj, rfl⟩ := List.getElem_of_mem hy
    have hij : i = j := by
      refine (List.getElem_inj (i := i) (j := j) (h₀ := by simpa using hi) (h₁ := by simpa using hj) hnd).1 ?_
      simpa using hst
    subst hij
    rfl
end Go.Proofs.Ytmclbnhbioficac
