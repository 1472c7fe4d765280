/- Paths: pathsRing. -/
import Derived.Test.YtemkilffagjmcaaDoorPz17
import Derived.Test.YtemkilffagjmcaaDoorPz25
import Derived.Test.YtemkilffagjmcaaDoorPz19
namespace Go.Proofs.YtemkilffagjmcaaDoor
section

/-- What is known of the order while it is being made. -/
structure Fw (L : List (List Nat)) (D : List Bool) (O : List Nat) : Prop where
  len : D.length = L.length
  don : ∀ k, k < L.length → (D[k]! = true ↔ k ∈ O)
  inn : ∀ k ∈ O, k < L.length
  nd : O.Nodup
  fw : ∀ a b, a ≤ b → b < O.length → O[a]! ∉ L[O[b]!]!
  st : ∀ k ∈ O, ∀ i, i < L.length → D[i]! = false → k ∉ L[i]!
  cnt : D.count false + O.length = L.length
theorem Fw.start (L : List (List Nat)) : Fw L (List.replicate L.length false) [] where
  len := List.length_replicate
  don k hk := by rw [Hp.get_of (by rw [List.length_replicate]; exact hk)]; simp
  inn k hk := by simp at hk
  nd := List.nodup_nil
  fw a b _ hb := by simp at hb
  st k hk := by simp at hk
  cnt := by simp
theorem nxtO_is {L : List (List Nat)} {D : List Bool} {k : Nat} (h : nxtO L D = some k) : k < L.length ∧ D[k]! = false ∧ freeB L D k = true := by
  unfold nxtO at h
  have h1 := List.mem_of_find?_eq_some h
  have h2 := List.find?_some h
  simp only [Bool.and_eq_true, Bool.not_eq_true'] at h2
  exact ⟨List.mem_range.1 h1, h2.1, h2.2⟩
theorem nxtO_no {L : List (List Nat)} {D : List Bool} (h : nxtO L D = none) : ∀ k, k < L.length → D[k]! = false → freeB L D k = false := fun k hk hd => by
  unfold nxtO at h
  rw [List.find?_eq_none] at h
  have := h k (List.mem_range.2 hk)
  simp only [hd, Bool.not_false, Bool.true_and, Bool.not_eq_true] at this
  exact this
theorem app_get {O : List Nat} {k b : Nat} (h : b < (O ++ [k]).length) : (O ++ [k])[b]! = if b = O.length then k else O[b]! := by
  rw [Hp.get_of h]
  have hl : b < O.length + 1 := by simpa using h
  split
  · rename_i e
    subst e
    simp
  · rename_i e
    have hb : b < O.length := by omega
    rw [Hp.get_of hb, List.getElem_append_left hb]
theorem Fw.step {L : List (List Nat)} {D : List Bool} {O : List Nat} (h : Fw L D O) {k : Nat} (hk : nxtO L D = some k) : Fw L (D.set k true) (O ++ [k]) := by
  obtain ⟨h1, h2, h3⟩ := nxtO_is hk
  rw [freeB_iff] at h3
  have hkl : k < D.length := by rw [h.len]; exact h1
  have hs : ∀ q, (D.set k true)[q]! = if q = k then true else D[q]! := fun q => Hp.get_set _ _ _ _ hkl
  have hno : k ∉ O := fun q => by
    have := (h.don k h1).2 q
    rw [h2] at this
    cases this
  refine ⟨by rw [List.length_set]; exact h.len, fun q hq => ?_, fun q hq => ?_, ?_, fun a b hab hb => ?_, fun q hq i hi hd => ?_, ?_⟩
  · rw [hs, List.mem_append, List.mem_singleton]
    split
    · rename_i e
      exact ⟨fun _ => .inr e, fun _ => rfl⟩
    · rename_i e
      rw [h.don q hq]
      exact ⟨.inl, fun r => r.resolve_right e⟩
  · rw [List.mem_append, List.mem_singleton] at hq
    rcases hq with hq | rfl
    · exact h.inn q hq
    · exact h1
  · rw [List.nodup_append]
    refine ⟨h.nd, by simp, fun a ha b hb => ?_⟩
    simp at hb
    subst hb
    exact fun e => hno (e ▸ ha)
  · have hl : b < O.length + 1 := by simpa using hb
    rw [app_get hb, app_get (Nat.lt_of_le_of_lt hab hb)]
    by_cases eb : b = O.length
    · rw [if_pos eb]
      by_cases ea : a = O.length
      · rw [if_pos ea]
        exact h3 k h1 h2
      · rw [if_neg ea]
        have ha : a < O.length := by omega
        refine h.st _ ?_ k h1 h2
        rw [Hp.get_of ha]
        exact List.getElem_mem ha
    · rw [if_neg eb, if_neg (by omega)]
      exact h.fw a b hab (by omega)
  · rw [hs] at hd
    split at hd
    · cases hd
    · rw [List.mem_append, List.mem_singleton] at hq
      rcases hq with hq | rfl
      · exact h.st q hq i hi hd
      · exact h3 i hi hd
  · have hc := h.cnt
    have hd : D[k] = false := by rw [← Hp.get_of hkl]; exact h2
    have hm : 0 < D.count false := List.count_pos_iff.2 (hd ▸ List.getElem_mem hkl)
    rw [List.count_set hkl, hd, List.length_append]
    simp
    omega
theorem ordF_fw (L : List (List Nat)) : ∀ (f : Nat) (D : List Bool) (O : List Nat), Fw L D O → O.length + f = L.length → ∃ D', Fw L D' (ordF L f D O).1 ∧ ((ordF L f D O).2 = true → (ordF L f D O).1.length = L.length) ∧ ((ordF L f D O).2 = false → nxtO L D' = none ∧ (ordF L f D O).1.length < L.length)
  | 0, D, O, h, hf => ⟨D, by simpa [ordF] using h, fun _ => by simpa [ordF] using hf, fun q => by simp [ordF] at q⟩
  | f + 1, D, O, h, hf => by
    cases hk : nxtO L D with
    | none =>
      have e : ordF L (f + 1) D O = (O, false) := by simp only [ordF, hk]
      rw [e]
      exact ⟨D, h, fun q => (by cases q), fun _ => ⟨hk, by show O.length < L.length; omega⟩⟩
    | some k =>
      have e : ordF L (f + 1) D O = ordF L f (D.set k true) (O ++ [k]) := by simp only [ordF, hk]
      rw [e]
      exact ordF_fw L f _ _ (h.step hk) (by rw [List.length_append]; simp; omega)
theorem Fw.all {L : List (List Nat)} {D : List Bool} {O : List Nat} (h : Fw L D O) (hl : O.length = L.length) (k : Nat) (hk : k < L.length) : k ∈ O := by
  have hc := h.cnt
  have h0 : D.count false = 0 := by omega
  rw [List.count_eq_zero] at h0
  have hkl : k < D.length := by rw [h.len]; exact hk
  refine (h.don k hk).1 ?_
  rw [Hp.get_of hkl]
  cases e : D[k] with
  | true => rfl
  | false => exact absurd (e ▸ List.getElem_mem hkl) h0
theorem Fw.some_ {L : List (List Nat)} {D : List Bool} {O : List Nat} (h : Fw L D O) (hl : O.length < L.length) : ∃ k, k < L.length ∧ D[k]! = false := by
  have hc := h.cnt
  have h0 : 0 < D.count false := by omega
  rw [List.count_pos_iff] at h0
  obtain ⟨k, hk, e⟩ := List.getElem_of_mem h0
  exact ⟨k, by rw [← h.len]; exact hk, by rw [Hp.get_of hk]; exact e⟩
/-- An arc inside the piece, by its places. -/
theorem insL_mem {ids : List Int} {l : List Ar} {k : Nat} : k ∈ insL (atI ids) l ↔ ∃ a ∈ l, atI ids a.2.1 = some k := by
  unfold insL
  rw [List.mem_filterMap]
theorem LL_at {rs : List Nr} {tail : Bool} {ids : List Int} {i : Nat} (hi : i < ids.length) : (ids.map fun id => insL (atI ids) (netOf rs tail id).1)[i]! = insL (atI ids) (netOf rs tail ids[i]!).1 := by
  rw [Hp.get_of (by rw [List.length_map]; exact hi), List.getElem_map, Hp.get_of hi]
/-- Arcs that go round: each of them is led to from one of them. -/
def Rng (rs : List Nr) (tail : Bool) (U : Int → Prop) : Prop := ∀ u, U u → ∃ u', U u' ∧ ∃ a ∈ (netOf rs tail u').1, a.2.1 = u
/-- What Order says in a net without errors, of few nodes. -/
theorem OrdR.says {rs : List Nr} {tail : Bool} {ids out : List Int} {ok : Bool} {code : Int} {asked : List Int} (h : OrdR rs tail ids out ok code asked) (hids : ids.Pairwise (· < ·)) (hl : ids.length ≤ 4096) (h0 : ∀ id, (netOf rs tail id).2 = 0) :
    code = 0 ∧ (ok = true → out.Nodup ∧ (∀ x, x ∈ out ↔ x ∈ ids) ∧ ∀ (a b : Nat) x y, a ≤ b → out[a]? = some x → out[b]? = some y → ∀ r ∈ (netOf rs tail y).1, r.2.1 ≠ x) ∧ (ok = false → out = [] ∧ ∃ U : Int → Prop, Rng rs tail U ∧ (∀ u, U u → u ∈ ids) ∧ ∃ u, U u) := by
  rcases h with ⟨a1, -⟩ | ⟨a1, k, id, a2, a3, -⟩ | ⟨a1, a2, rfl, -, O, a3, a4, a5⟩
  · omega
  · exact absurd (h0 id) a3
  · obtain ⟨L, hL⟩ : ∃ L, L = ids.map fun id => insL (atI ids) (netOf rs tail id).1 := ⟨_, rfl⟩
    have hLl : L.length = ids.length := by rw [hL, List.length_map]
    rw [← hL, ← hLl] at a3
    obtain ⟨D, hfw, ht, hf⟩ := ordF_fw L L.length _ [] (Fw.start L) (by simp)
    rw [a3] at hfw ht hf
    refine ⟨rfl, fun q => ?_, fun q => ⟨a5 q, ?_⟩⟩
    · rw [a4 q]
      have hgi : ∀ i j, i < ids.length → j < ids.length → ids[i]! = ids[j]! → i = j := fun i j hi hj e => by
        rw [Hp.get_of hi, Hp.get_of hj] at e
        rw [List.pairwise_iff_getElem] at hids
        rcases Nat.lt_trichotomy i j with r | r | r
        · have := hids i j hi hj r; omega
        · exact r
        · have := hids j i hj hi r; omega
      refine ⟨?_, fun x => ⟨fun hx => ?_, fun hx => ?_⟩, fun a b x y hab hx hy r hr e => ?_⟩
      · refine List.nodup_iff_pairwise_ne.2 ?_
        rw [List.pairwise_map]
        have hn := List.nodup_iff_pairwise_ne.1 hfw.nd
        refine List.Pairwise.imp_of_mem ?_ hn
        intro i j hi hj hne e
        exact hne (hgi i j (by rw [← hLl]; exact hfw.inn i hi) (by rw [← hLl]; exact hfw.inn j hj) e)
      · obtain ⟨k, hk, rfl⟩ := List.mem_map.1 hx
        have := hfw.inn k hk
        rw [Hp.get_of (by omega)]
        exact List.getElem_mem _
      · obtain ⟨k, hk, e⟩ := List.getElem_of_mem hx
        refine List.mem_map.2 ⟨k, hfw.all (ht q) k (by omega), ?_⟩
        rw [Hp.get_of hk]
        exact e
      · rw [List.getElem?_map, Option.map_eq_some_iff] at hx hy
        obtain ⟨i, hi, rfl⟩ := hx
        obtain ⟨j, hj, rfl⟩ := hy
        have hbl : b < O.length := (List.getElem?_eq_some_iff.1 hj).1
        have hi2 := hfw.inn i (List.mem_of_getElem? hi)
        have hj2 := hfw.inn j (List.mem_of_getElem? hj)
        have := hfw.fw a b hab hbl
        have ea : O[a]! = i := by simp [hi]
        have eb : O[b]! = j := by simp [hj]
        rw [ea, eb, hL, LL_at (by omega)] at this
        refine this (insL_mem.2 ⟨r, hr, ?_⟩)
        rw [e]
        refine atI_get hids ?_
        rw [Hp.get_of (by omega)]
        exact List.getElem?_eq_getElem _
    · obtain ⟨hno, hlt⟩ := hf q
      refine ⟨fun u => ∃ k, k < L.length ∧ D[k]! = false ∧ ids[k]! = u, fun u hu => ?_, fun u hu => ?_, ?_⟩
      · obtain ⟨k, hk, hd, rfl⟩ := hu
        have hfr := nxtO_no hno k hk hd
        have : ¬ ∀ i, i < L.length → D[i]! = false → k ∉ L[i]! := fun hall => by
          rw [freeB_iff.2 hall] at hfr
          cases hfr
        simp only [Classical.not_forall] at this
        obtain ⟨i, hi, hdi, hki⟩ := this
        have hki := Classical.not_not.1 hki
        rw [hL, LL_at (by omega)] at hki
        obtain ⟨a, ha, e⟩ := insL_mem.1 hki
        refine ⟨ids[i]!, ⟨i, hi, hdi, rfl⟩, a, ha, ?_⟩
        have := atI_some e
        simp [this]
      · obtain ⟨k, hk, hd, rfl⟩ := hu
        rw [Hp.get_of (by omega)]
        exact List.getElem_mem _
      · obtain ⟨k, hk, hd⟩ := hfw.some_ hlt
        exact ⟨_, k, hk, hd, rfl⟩
end
open Go.RowKit

theorem cut_len {l : List Int} {i : Nat} (h : i < l.length) : (l.take i ++ l.drop (i + 1)).length = l.length - 1 := by
  rw [List.length_append, List.length_take, List.length_drop]
  omega
theorem cut_ms {n i : Nat} (h : i < n) : 2 * (n - 1) + 1 < 2 * n + 1 := by omega
theorem cut_mem {l : List Int} {i : Nat} {x u : Int} (hx : l[i]? = some x) (hu : u ∈ l) (hne : u ≠ x) : u ∈ l.take i ++ l.drop (i + 1) := by
  obtain ⟨hi, rfl⟩ := List.getElem?_eq_some_iff.1 hx
  rw [← List.take_append_drop i l, List.drop_eq_getElem_cons hi] at hu
  rcases List.mem_append.1 hu with q | q
  · exact List.mem_append_left _ q
  · rcases List.mem_cons.1 q with q | q
    · exact absurd q hne
    · exact List.mem_append_right _ q
/-- One of a list of ids is left out: two appends. -/
theorem cut_any (w : World) (lo g cap : Nat) (l : List Int) (h : Rw lo 2 1 w (.slice (some ⟨g, 0, none⟩) l.length cap) l.length (l.map I)) (i : Nat) (hi : i < l.length) (hb : l.length ≤ 1048576) (hz : lo ≤ w.heap.size) (X : Value) (hX : (cap = i + 1 ∧ X = .slice (some ⟨g, 0, none⟩) (l.length - (i + 1)) 0) ∨ (cap ≠ i + 1 ∧ X = .slice (some ⟨g, i + 1, none⟩) (l.length - (i + 1)) (cap - (i + 1)))) :
    ∃ a8 c8 w8 a9 c9 w9, (Builtin.append_ #[23, 23] 23 #[.slice none 0 0, .slice (some ⟨g, 0, none⟩) i cap]).run Tryd.prog w = .ok (.slice a8 i c8) w8 ∧ (Builtin.append_ #[23, 23] 23 #[.slice a8 i c8, X]).run Tryd.prog w8 = .ok (.slice a9 (l.length - 1) c9) w9 ∧ Rw lo 2 1 w9 (.slice a9 (l.length - 1) c9) (l.length - 1) ((l.take i ++ l.drop (i + 1)).map I) ∧ G w w9 := by
  have hcp := Rw.cap h
  have hcell : ∀ V, G w V → ∀ (j : Nat) u, (l.map I)[j]? = some u → V.cell? ⟨g, j, none⟩ = some u := fun V gV j u hj => by
    obtain ⟨g2, cap2, he, -, hc, -⟩ := (Rw.G h gV).cell (by omega)
    have : g = g2 := by simp at he; exact he.1
    subst this
    have := (List.getElem?_eq_some_iff.1 hj).1
    rw [List.length_map] at this
    rw [hc j (by omega)]
    exact hj
  have h1 : ∀ u ∈ l.map I, u.oneCell' = true := fun u hu => by
    obtain ⟨x, _, rfl⟩ := List.mem_map.1 hu
    rfl
  obtain ⟨v8, w8, q1, q2, q3, q4⟩ := app_I w lo (.slice none 0 0) 0 [] (Rw.nil _ _ _ _) ⟨g, 0, none⟩ i cap ((l.map I).take i) (by rw [List.length_take, List.length_map]; omega) (fun j u hj => by
    rw [Addr.add_mid, Nat.zero_add]
    rw [List.getElem?_take] at hj
    split at hj
    · exact hcell w (G.refl w) j u hj
    · cases hj) (fun u hu => h1 u (List.mem_of_mem_take hu)) (by omega) hz
  rw [Nat.zero_add, List.nil_append] at q2
  have hg8 : G w w8 := (q3.mono (F' := fun _ => False) (fun b hb => by simp [Value.ownBlock] at hb)).G (fun _ q => q.elim)
  have hn8 : ∀ b, v8.ownBlock = some b → w.heap.size ≤ b := fun b hb => by
    rcases q4 with q | q
    · rw [q] at hb; simp [Value.ownBlock] at hb
    · rw [q] at hb; exact Nat.le_of_eq (Option.some.inj hb)
  obtain ⟨a8, c8, rfl⟩ := Rw.form q2
  have key : ∀ (a : Addr) (c : Nat), (∀ (j : Nat) u, ((l.map I).drop (i + 1))[j]? = some u → w8.cell? (a.add j) = some u) → ∃ a9 c9 w9, (Builtin.append_ #[23, 23] 23 #[.slice a8 i c8, .slice (some a) (l.length - (i + 1)) c]).run Tryd.prog w8 = .ok (.slice a9 (l.length - 1) c9) w9 ∧ Rw lo 2 1 w9 (.slice a9 (l.length - 1) c9) (l.length - 1) ((l.take i ++ l.drop (i + 1)).map I) ∧ G w w9 := fun a c ha => by
    obtain ⟨v9, w9, r1, r2, r3, r4⟩ := app_I w8 lo (.slice a8 i c8) i ((l.map I).take i) q2 a (l.length - (i + 1)) c ((l.map I).drop (i + 1)) (by rw [List.length_drop, List.length_map]; omega) ha (fun u hu => h1 u (List.mem_of_mem_drop hu)) (by omega) (Nat.le_trans hz hg8.size)
    rw [show i + (l.length - (i + 1)) = l.length - 1 by omega, ← List.map_take, ← List.map_drop, ← List.map_append] at r2
    obtain ⟨a9, c9, rfl⟩ := Rw.form r2
    exact ⟨a9, c9, w9, r1, r2, hg8.trans' r3 hn8⟩
  rcases hX with ⟨hc, rfl⟩ | ⟨hc, rfl⟩
  · obtain ⟨a9, c9, w9, r1, r2, r3⟩ := key ⟨g, 0, none⟩ 0 (fun j u hj => by
      rw [List.getElem?_drop] at hj
      have := (List.getElem?_eq_some_iff.1 hj).1
      rw [List.length_map] at this
      omega)
    exact ⟨a8, c8, w8, a9, c9, w9, q1, r1, r2, r3⟩
  · obtain ⟨a9, c9, w9, r1, r2, r3⟩ := key ⟨g, i + 1, none⟩ (cap - (i + 1)) (fun j u hj => by
      rw [Addr.add_mid]
      rw [List.getElem?_drop] at hj
      exact hcell w8 hg8 _ u hj)
    exact ⟨a8, c8, w8, a9, c9, w9, q1, r1, r2, r3⟩
theorem fA {cap i n : Nat} (h : i < n) (hc : n ≤ cap) : ¬ ((cap : Int) < i) := by omega
theorem fB {i n : Nat} (h : i < n) : ¬ ((n : Int) < i + 1) := by omega
theorem fC (i : Nat) : ¬ ((i : Int) < 0) := by omega
theorem fD {i n : Nat} (h : i < n) : (0 : Int) < n := by omega
set_option maxRecDepth 100000 in
set_option maxHeartbeats 4000000 in
theorem ring_any (W : World) (rv : Value) (rs : List Nr) (tail : Bool) (hN : Nrs W rv rs) (hrl : rs.length ≤ 1048576) (hal : ∀ id, (netOf rs tail id).1.length ≤ 1048576) (v : Value) (nodes : List Int) (hI : Ids W v nodes) (hnl : nodes.length ≤ 1048576) (U : Int → Prop) (hU : Rng rs tail U) (hUn : ∀ u, U u → u ∈ nodes) (hUe : ∃ u, U u) :
    Calls Tryd.prog 10 #[.agg #[rv, .bool tail], v] W fun e W' => e = .returned (.bool true) ∧ G W W' := by
  obtain ⟨rva, rvc, hrv⟩ : ∃ a c, rv = .slice a rs.length c := by obtain ⟨a, c, e, _⟩ := hN; exact ⟨a, c, e⟩
  subst hrv
  have g0 : G W (W.alloc (.cells #[.slice rva rs.length rvc, .bool tail] 26)) := (G.refl W).alloc _
  have HCP := hide (copy_any (W.alloc (.cells #[.slice rva rs.length rvc, .bool tail] 26)) v nodes (hI.G g0) (by omega))
  have HBN := hide (Blk.new W [.slice rva rs.length rvc, .bool tail] 26)
  have HG0 := hide g0
  have HAL := hide hal
  have HU := hide hU
  have HUE := hide hUe
  have HSUB0 := hide hUn
  have HOK := hide hI.ok
  have HNL := hide hnl
  have HN0 := hide (hN.G g0)
  obtain ⟨nb, hnb⟩ : ∃ nb, nb = W.heap.size := ⟨_, rfl⟩
  have HNB : Hid (Blk (W.alloc (.cells #[.slice rva rs.length rvc, .bool tail] 26)) nb 26 [.slice rva rs.length rvc, .bool tail]) := by rw [hnb]; exact HBN.out
  clear g0 hN hal hU hUn hUe hI hnl HBN
  go_enter Tryd.func10, Tryd.ntmps10
  go_wp2_with fail
  rw [← hnb]
  clear hnb
  generalize W.alloc (.cells #[.slice rva rs.length rvc, .bool tail] 26) = w0 at *
  refine HCP.out.mono ?_
  rintro e w1 ⟨cv, rfl, hrc, hg1⟩
  have HRC := hide hrc
  have HG1 := hide hg1
  clear hrc hg1 HCP
  go_wp2_with fail
  go_loopw [5, 6] (fun lv bv wr => ∃ (b : Bool) (l : List Int) (lv' : Value), lv = lv' ∧ bv = .bool b ∧ Rw w0.heap.size 2 1 wr lv' l.length (l.map I) ∧ (∀ u, U u → u ∈ l) ∧ l.length ≤ 1048576 ∧ (∀ x ∈ l, R64 x) ∧ G w0 wr) (fun lv bv _ => 2 * slen lv + bN bv)
  case atStart => exact ⟨true, nodes, _, rfl, rfl, HRC.out, HSUB0.out, HNL.out, HOK.out, HG1.out⟩
  case round =>
    obtain ⟨b, l, lv, rfl, rfl, hrw, hsub, hfew, hr64, hgw⟩ := hrel
    obtain ⟨u0, hu0⟩ := HUE.out
    have hlp : 0 < l.length := List.length_pos_of_mem (hsub u0 hu0)
    obtain ⟨g, lc, rfl, -⟩ := Rw.cell hrw hlp
    have HRW := hide hrw
    have HSUB := hide hsub
    have HFEW := hide hfew
    have HR64 := hide hr64
    have HGW := hide hgw
    have HLP := hide hlp
    clear hrw hsub hfew hr64 hgw hlp hu0 HRC HG1
    cases b with
    | false =>
      have hpos : (0 : Int) < l.length := Int.ofNat_lt.2 HLP.out
      have hposd : decide ((0 : Int) < l.length) = true := decide_eq_true hpos
      have hposn : 0 < l.length := HLP.out
      go_wp2_with fail
      go_ret
      exact ⟨rfl, HG0.out.trans HGW.out⟩
    | true =>
      obtain ⟨wo, rfl⟩ : ∃ wo, wo = wr := ⟨_, rfl⟩
      go_wp2_with fail
      go_loopw [5, 6, 7] (fun lv bv iv w2 => ∃ i : Nat, lv = .slice (some ⟨g, 0, none⟩) l.length lc ∧ bv = .bool false ∧ iv = I i ∧ i ≤ l.length ∧ G wo w2) (fun _ _ iv _ => l.length - (RowKit.intOf iv).toNat)
      case atStart => exact ⟨0, rfl, rfl, rfl, Nat.zero_le _, G.refl _⟩
      case round =>
        obtain ⟨i, rfl, rfl, rfl, hi, hg2⟩ := hrel
        by_cases hil : i < l.length
        · have hiI : (i : Int) < l.length := Int.ofNat_lt.2 hil
          obtain ⟨x, hx⟩ : ∃ x, l[i]? = some x := ⟨_, List.getElem?_eq_getElem hil⟩
          have hwi : wrap64 ((i : Int) + 1) = (i : Int) + 1 := wone6 i (Nat.le_trans (Nat.le_of_lt hil) HFEW.out)
          have HCL : Hid (∀ V, G wo V → ∀ (o : Nat) y, l[o]? = some y → V.cell? ⟨g, o, none⟩ = some (I y)) := fun V gV o y ho => by
            obtain ⟨g2, cap2, he, -, hc, -⟩ := (Rw.G HRW.out gV).cell HLP.out
            have : g = g2 := by simp at he; exact he.1
            subst this
            rw [hc o (by rw [Nat.mul_one]; exact (List.getElem?_eq_some_iff.1 ho).1), List.getElem?_map, ho]
            rfl
          have HX := hide hx
          have HIL := hide hil
          have HG2 := hide hg2
          obtain ⟨wi, rfl⟩ : ∃ wi, wi = wr := ⟨_, rfl⟩
          clear hi hg2 hil hx
          go_wp2_with fail
          go_loopw [8, 9] (fun hv kv w3 => ∃ (h : Bool) (k : Nat), hv = .bool h ∧ kv = I k ∧ k ≤ l.length ∧ G wo w3 ∧ (h = false → ∀ (m : Nat) y, m < k → l[m]? = some y → ∀ a ∈ (netOf rs tail y).1, a.2.1 ≠ x)) (fun _ kv _ => l.length - (RowKit.intOf kv).toNat)
          case atStart => exact ⟨false, 0, rfl, rfl, Nat.zero_le _, HG2.out, fun _ m y h => absurd h (by omega)⟩
          case round =>
            obtain ⟨h, k, rfl, rfl, hk, hg3, hno⟩ := hrel
            by_cases hkl : k < l.length
            · have hkI : (k : Int) < l.length := Int.ofNat_lt.2 hkl
              obtain ⟨y, hy⟩ : ∃ y, l[k]? = some y := ⟨_, List.getElem?_eq_getElem hkl⟩
              have hwk : wrap64 ((k : Int) + 1) = (k : Int) + 1 := wone6 k (Nat.le_trans (Nat.le_of_lt hkl) HFEW.out)
              obtain ⟨M, hM⟩ : ∃ M, M = (netOf rs tail y).1 := ⟨_, rfl⟩
              have HML : Hid (M.length ≤ 1048576) := by rw [hM]; exact HAL.out y
              have HOF := hide (of_any w0 wr.drew (.slice rva rs.length rvc) rs tail y HN0.out ((HGW.out.trans hg3).trans (G.drew (G.refl _))) (HR64.out y (List.mem_of_getElem? hy)) hrl)
              rw [← hM] at HOF
              have HALL : Hid (∀ V, G wr V → (fun V => (∀ o, V.cell? ⟨nb, o, none⟩ = ([.slice rva rs.length rvc, .bool tail] : List Value)[o]?) ∧ V.cell? ⟨g, k, none⟩ = some (I y)) V) := fun V gV => ⟨(HNB.out.G ((HGW.out.trans hg3).trans gV)).cell, HCL.out V (hg3.trans gV) k y hy⟩
              have HGW3 := hide (HGW.out.trans hg3)
              have HG3 := hide hg3
              have HKL := hide hkl
              have HNO := hide hno
              have HYE := hide hy
              have HM := hide hM
              obtain ⟨code, hcode⟩ : ∃ code, code = (netOf rs tail y).2 := ⟨_, rfl⟩
              rw [← hcode] at HOF
              clear hk hg3 hno hkl hy hM hcode
              go_wp2_with fail
              refine wp_region_noPanic ?_
              refine wp_region_held_drew (S := (fun V => (∀ o, V.cell? ⟨nb, o, none⟩ = ([.slice rva rs.length rvc, .bool tail] : List Value)[o]?) ∧ V.cell? ⟨g, k, none⟩ = some (I y))) (by kernel_rfl) (HALL.out _ (G.drew (G.refl _))) (fun hHeld => ?_)
              refine wpAnyH_take (i := 0) (v := ?_) rfl (by kernel_rfl) (by kernel_rfl) (by kernel_rfl) (fun _ _ _ h => h) (Or.inl ⟨by rfl, ?_⟩) hHeld ?_
              rotate_left 1
              · (intro w hSw; obtain ⟨q1, q2⟩ := hSw; go_simp; try with_reducible rfl)
              try simp only [Act.put, List.getElem_toArray, List.getElem_cons_zero, List.setIfInBounds_toArray, List.set_cons_zero, List.set_cons_succ]
              refine wpAnyH_take (i := 1) (v := ?_) rfl (by kernel_rfl) (by kernel_rfl) (by kernel_rfl) (fun _ _ _ h => h) (Or.inl ⟨by rfl, ?_⟩) hHeld ?_
              rotate_left 1
              · (intro w hSw; obtain ⟨q1, q2⟩ := hSw; go_simp; try with_reducible rfl)
              try simp only [Act.put, List.getElem_toArray, List.getElem_cons_zero, List.getElem_cons_succ, List.setIfInBounds_toArray, List.set_cons_zero, List.set_cons_succ]
              refine wpAnyH_take (i := 2) (v := ?_) rfl (by kernel_rfl) (by kernel_rfl) (by kernel_rfl) (fun _ _ _ h => h) (Or.inl ⟨by rfl, ?_⟩) hHeld ?_
              rotate_left 1
              · (intro w hSw; obtain ⟨q1, q2⟩ := hSw; go_simp; try with_reducible rfl)
              try simp only [Act.put, List.getElem_toArray, List.getElem_cons_zero, List.getElem_cons_succ, List.setIfInBounds_toArray, List.set_cons_zero, List.set_cons_succ]
              refine wpAnyH_take (i := 3) (v := ?_) rfl (by kernel_rfl) (by kernel_rfl) (by kernel_rfl) (fun _ _ _ h => h) (Or.inl ⟨by rfl, ?_⟩) hHeld ?_
              rotate_left 1
              · (intro w hSw; obtain ⟨q1, q2⟩ := hSw; go_simp; try with_reducible rfl)
              try simp only [Act.put, List.getElem_toArray, List.getElem_cons_zero, List.getElem_cons_succ, List.setIfInBounds_toArray, List.set_cons_zero, List.set_cons_succ]
              refine wpAnyH_take (i := 4) (v := ?_) rfl (by kernel_rfl) (by kernel_rfl) (by kernel_rfl) (fun _ _ _ h => h) (Or.inl ⟨by rfl, ?_⟩) hHeld ?_
              rotate_left 1
              · (intro w hSw; obtain ⟨q1, q2⟩ := hSw; go_simp; try with_reducible rfl)
              try simp only [Act.put, List.getElem_toArray, List.getElem_cons_zero, List.getElem_cons_succ, List.setIfInBounds_toArray, List.set_cons_zero, List.set_cons_succ]
              refine wpAnyH_ready (rs := [5]) (by kernel_rfl) (by simp) (AllReadyH.cons rfl (fun K hK => ?_) AllReadyH.nil)
              clear hHeld
              go_simp
              refine HOF.out.mono ?_
              rintro e w5 ⟨lv, rfl, hax, hg5⟩
              have HG5 := hide (G.trans (G.drew (G.refl wr)) hg5)
              have har := hax.arcs ((HGW3.out.trans (G.drew (G.refl wr))).trans hg5)
              obtain ⟨la5, lc5, rfl⟩ : ∃ la lc, lv = .slice la M.length lc := by obtain ⟨q1, q2, q3, -⟩ := har.at_; exact ⟨q1, q2, q3⟩
              have HA5 := hide har
              clear hax hg5 har
              go_wp2_with fail
              refine hK.out _ _ (HALL.out _ HG5.out) (fun hHeld => ?_)
              clear hK K
              try simp only [Act.put, List.getElem_toArray, List.getElem_cons_zero, List.getElem_cons_succ, List.setIfInBounds_toArray, List.set_cons_zero, List.set_cons_succ]
              refine wpAnyH_take (i := 6) (v := ?_) rfl (by kernel_rfl) (by kernel_rfl) (by kernel_rfl) (fun _ _ _ h => h) (Or.inl ⟨by rfl, ?_⟩) hHeld ?_
              rotate_left 1
              · (intro w hSw; (try dsimp only at hSw); go_simp; try with_reducible rfl)
              try simp only [Act.put, List.getElem_toArray, List.getElem_cons_zero, List.getElem_cons_succ, List.setIfInBounds_toArray, List.set_cons_zero, List.set_cons_succ]
              refine wpAnyH_take (i := 7) (v := ?_) rfl (by kernel_rfl) (by kernel_rfl) (by kernel_rfl) (fun _ _ _ h => h) (Or.inl ⟨by rfl, ?_⟩) hHeld ?_
              rotate_left 1
              · (intro w hSw; (try dsimp only at hSw); go_simp; try with_reducible rfl)
              try simp only [Act.put, List.getElem_toArray, List.getElem_cons_zero, List.getElem_cons_succ, List.setIfInBounds_toArray, List.set_cons_zero, List.set_cons_succ]
              refine wpAnyH_take (i := 8) (v := ?_) rfl (by kernel_rfl) (by kernel_rfl) (by kernel_rfl) (fun _ _ _ h => h) (Or.inl ⟨by rfl, ?_⟩) hHeld ?_
              rotate_left 1
              · (intro w hSw; (try dsimp only at hSw); go_simp; try with_reducible rfl)
              try simp only [Act.put, List.getElem_toArray, List.getElem_cons_zero, List.getElem_cons_succ, List.setIfInBounds_toArray, List.set_cons_zero, List.set_cons_succ]
              refine wpAnyH_take (i := 9) (v := ?_) rfl (by kernel_rfl) (by kernel_rfl) (by kernel_rfl) (fun _ _ _ h => h) (Or.inl ⟨by rfl, ?_⟩) hHeld ?_
              rotate_left 1
              · (intro w hSw; (try dsimp only at hSw); go_simp; try with_reducible rfl)
              try simp only [Act.put, List.getElem_toArray, List.getElem_cons_zero, List.getElem_cons_succ, List.setIfInBounds_toArray, List.set_cons_zero, List.set_cons_succ]
              refine wpAnyH_take (i := 10) (v := ?_) rfl (by kernel_rfl) (by kernel_rfl) (by kernel_rfl) (fun _ _ _ h => h) (Or.inl ⟨by rfl, ?_⟩) hHeld ?_
              rotate_left 1
              · (intro w hSw; (try dsimp only at hSw); go_simp; try with_reducible rfl)
              try simp only [Act.put, List.getElem_toArray, List.getElem_cons_zero, List.getElem_cons_succ, List.setIfInBounds_toArray, List.set_cons_zero, List.set_cons_succ]
              refine wpAnyH_done (by kernel_rfl) ?_ _
              refine NoPanic.normal ?_
              clear HOF HALL
              have HG6 := hide (HG3.out.trans HG5.out)
              clear HG3 HG5 HGW3
              go_wp2_with fail
              obtain ⟨wj, rfl⟩ : ∃ wj, wj = w5 := ⟨_, rfl⟩
              go_loopw [8, 12] (fun hv jv w4 => ∃ (h' : Bool) (j : Nat), hv = .bool h' ∧ jv = I j ∧ j ≤ M.length ∧ G wj w4 ∧ (h' = false → h = false ∧ ∀ a ∈ M.take j, a.2.1 ≠ x)) (fun _ jv _ => M.length - (RowKit.intOf jv).toNat)
              case atStart => exact ⟨h, 0, rfl, rfl, Nat.zero_le _, by first | exact G.refl _ | exact g_drewN _ _, fun q => ⟨q, fun a ha => by simp at ha⟩⟩
              case round =>
                obtain ⟨h', j, rfl, rfl, hj, hg4, hnj⟩ := hrel
                by_cases hjl : j < M.length
                · have hjI : (j : Int) < M.length := Int.ofNat_lt.2 hjl
                  obtain ⟨⟨ye, yt, yw⟩, hz⟩ : ∃ z, M[j]? = some z := ⟨_, List.getElem?_eq_getElem hjl⟩
                  obtain ⟨-, ab, aoff, rfl, -, y2, -, -⟩ := (HA5.out.G hg4).get hz
                  simp only at y2
                  have cx := HCL.out wr (HG6.out.trans hg4) i x HX.out
                  have hwj : wrap64 ((j : Int) + 1) = (j : Int) + 1 := wone6 j (Nat.le_trans (Nat.le_of_lt hjl) HML.out)
                  have HTJ : Hid (M.take (j + 1) = M.take j ++ [(ye, yt, yw)]) := by show _ = _; rw [List.take_add_one, hz]; rfl
                  have HG4 := hide hg4
                  have HJL := hide hjl
                  have HNJ := hide hnj
                  clear hj hg4 hnj hjl hz
                  cases h' with
                  | true =>
                    go_wp2_with fail
                    go_quiet (fail)
                    go_wp2_with fail
                    go_roundw
                    case rel => (try rw [hwj]); exact ⟨true, j + 1, rfl, by simp, HJL.out, HG4.out.trans (g_drewN _ _), fun q => (by cases q)⟩
                    case measure => (try rw [hwj]); simp only [RowKit.intOf]; exact ms5 HJL.out
                  | false =>
                    by_cases hyx : yt = x
                    · have hyb : (yt == x) = true := by simpa using hyx
                      clear hyx
                      go_wp2_with fail
                      go_quiet (fail)
                      go_wp2_with fail
                      go_roundw
                      case rel => (try rw [hwj]); exact ⟨true, j + 1, rfl, by simp, HJL.out, HG4.out.trans (g_drewN _ _), fun q => (by cases q)⟩
                      case measure => (try rw [hwj]); simp only [RowKit.intOf]; exact ms5 HJL.out
                    · have hyb : (yt == x) = false := beq_eq_false_iff_ne.2 hyx
                      have HNX : Hid (∀ a ∈ M.take (j + 1), a.2.1 ≠ x) := fun a ha => by
                        rw [HTJ.out] at ha
                        rcases List.mem_append.1 ha with q | q
                        · exact (HNJ.out rfl).2 a q
                        · rw [List.mem_singleton.1 q]; exact hyx
                      clear hyx
                      go_wp2_with fail
                      go_quiet (fail)
                      go_wp2_with fail
                      go_roundw
                      case rel => (try rw [hwj]); exact ⟨false, j + 1, rfl, by simp, HJL.out, HG4.out.trans (g_drewN _ _), fun _ => ⟨(HNJ.out (by first | rfl | trivial)).1, HNX.out⟩⟩
                      case measure => (try rw [hwj]); simp only [RowKit.intOf]; exact ms5 HJL.out
                · have hjI : ¬ ((j : Int) < M.length) := fun h => hjl (Int.ofNat_lt.1 h)
                  obtain rfl : j = M.length := Nat.le_antisymm hj (Nat.le_of_not_lt hjl)
                  have HREL : Hid (∃ (h : Bool) (k' : Nat), Value.bool h' = .bool h ∧ I ((k : Int) + 1) = I k' ∧ k' ≤ l.length ∧ G wo wr ∧ (h = false → ∀ (m : Nat) y, m < k' → l[m]? = some y → ∀ a ∈ (netOf rs tail y).1, a.2.1 ≠ x)) := by
                    refine ⟨h', k + 1, rfl, by simp, HKL.out, HG6.out.trans hg4, fun q m y' hm hy' => ?_⟩
                    obtain ⟨q1, q2⟩ := hnj q
                    rw [List.take_length] at q2
                    by_cases e : m = k
                    · subst e
                      rw [HYE.out] at hy'
                      cases hy'
                      rw [← HM.out]
                      exact q2
                    · exact HNO.out q1 m y' (Nat.lt_of_le_of_ne (Nat.le_of_lt_succ hm) e) hy'
                  clear hj hg4 hnj hjl
                  go_wp2_with fail
                  go_roundw
                  case rel => (try rw [hwk]); exact HREL.out
                  case measure => (try rw [hwk]); simp only [RowKit.intOf]; exact ms5 HKL.out
            · have hkI : ¬ ((k : Int) < l.length) := fun h => hkl (Int.ofNat_lt.1 h)
              obtain rfl : k = l.length := Nat.le_antisymm hk (Nat.le_of_not_lt hkl)
              have hg2 := hg3
              cases h with
              | true =>
                have HG7 := hide hg3
                clear hk hg3 hno hkl hg2
                go_wp2_with fail
                go_roundw
                case rel => (try rw [hwi]); exact ⟨i + 1, rfl, rfl, by simp, HIL.out, HG7.out⟩
                case measure => (try rw [hwi]); simp only [RowKit.intOf]; exact ms5 HIL.out
              | false =>
                have HNU : Hid (¬ U x) := fun hux => by
                  obtain ⟨u', hu', a, ha, e⟩ := HU.out x hux
                  obtain ⟨m, hm, e2⟩ := List.getElem_of_mem (HSUB.out u' hu')
                  exact hno rfl m u' hm (by rw [← e2]; exact List.getElem?_eq_getElem hm) a ha e
                have hil := HIL.out
                have hx := HX.out
                have hcp : l.length ≤ lc := Rw.cap HRW.out
                have f1 := fA hil hcp
                have f2 := fB hil
                have f3 := fC i
                have f4 := fD hil
                clear hk hg3 hno hkl
                by_cases hce : lc = i + 1
                · subst hce
                  obtain ⟨a8, c8, w8, a9, c9, w9, hrun8, hrun9, hrw9, hg9⟩ := cut_any wr w0.heap.size g (i + 1) l (Rw.G HRW.out hg2) i hil HFEW.out (HGW.out.trans hg2).size (.slice (some ⟨g, 0, none⟩) (l.length - (i + 1)) 0) (.inl ⟨rfl, rfl⟩)
                  have HRUN8 := hide hrun8
                  have HRUN9 := hide hrun9
                  have HREL : Hid (∃ (b : Bool) (l' : List Int) (lv' : Value), Value.slice a9 (l.length - 1) c9 = lv' ∧ Value.bool true = .bool b ∧ Rw w0.heap.size 2 1 w9 lv' l'.length (l'.map I) ∧ (∀ u, U u → u ∈ l') ∧ l'.length ≤ 1048576 ∧ (∀ x ∈ l', R64 x) ∧ G w0 w9) := by
                    refine ⟨true, l.take i ++ l.drop (i + 1), _, rfl, rfl, ?_, fun u hu => ?_, ?_, fun x hx => ?_, (HGW.out.trans hg2).trans hg9⟩
                    · rw [cut_len hil]
                      exact hrw9
                    · refine cut_mem hx (HSUB.out u hu) (fun e => ?_)
                      subst e
                      exact HNU.out hu
                    · rw [cut_len hil]
                      exact Nat.le_trans (Nat.sub_le _ _) HFEW.out
                    · rcases List.mem_append.1 hx with q | q
                      · exact HR64.out x (List.mem_of_mem_take q)
                      · exact HR64.out x (List.mem_of_mem_drop q)
                  have HMS := hide (cut_ms hil)
                  clear hrun8 hrun9 hrw9 hg9 hx hil hg2
                  clear hcp
                  go_wp2_with (first | (at_builtin; refine wpList_append_run rfl _ _ 23 rfl (.slice none 0 0) (.slice (some ⟨g, 0, none⟩) i (i + 1)) rfl rfl HRUN8.out ?_) | (at_builtin; refine wpList_append_run rfl _ _ 23 rfl (.slice a8 i c8) (.slice (some ⟨g, 0, none⟩) (l.length - (i + 1)) 0) rfl rfl HRUN9.out ?_) | fail)
                  go_roundw
                  case rel => exact HREL.out
                  case measure => exact HMS.out
                · have HCE := hide hce
                  obtain ⟨a8, c8, w8, a9, c9, w9, hrun8, hrun9, hrw9, hg9⟩ := cut_any wr w0.heap.size g lc l (Rw.G HRW.out hg2) i hil HFEW.out (HGW.out.trans hg2).size (.slice (some ⟨g, i + 1, none⟩) (l.length - (i + 1)) (lc - (i + 1))) (.inr ⟨hce, rfl⟩)
                  have HRUN8 := hide hrun8
                  have HRUN9 := hide hrun9
                  have HREL : Hid (∃ (b : Bool) (l' : List Int) (lv' : Value), Value.slice a9 (l.length - 1) c9 = lv' ∧ Value.bool true = .bool b ∧ Rw w0.heap.size 2 1 w9 lv' l'.length (l'.map I) ∧ (∀ u, U u → u ∈ l') ∧ l'.length ≤ 1048576 ∧ (∀ x ∈ l', R64 x) ∧ G w0 w9) := by
                    refine ⟨true, l.take i ++ l.drop (i + 1), _, rfl, rfl, ?_, fun u hu => ?_, ?_, fun x hx => ?_, (HGW.out.trans hg2).trans hg9⟩
                    · rw [cut_len hil]
                      exact hrw9
                    · refine cut_mem hx (HSUB.out u hu) (fun e => ?_)
                      subst e
                      exact HNU.out hu
                    · rw [cut_len hil]
                      exact Nat.le_trans (Nat.sub_le _ _) HFEW.out
                    · rcases List.mem_append.1 hx with q | q
                      · exact HR64.out x (List.mem_of_mem_take q)
                      · exact HR64.out x (List.mem_of_mem_drop q)
                  have HMS := hide (cut_ms hil)
                  clear hrun8 hrun9 hrw9 hg9 hx hil hg2
                  clear hcp
                  go_wp2_with (first | (at_builtin; refine wpList_append_run rfl _ _ 23 rfl (.slice none 0 0) (.slice (some ⟨g, 0, none⟩) i lc) rfl rfl HRUN8.out ?_) | (at_builtin; refine wpList_append_run rfl _ _ 23 rfl (.slice a8 i c8) (.slice (some ⟨g, i + 1, none⟩) (l.length - (i + 1)) (lc - (i + 1))) rfl rfl HRUN9.out ?_) | fail)
                  go_roundw
                  case rel => exact HREL.out
                  case measure => exact HMS.out
        · have hiI : ¬ ((i : Int) < l.length) := fun h => hil (Int.ofNat_lt.1 h)
          obtain rfl : i = l.length := Nat.le_antisymm hi (Nat.le_of_not_lt hil)
          have HREL : Hid (∃ (b : Bool) (l' : List Int) (lv' : Value), Value.slice (some ⟨g, 0, none⟩) l.length lc = lv' ∧ Value.bool false = .bool b ∧ Rw w0.heap.size 2 1 wr lv' l'.length (l'.map I) ∧ (∀ u, U u → u ∈ l') ∧ l'.length ≤ 1048576 ∧ (∀ x ∈ l', R64 x) ∧ G w0 wr) := ⟨false, l, _, rfl, rfl, Rw.G HRW.out hg2, HSUB.out, HFEW.out, HR64.out, HGW.out.trans hg2⟩
          clear hi hg2 hil
          go_wp2_with fail
          go_roundw
          case rel => exact HREL.out
          case measure => exact Nat.lt_succ_self _
end Go.Proofs.YtemkilffagjmcaaDoor
