/- PathsWays: the walk. -/
import Derived.Test.YtcbjcienjolceaaDoorPv4
import Derived.Test.YtcbjcienjolceaaDoorPy1
import Derived.Test.YtcbjcienjolceaaDoorPm4
namespace Go.Proofs.YtcbjcienjolceaaDoor
open Go.RowKit

/-- A row of ids stays where only the asked list turns, which is another one. -/
theorem Rw.askW {lo n : Nat} {W W' : World} {v av av' : Value} {xs : List Value} (h : Rw lo 2 1 W v n xs) (k : AskO W W' av av') (hne : ∀ b, v.ownBlock = some b → av.ownBlock ≠ some b) : Rw lo 2 1 W' v n xs := h.keep fun b hb => by
  obtain ⟨_, _, ys, hy⟩ := h.own hb
  exact k.1 b ys hy (hne b hb)
/-- Three times two lists, of three times. -/
theorem six_ls (lo : Nat) (w : World) (m1 m2 : Nat) (v0 v1 v2 v3 v4 v5 : Value) (l0 l1 l2 l3 l4 l5 : List Int)
    (r0 : Rw lo 2 1 w v0 l0.length (l0.map I)) (r1 : Rw lo 2 1 w v1 l1.length (l1.map I)) (r2 : Rw lo 2 1 w v2 l2.length (l2.map I)) (r3 : Rw lo 2 1 w v3 l3.length (l3.map I)) (r4 : Rw lo 2 1 w v4 l4.length (l4.map I)) (r5 : Rw lo 2 1 w v5 l5.length (l5.map I))
    (d0 : ∀ b, v0.ownBlock = some b → v1.ownBlock ≠ some b) (d1 : ∀ b, v2.ownBlock = some b → v3.ownBlock ≠ some b) (d2 : ∀ b, v4.ownBlock = some b → v5.ownBlock ≠ some b) (hm : m1 ≤ m2)
    (o0 : ∀ b, v0.ownBlock = some b → b < m1) (o1 : ∀ b, v1.ownBlock = some b → b < m1) (o2 : ∀ b, v2.ownBlock = some b → m1 ≤ b ∧ b < m2) (o3 : ∀ b, v3.ownBlock = some b → m1 ≤ b ∧ b < m2) (o4 : ∀ b, v4.ownBlock = some b → m2 ≤ b) (o5 : ∀ b, v5.ownBlock = some b → m2 ≤ b) : Ls lo w [v0, v1, v2, v3, v4, v5] [l0, l1, l2, l3, l4, l5] := by
  refine ⟨rfl, fun j v l hv hl => ?_, fun i j v v' b hij hv hv' hb e => ?_⟩
  · match j, hv, hl with
    | 0, hv, hl => simp only [List.getElem?_cons_zero, Option.some.injEq] at hv hl; subst hv; subst hl; exact r0
    | 1, hv, hl => simp only [List.getElem?_cons_zero, List.getElem?_cons_succ, Option.some.injEq] at hv hl; subst hv; subst hl; exact r1
    | 2, hv, hl => simp only [List.getElem?_cons_zero, List.getElem?_cons_succ, Option.some.injEq] at hv hl; subst hv; subst hl; exact r2
    | 3, hv, hl => simp only [List.getElem?_cons_zero, List.getElem?_cons_succ, Option.some.injEq] at hv hl; subst hv; subst hl; exact r3
    | 4, hv, hl => simp only [List.getElem?_cons_zero, List.getElem?_cons_succ, Option.some.injEq] at hv hl; subst hv; subst hl; exact r4
    | 5, hv, hl => simp only [List.getElem?_cons_zero, List.getElem?_cons_succ, Option.some.injEq] at hv hl; subst hv; subst hl; exact r5
    | j + 6, hv, hl => simp at hv
  · match i, j, hv, hv' with
    | 0, 0, _, _ => exact absurd rfl hij
    | 0, 1, hv, hv' => simp only [List.getElem?_cons_zero, List.getElem?_cons_succ, Option.some.injEq] at hv hv'; subst hv; subst hv'; exact d0 b hb e
    | 0, 2, hv, hv' => simp only [List.getElem?_cons_zero, List.getElem?_cons_succ, Option.some.injEq] at hv hv'; subst hv; subst hv'; have h1 := o0 b hb; have h2 := o2 b e; omega
    | 0, 3, hv, hv' => simp only [List.getElem?_cons_zero, List.getElem?_cons_succ, Option.some.injEq] at hv hv'; subst hv; subst hv'; have h1 := o0 b hb; have h2 := o3 b e; omega
    | 0, 4, hv, hv' => simp only [List.getElem?_cons_zero, List.getElem?_cons_succ, Option.some.injEq] at hv hv'; subst hv; subst hv'; have h1 := o0 b hb; have h2 := o4 b e; omega
    | 0, 5, hv, hv' => simp only [List.getElem?_cons_zero, List.getElem?_cons_succ, Option.some.injEq] at hv hv'; subst hv; subst hv'; have h1 := o0 b hb; have h2 := o5 b e; omega
    | 1, 0, hv, hv' => simp only [List.getElem?_cons_zero, List.getElem?_cons_succ, Option.some.injEq] at hv hv'; subst hv; subst hv'; exact d0 b e hb
    | 1, 1, _, _ => exact absurd rfl hij
    | 1, 2, hv, hv' => simp only [List.getElem?_cons_zero, List.getElem?_cons_succ, Option.some.injEq] at hv hv'; subst hv; subst hv'; have h1 := o1 b hb; have h2 := o2 b e; omega
    | 1, 3, hv, hv' => simp only [List.getElem?_cons_zero, List.getElem?_cons_succ, Option.some.injEq] at hv hv'; subst hv; subst hv'; have h1 := o1 b hb; have h2 := o3 b e; omega
    | 1, 4, hv, hv' => simp only [List.getElem?_cons_zero, List.getElem?_cons_succ, Option.some.injEq] at hv hv'; subst hv; subst hv'; have h1 := o1 b hb; have h2 := o4 b e; omega
    | 1, 5, hv, hv' => simp only [List.getElem?_cons_zero, List.getElem?_cons_succ, Option.some.injEq] at hv hv'; subst hv; subst hv'; have h1 := o1 b hb; have h2 := o5 b e; omega
    | 2, 0, hv, hv' => simp only [List.getElem?_cons_zero, List.getElem?_cons_succ, Option.some.injEq] at hv hv'; subst hv; subst hv'; have h1 := o2 b hb; have h2 := o0 b e; omega
    | 2, 1, hv, hv' => simp only [List.getElem?_cons_zero, List.getElem?_cons_succ, Option.some.injEq] at hv hv'; subst hv; subst hv'; have h1 := o2 b hb; have h2 := o1 b e; omega
    | 2, 2, _, _ => exact absurd rfl hij
    | 2, 3, hv, hv' => simp only [List.getElem?_cons_zero, List.getElem?_cons_succ, Option.some.injEq] at hv hv'; subst hv; subst hv'; exact d1 b hb e
    | 2, 4, hv, hv' => simp only [List.getElem?_cons_zero, List.getElem?_cons_succ, Option.some.injEq] at hv hv'; subst hv; subst hv'; have h1 := o2 b hb; have h2 := o4 b e; omega
    | 2, 5, hv, hv' => simp only [List.getElem?_cons_zero, List.getElem?_cons_succ, Option.some.injEq] at hv hv'; subst hv; subst hv'; have h1 := o2 b hb; have h2 := o5 b e; omega
    | 3, 0, hv, hv' => simp only [List.getElem?_cons_zero, List.getElem?_cons_succ, Option.some.injEq] at hv hv'; subst hv; subst hv'; have h1 := o3 b hb; have h2 := o0 b e; omega
    | 3, 1, hv, hv' => simp only [List.getElem?_cons_zero, List.getElem?_cons_succ, Option.some.injEq] at hv hv'; subst hv; subst hv'; have h1 := o3 b hb; have h2 := o1 b e; omega
    | 3, 2, hv, hv' => simp only [List.getElem?_cons_zero, List.getElem?_cons_succ, Option.some.injEq] at hv hv'; subst hv; subst hv'; exact d1 b e hb
    | 3, 3, _, _ => exact absurd rfl hij
    | 3, 4, hv, hv' => simp only [List.getElem?_cons_zero, List.getElem?_cons_succ, Option.some.injEq] at hv hv'; subst hv; subst hv'; have h1 := o3 b hb; have h2 := o4 b e; omega
    | 3, 5, hv, hv' => simp only [List.getElem?_cons_zero, List.getElem?_cons_succ, Option.some.injEq] at hv hv'; subst hv; subst hv'; have h1 := o3 b hb; have h2 := o5 b e; omega
    | 4, 0, hv, hv' => simp only [List.getElem?_cons_zero, List.getElem?_cons_succ, Option.some.injEq] at hv hv'; subst hv; subst hv'; have h1 := o4 b hb; have h2 := o0 b e; omega
    | 4, 1, hv, hv' => simp only [List.getElem?_cons_zero, List.getElem?_cons_succ, Option.some.injEq] at hv hv'; subst hv; subst hv'; have h1 := o4 b hb; have h2 := o1 b e; omega
    | 4, 2, hv, hv' => simp only [List.getElem?_cons_zero, List.getElem?_cons_succ, Option.some.injEq] at hv hv'; subst hv; subst hv'; have h1 := o4 b hb; have h2 := o2 b e; omega
    | 4, 3, hv, hv' => simp only [List.getElem?_cons_zero, List.getElem?_cons_succ, Option.some.injEq] at hv hv'; subst hv; subst hv'; have h1 := o4 b hb; have h2 := o3 b e; omega
    | 4, 4, _, _ => exact absurd rfl hij
    | 4, 5, hv, hv' => simp only [List.getElem?_cons_zero, List.getElem?_cons_succ, Option.some.injEq] at hv hv'; subst hv; subst hv'; exact d2 b hb e
    | 5, 0, hv, hv' => simp only [List.getElem?_cons_zero, List.getElem?_cons_succ, Option.some.injEq] at hv hv'; subst hv; subst hv'; have h1 := o5 b hb; have h2 := o0 b e; omega
    | 5, 1, hv, hv' => simp only [List.getElem?_cons_zero, List.getElem?_cons_succ, Option.some.injEq] at hv hv'; subst hv; subst hv'; have h1 := o5 b hb; have h2 := o1 b e; omega
    | 5, 2, hv, hv' => simp only [List.getElem?_cons_zero, List.getElem?_cons_succ, Option.some.injEq] at hv hv'; subst hv; subst hv'; have h1 := o5 b hb; have h2 := o2 b e; omega
    | 5, 3, hv, hv' => simp only [List.getElem?_cons_zero, List.getElem?_cons_succ, Option.some.injEq] at hv hv'; subst hv; subst hv'; have h1 := o5 b hb; have h2 := o3 b e; omega
    | 5, 4, hv, hv' => simp only [List.getElem?_cons_zero, List.getElem?_cons_succ, Option.some.injEq] at hv hv'; subst hv; subst hv'; exact d2 b e hb
    | 5, 5, _, _ => exact absurd rfl hij
    | i + 6, _, hv, _ => simp at hv
    | _, j + 6, _, hv' => simp at hv'
set_option maxRecDepth 100000 in
set_option maxHeartbeats 4000000 in
theorem ways_law (W : World) (rv : Value) (rs : List Nr) (tail : Bool) (from_ to_ : Int) (hN : Nrs W rv rs) (hM : Mk W) (hrl : rs.length ≤ 1048576) (hal : ∀ id, (netOf rs tail id).1.length ≤ 1048576) (hA : ∀ id, R64 id → ∀ a ∈ (netOf rs tail id).1, R64 a.2.1) (hf : R64 from_) (ht : R64 to_) :
    Calls Tryd.prog 7 #[.agg #[rv, .bool tail], I from_, I to_] W fun e W' => e = .returned (.bool true) ∧ G W W' := by
  obtain ⟨rva, rvc, hrv⟩ : ∃ a c, rv = .slice a rs.length c := by obtain ⟨a, c, e, _⟩ := hN; exact ⟨a, c, e⟩
  subst hrv
  obtain ⟨code, hcode⟩ : ∃ c, c = (srch false rs tail (some to_) (-1) 4097 [] [(from_, 0)] []).code := ⟨_, rfl⟩
  obtain ⟨asked, hasked⟩ : ∃ l, l = (srch false rs tail (some to_) (-1) 4097 [] [(from_, 0)] []).asked := ⟨_, rfl⟩
  have hlen : asked.length ≤ 4097 := by rw [hasked]; have := srch_len false rs tail (some to_) (-1) 4097 [] [(from_, 0)] []; simpa using this
  have hr64 : ∀ id ∈ asked, R64 id := by rw [hasked]; exact srch_r64 false rs tail (some to_) (-1) hA 4097 [] [(from_, 0)] [] (fun p hp => by simp at hp; subst hp; exact hf) (fun i hi => by simp at hi)
  have hlen2 : (srch false rs tail (some from_) (-1) 4097 [] [(to_, 0)] []).asked.length ≤ 4097 := by have := srch_len false rs tail (some from_) (-1) 4097 [] [(to_, 0)] []; simpa using this
  have HLN := hide hlen
  have HLN2 := hide hlen2
  have HR64 := hide hr64
  have HAL := hide hal
  have HCO := hide hcode
  have HAS := hide hasked
  have gA : G W (W.alloc (.cells #[.slice rva rs.length rvc, .bool tail] 25)) := (G.refl W).alloc _
  have gB : G W ((W.alloc (.cells #[.slice rva rs.length rvc, .bool tail] 25)).alloc (.cells #[.slice rva rs.length rvc, .bool tail, .slice none 0 0, .slice none 0 0] 31)) := gA.alloc _
  have hb3 := (Blk.new W [.slice rva rs.length rvc, .bool tail] 25).G ((G.refl _).alloc (.cells #[.slice rva rs.length rvc, .bool tail, .slice none 0 0, .slice none 0 0] 31))
  have hbs := Blk.new (W.alloc (.cells #[.slice rva rs.length rvc, .bool tail] 25)) [.slice rva rs.length rvc, .bool tail, .slice none 0 0, .slice none 0 0] 31
  rw [World.size_alloc] at hbs
  have HSH : Hid (∀ V b, G W V → Blk V b 31 [.slice rva rs.length rvc, .bool tail, .slice none 0 0, .slice none 0 0] → W.heap.size ≤ b → Shn W V b (.slice rva rs.length rvc) rs tail (.slice none 0 0) (.slice none 0 0) [] []) := fun V b gV hb hlo =>
    ⟨gV, hb, Rw.nil _ _ _ _, Rw.nil _ _ _ _, rfl, fun i id v h => by simp at h, hN, hlo, hM⟩
  have HLE := hide (least_all W _ (W.heap.size + 1) _ rs tail _ _ from_ to_ [] [] (by simp) (HSH.out _ _ gB hbs (Nat.le_succ _)) hf hrl hal code asked hcode hasked)
  have HB3 := hide hb3
  have HN := hide hN
  have HF := hide hf
  have HT := hide ht
  clear gA gB hb3 hbs hN hM hA hlen hlen2 hr64 hcode hasked hal hf ht
  go_enter Tryd.func7, Tryd.ntmps7
  go_wp2_with fail
  refine HLE.out.mono ?_
  rintro e w2 ⟨av2, gv2, gl2, s, ns, es, ok, nv2, ev2, hwo, rfl, hn2, he2, hd2, -, hsn, -, mp, hmv⟩
  rw [List.nil_append] at hsn
  obtain ⟨na2, nc2, rfl⟩ := Rw.form hn2
  obtain ⟨ea2, ec2, rfl⟩ := Rw.form he2
  have hlo2 : W.heap.size ≤ ((W.alloc (.cells #[.slice rva rs.length rvc, .bool tail] 25)).alloc (.cells #[.slice rva rs.length rvc, .bool tail, .slice none 0 0, .slice none 0 0] 31)).heap.size := by simp only [World.size_alloc]; omega
  have HWO := hide hwo
  have HWL := hide hwo.len
  obtain ⟨w3, hw3⟩ : ∃ w3, w3 = w2.alloc (.cells #[I s, .slice na2 ns.length nc2, .slice ea2 es.length ec2] 40) := ⟨_, rfl⟩
  obtain ⟨wb1, hwb1⟩ : ∃ wb1, wb1 = w2.heap.size := ⟨_, rfl⟩
  have gw3 : G w2 w3 := by rw [hw3]; exact (G.refl _).alloc _
  have kw3 : Blk w3 wb1 40 [I s, .slice na2 ns.length nc2, .slice ea2 es.length ec2] := by rw [hw3, hwb1]; exact Blk.new w2 [I s, .slice na2 ns.length nc2, .slice ea2 es.length ec2] 40
  have HN2 := hide ((Rw.base hn2 hlo2).G gw3)
  have HE2 := hide ((Rw.base he2 hlo2).G gw3)
  have HD2 : Hid (∀ b, (Value.slice na2 ns.length nc2).ownBlock = some b → (Value.slice ea2 es.length ec2).ownBlock ≠ some b) := fun b hb => (hd2 b hb).1
  have HS3 := hide (hsn.G gw3)
  have hb33 := (HB3.out.mv hmv (by decide)).G gw3
  have HB33 := hide hb33
  have HK1 := hide kw3
  have c3 := hb33.cell
  rw [hw3] at c3
  have HRL := hide (rleast_all w3 (.slice rva rs.length rvc) rs tail from_ to_ (HN.out.G HS3.out.g) hrl HAL.out HF.out code asked HCO.out HAS.out s ns es ok hwo)
  clear hwo hn2 he2 hd2 hsn hmv HLE hlo2 hb33 kw3 gw3 HB3
  go_wp2_with fail
  rw [← hw3, ← hwb1]
  clear hw3 hwb1 c3
  refine HRL.out.mono ?_
  rintro e w4 ⟨on, oe, qv, rfl, hno, heo, hqo, hg4⟩
  obtain ⟨oa, oc, rfl⟩ := Rw.form hno
  obtain ⟨pa, pc, rfl⟩ := Rw.form heo
  obtain ⟨qa, qc, rfl⟩ := Rw.form hqo
  obtain ⟨w5, hw5⟩ : ∃ w5, w5 = w4.alloc (.cells #[I s, .slice oa ns.length oc, .slice pa es.length pc] 40) := ⟨_, rfl⟩
  obtain ⟨wb2, hwb2⟩ : ∃ wb2, wb2 = w4.heap.size := ⟨_, rfl⟩
  have gw5 : G w4 w5 := by rw [hw5]; exact (G.refl _).alloc _
  have kw5 : Blk w5 wb2 40 [I s, .slice oa ns.length oc, .slice pa es.length pc] := by rw [hw5, hwb2]; exact Blk.new w4 [I s, .slice oa ns.length oc, .slice pa es.length pc] 40
  have g35 := hg4.trans gw5
  have HN5 := hide (Rw.G HN2.out g35)
  have HE5 := hide (Rw.G HE2.out g35)
  have HON5 : Hid (Rw W.heap.size 2 1 w5 (.slice oa ns.length oc) ns.length (ns.map I)) := Rw.base (Rw.G hno gw5) HS3.out.g.size
  have HOE5 : Hid (Rw W.heap.size 2 1 w5 (.slice pa es.length pc) es.length (es.map I)) := Rw.base (Rw.G heo gw5) HS3.out.g.size
  have HQ5 := hide (Rw.G hqo gw5)
  have HS5 := hide (HS3.out.G g35)
  have HB35 := hide (HB33.out.G g35)
  have HK15 := hide (HK1.out.G g35)
  have HK25 := hide kw5
  have k1 := HK15.out.cell
  have k2 := kw5.cell
  rw [hw5] at k1 k2
  rw [hwb2] at k2
  have HWE := hide (way_eq w5 W.heap.size W.heap.size W.heap.size W.heap.size s _ _ _ _ ns es HN5.out HON5.out HE5.out HOE5.out (by have := HWL.out; omega) (by have := HWL.out; omega))
  rw [hw5] at HWE
  clear hno heo hqo hg4 g35 kw5 gw5 HRL HN2 HE2 HS3 HB33 HK1
  go_wp2_with fail
  refine HWE.out.mono ?_
  rw [← hw5]
  rw [← hwb2]
  clear hw5 hwb2 k1 k2 HWE
  rintro e w6 ⟨rfl, hg6⟩
  have HWH := hide (whole_any W w6 _ _ rs tail av2 gv2 asked gl2 (HS5.out.G hg6) _ _ (Rw.G HQ5.out hg6) HR64.out hrl HAL.out (by have := HLN.out; omega))
  have HG6 := hide hg6
  have HGW5 := hide HS5.out.g
  clear hg6 HS5 HQ5
  go_wp2_with fail
  refine HWH.out.mono ?_
  rintro e w7 ⟨rfl, hg7⟩
  have g57 : G w5 w7 := HG6.out.trans hg7
  obtain ⟨w8, hw8⟩ : ∃ w8, w8 = w7.alloc (.cells #[.slice rva rs.length rvc, .bool tail, .slice none 0 0, .slice none 0 0] 31) := ⟨_, rfl⟩
  obtain ⟨sh8, hsh8⟩ : ∃ sh8, sh8 = w7.heap.size := ⟨_, rfl⟩
  have g78 : G w7 w8 := by rw [hw8]; exact (G.refl _).alloc _
  have k8 : Blk w8 sh8 31 [.slice rva rs.length rvc, .bool tail, .slice none 0 0, .slice none 0 0] := by rw [hw8, hsh8]; exact Blk.new w7 [.slice rva rs.length rvc, .bool tail, .slice none 0 0, .slice none 0 0] 31
  have g58 := g57.trans g78
  have hGW8 := HGW5.out.trans g58
  have hs8 := HSH.out w8 sh8 hGW8 k8 (by rw [hsh8]; exact (HGW5.out.trans g57).size)
  have c3 := (HB35.out.G g57).cell
  have HB38 := hide (HB35.out.G g58)
  have HK18 := hide (HK15.out.G g58)
  have HK28 := hide (HK25.out.G g58)
  have HN8 := hide (Rw.G HN5.out g58)
  have HE8 := hide (Rw.G HE5.out g58)
  have HON8 := hide (Rw.G HON5.out g58)
  have HOE8 := hide (Rw.G HOE5.out g58)
  have HLE2 := hide (least_all W w8 sh8 _ rs tail _ _ to_ from_ [] [] (by simp) hs8 HT.out hrl HAL.out _ _ rfl rfl)
  rw [hw8, hsh8] at HLE2
  have HLO8 := hide hGW8.size
  clear hg7 g57 g58 g78 k8 hGW8 hs8 HWH HG6 HGW5 HN5 HE5 HON5 HOE5 HB35 HK15 HK25
  go_wp2_with fail
  refine HLE2.out.mono ?_
  rw [← hw8, ← hsh8]
  clear hw8 hsh8 c3 HLE2
  rintro e w9 ⟨av9, gv9, gl9, s9, ns9, es9, ok9, nv9, ev9, hwo9, rfl, hn9, he9, hd9, hd9', hsn9, hao9, mp9, hmv9⟩
  rw [List.nil_append] at hsn9
  have noown : ∀ b, (Value.slice none 0 0).ownBlock ≠ some b := fun b e => by simp [Value.ownBlock] at e
  obtain ⟨na9, nc9, rfl⟩ := Rw.form hn9
  obtain ⟨ea9, ec9, rfl⟩ := Rw.form he9
  obtain ⟨w10, hw10⟩ : ∃ w10, w10 = w9.alloc (.cells #[I s9, .slice na9 ns9.length nc9, .slice ea9 es9.length ec9] 40) := ⟨_, rfl⟩
  obtain ⟨wb3, hwb3⟩ : ∃ wb3, wb3 = w9.heap.size := ⟨_, rfl⟩
  have gw10 : G w9 w10 := by rw [hw10]; exact (G.refl _).alloc _
  have kw10 : Blk w10 wb3 40 [I s9, .slice na9 ns9.length nc9, .slice ea9 es9.length ec9] := by rw [hw10, hwb3]; exact Blk.new w9 [I s9, .slice na9 ns9.length nc9, .slice ea9 es9.length ec9] 40
  have HWL9 := hide hwo9.len
  have HN10 := hide ((Rw.askW HN8.out hao9 (fun b _ => noown b)).G gw10)
  have HE10 := hide ((Rw.askW HE8.out hao9 (fun b _ => noown b)).G gw10)
  have HON10 := hide ((Rw.askW HON8.out hao9 (fun b _ => noown b)).G gw10)
  have HOE10 := hide ((Rw.askW HOE8.out hao9 (fun b _ => noown b)).G gw10)
  have HX10 := hide (Rw.G hn9 gw10)
  have HY10 := hide (Rw.G he9 gw10)
  have HOLD : Hid (∀ (u : Value) (n : Nat) (xs : List Value), Rw W.heap.size 2 1 w8 u n xs → ∀ b, u.ownBlock = some b → b < w8.heap.size ∧ av9.ownBlock ≠ some b) := fun u n xs hu b hb => by
    have h1 := (Rw.own hu hb).2.1
    refine ⟨h1, fun e => ?_⟩
    rcases hao9.2 b e with q | q
    · exact noown b q
    · omega
  have HD9 : Hid (∀ b, (Value.slice na9 ns9.length nc9).ownBlock = some b → (Value.slice ea9 es9.length ec9).ownBlock ≠ some b) := fun b hb => (hd9 b hb).1
  have HA9 : Hid (∀ b, (Value.slice na9 ns9.length nc9).ownBlock = some b → av9.ownBlock ≠ some b) := fun b hb => (hd9 b hb).2
  have HA9' := hide hd9'
  have HO9 : Hid ((∀ b, (Value.slice na9 ns9.length nc9).ownBlock = some b → w8.heap.size ≤ b ∧ b < w10.heap.size) ∧ (∀ b, (Value.slice ea9 es9.length ec9).ownBlock = some b → w8.heap.size ≤ b ∧ b < w10.heap.size)) :=
    ⟨fun b hb => ⟨(Rw.own hn9 hb).1, (Rw.own HX10.out hb).2.1⟩, fun b hb => ⟨(Rw.own he9 hb).1, (Rw.own HY10.out hb).2.1⟩⟩
  have hs10 := hsn9.G gw10
  have HK110 := hide ((HK18.out.mv hmv9 (by decide)).G gw10)
  have HK210 := hide ((HK28.out.mv hmv9 (by decide)).G gw10)
  have HK310 := hide kw10
  have HLE3 := hide (least_all W w10 sh8 _ rs tail _ _ from_ to_ _ gl9 (by have := HLN2.out; omega) hs10 HF.out hrl HAL.out code asked HCO.out HAS.out)
  rw [hw10] at HLE3
  have HG10 := hide hs10.g
  have HSZ : Hid (w8.heap.size ≤ w10.heap.size) := Nat.le_trans hmv9.size gw10.size
  clear hwo9 hn9 he9 hd9 hd9' hsn9 hao9 hmv9 kw10 gw10 hs10 HB38 HK18 HK28
  go_wp2_with fail
  refine HLE3.out.mono ?_
  rw [← hw10, ← hwb3]
  clear hw10 hwb3 HLE3
  rintro e w11 ⟨av11, gv11, gl11, s', ns', es', ok', nv11, ev11, hwo11, rfl, hn11, he11, hd11, -, hsn11, hao11, mp11, hmv11⟩
  obtain ⟨rfl, rfl, rfl, rfl⟩ := HWO.out.uniq hwo11
  obtain ⟨na11, nc11, rfl⟩ := Rw.form hn11
  obtain ⟨ea11, ec11, rfl⟩ := Rw.form he11
  obtain ⟨w12, hw12⟩ : ∃ w12, w12 = w11.alloc (.cells #[I s, .slice na11 ns.length nc11, .slice ea11 es.length ec11] 40) := ⟨_, rfl⟩
  obtain ⟨wb4, hwb4⟩ : ∃ wb4, wb4 = w11.heap.size := ⟨_, rfl⟩
  have gw12 : G w11 w12 := by rw [hw12]; exact (G.refl _).alloc _
  have kw12 : Blk w12 wb4 40 [I s, .slice na11 ns.length nc11, .slice ea11 es.length ec11] := by rw [hw12, hwb4]; exact Blk.new w11 [I s, .slice na11 ns.length nc11, .slice ea11 es.length ec11] 40
  have HN12 := hide ((Rw.askW HN10.out hao11 (fun b hb => (HOLD.out _ _ _ HN8.out b hb).2)).G gw12)
  have HE12 := hide ((Rw.askW HE10.out hao11 (fun b hb => (HOLD.out _ _ _ HE8.out b hb).2)).G gw12)
  have HON12 := hide ((Rw.askW HON10.out hao11 (fun b hb => (HOLD.out _ _ _ HON8.out b hb).2)).G gw12)
  have HOE12 := hide ((Rw.askW HOE10.out hao11 (fun b hb => (HOLD.out _ _ _ HOE8.out b hb).2)).G gw12)
  have HX12 := hide (Rw.base ((Rw.askW HX10.out hao11 HA9.out).G gw12) HLO8.out)
  have HY12 := hide (Rw.base ((Rw.askW HY10.out hao11 HA9'.out).G gw12) HLO8.out)
  have HU12 : Hid (Rw W.heap.size 2 1 w12 (.slice na11 ns.length nc11) ns.length (ns.map I)) := Rw.base (Rw.G hn11 gw12) HG10.out.size
  have HV12 : Hid (Rw W.heap.size 2 1 w12 (.slice ea11 es.length ec11) es.length (es.map I)) := Rw.base (Rw.G he11 gw12) HG10.out.size
  have HD11 : Hid (∀ b, (Value.slice na11 ns.length nc11).ownBlock = some b → (Value.slice ea11 es.length ec11).ownBlock ≠ some b) := fun b hb => (hd11 b hb).1
  have HO11 : Hid ((∀ b, (Value.slice na11 ns.length nc11).ownBlock = some b → w10.heap.size ≤ b) ∧ (∀ b, (Value.slice ea11 es.length ec11).ownBlock = some b → w10.heap.size ≤ b)) := ⟨fun b hb => (Rw.own hn11 hb).1, fun b hb => (Rw.own he11 hb).1⟩
  have HOO : Hid ((∀ b, (Value.slice na2 ns.length nc2).ownBlock = some b → b < w8.heap.size) ∧ (∀ b, (Value.slice ea2 es.length ec2).ownBlock = some b → b < w8.heap.size)) := ⟨fun b hb => (HOLD.out _ _ _ HN8.out b hb).1, fun b hb => (HOLD.out _ _ _ HE8.out b hb).1⟩
  have HK112 := hide ((HK110.out.mv hmv11 (by decide)).G gw12)
  have HK212 := hide ((HK210.out.mv hmv11 (by decide)).G gw12)
  have HK312 := hide ((HK310.out.mv hmv11 (by decide)).G gw12)
  have HK412 := hide kw12
  have HG12 := hide (hsn11.g.trans gw12)
  have k2 := HK212.out.cell
  have k4 := kw12.cell
  rw [hw12] at k2 k4
  rw [hwb4] at k4
  have HWE := hide (way_eq w12 W.heap.size W.heap.size W.heap.size W.heap.size s _ _ _ _ ns es HU12.out HON12.out HV12.out HOE12.out (by have := HWL.out; omega) (by have := HWL.out; omega))
  rw [hw12] at HWE
  clear hwo11 hn11 he11 hd11 hsn11 hao11 hmv11 kw12 gw12 HN8 HE8 HON8 HOE8 HN10 HE10 HON10 HOE10 HX10 HY10 HOLD HA9 HA9' HK110 HK210 HK310 HG10
  go_wp2_with fail
  refine HWE.out.mono ?_
  rw [← hw12, ← hwb4]
  clear hw12 hwb4 k2 k4 HWE
  rintro e w13 ⟨rfl, hg13⟩
  have HWF := hide (way_eq w13 W.heap.size W.heap.size W.heap.size W.heap.size s _ _ _ _ ns es (Rw.G HN12.out hg13) (Rw.G HON12.out hg13) (Rw.G HE12.out hg13) (Rw.G HOE12.out hg13) (by have := HWL.out; omega) (by have := HWL.out; omega))
  have HG13 := hide hg13
  have k1 := (HK112.out.G hg13).cell
  have k2 := (HK212.out.G hg13).cell
  clear hg13
  go_wp2_with fail
  refine HWF.out.mono ?_
  rintro e w14 ⟨rfl, hg14⟩
  have g1214 : G w12 w14 := HG13.out.trans hg14
  have j1 := (HK112.out.G g1214).cell
  have j3 := (HK312.out.G g1214).cell
  have j4 := (HK412.out.G g1214).cell
  obtain ⟨w15, hw15⟩ : ∃ w15, w15 = w14.alloc (.cells #[.slice na2 ns.length nc2, .slice ea2 es.length ec2, .slice na9 ns9.length nc9, .slice ea9 es9.length ec9, .slice na11 ns.length nc11, .slice ea11 es.length ec11] 26) := ⟨_, rfl⟩
  have gD : G w14 w15 := by rw [hw15]; exact (G.refl _).alloc _
  have gE : G w12 w15 := g1214.trans gD
  have HAP := hide (apart_any W w15 w14.heap.size [.slice na2 ns.length nc2, .slice ea2 es.length ec2, .slice na9 ns9.length nc9, .slice ea9 es9.length ec9, .slice na11 ns.length nc11, .slice ea11 es.length ec11] [ns.length, es.length, ns9.length, es9.length, ns.length, es.length] [ns, es, ns9, es9, ns, es]
    ⟨six_ls W.heap.size w15 w8.heap.size w10.heap.size _ _ _ _ _ _ ns es ns9 es9 ns es (Rw.G HN12.out gE) (Rw.G HE12.out gE) (Rw.G HX12.out gE) (Rw.G HY12.out gE) (Rw.G HU12.out gE) (Rw.G HV12.out gE) HD2.out HD9.out HD11.out HSZ.out HOO.out.1 HOO.out.2 HO9.out.1 HO9.out.2 HO11.out.1 HO11.out.2, rfl, by rw [hw15]; exact Blk.new w14 _ _, HG12.out.trans gE⟩ (by simp) (fun n hn => by have := HWL.out; have := HWL9.out; simp at hn; rcases hn with rfl | rfl | rfl | rfl | rfl | rfl <;> omega) 6 rfl)
  rw [hw15] at HAP
  clear hg14 g1214 gD gE hw15 k1 k2 HWF
  go_wp2_with fail
  refine HAP.out.mono ?_
  rintro e w16 ⟨rfl, hg16⟩
  go_wp2_with fail
  go_ret
  exact ⟨rfl, hg16⟩
end Go.Proofs.YtcbjcienjolceaaDoor
