/- Wire: PutRequest. -/
import Derived.Test.YtnjeingpjoadjaaDoorW10
namespace Go.Proofs.YtnjeingpjoadjaaDoor
open Go.RowKit

/-- A request, as a thing of thought. -/
structure Rq where
  k : Int
  ns : List Int
  t : ByteArray
  bs : List Bool
/-- A request in memory: v is its value. -/
structure RqV (W : World) (v : Value) (q : Rq) : Prop where
  h : ∃ vn vb, v = .agg #[I q.k, vn, .string q.t, vb] ∧ Row eI.rel W vn q.ns ∧ Row eZ.rel W vb q.bs
  r : ∀ x ∈ q.ns, R64 x
  ln : q.ns.length ≤ 17592186044416
  lt : q.t.size ≤ 140737488351232
  lb : q.bs.length ≤ 140737488351232
theorem RqV.G {W W' : World} {v : Value} {q : Rq} (h : RqV W v q) (g : G W W') : RqV W' v q := by
  obtain ⟨⟨vn, vb, e, h1, h2⟩, r, a, b, c⟩ := h
  exact ⟨⟨vn, vb, e, h1.G g, h2.G g⟩, r, a, b, c⟩
/-- A request's body. -/
def Rq.body (q : Rq) : List Nat := (cnt q.ns.length ++ q.ns.flatMap (fun n => cnt (zig n))) ++ ((cnt q.t.size ++ bys q.t) ++ (cnt q.bs.length ++ pk q.bs))
theorem catL_num : ∀ l : List Int, catL numF l = some (l.flatMap fun n => cnt (zig n))
  | [] => rfl
  | n :: l => by rw [catL, catL_num l, List.flatMap_cons]; rfl
theorem Rq.body_eq (q : Rq) : cat (cat (some (cnt q.ns.length)) (catL numF q.ns)) (cat (some (cnt q.t.size ++ bys q.t)) (some (cnt q.bs.length ++ pk q.bs))) = some q.body := by rw [catL_num]; rfl
set_option maxRecDepth 100000 in
set_option maxHeartbeats 1000000 in
theorem request_any (W0 B w : World) (b : Nat) (s : Option (List Nat)) (v : Value) (q : Rq) (h : Wst W0 B w b s) (hv : RqV W0 v q) :
    Calls Tryd.prog 20 #[ptr b, v] w fun e w' => e = .returned (.tuple #[]) ∧ Wst W0 B w' b (wap s (some q.body)) := by
  obtain ⟨⟨vn, vb, rfl, h1, h2⟩, hr, ln, lt, lb⟩ := hv
  have hA := (G.refl w).alloc (.cells #[I q.k, vn, .string q.t, vb] 25)
  have hB := Blk.new w [I q.k, vn, .string q.t, vb] 25
  have hh := (h.G hA).rebase
  have HKP := hide hh.2
  have K1 := hide (putI_any W0 _ _ b s vn q.ns hh.1 h1 hr (Nat.le_trans ln (by decide)))
  have HB := hide hB
  have H2 := hide h2
  have HL := hide (And.intro lt lb)
  have hc := hB.cell
  have HE := hide (q.body_eq)
  clear h h1 h2 hr ln lt lb hB hA hh
  go_enter Tryd.func20, Tryd.ntmps20
  go_wp2_with fail
  generalize w.alloc (.cells #[I q.k, vn, .string q.t, vb] 25) = wA at HB HKP K1 hc ⊢
  refine K1.out.mono ?_
  rintro e w1 ⟨rfl, hw1⟩
  have hb1 := hw1.k.blk HB.out (by decide) (by decide)
  have K2 := hide (text_any W0 wA w1 b _ q.t hw1 HL.out.1)
  have hc1 := hb1.cell
  clear hw1 hb1 K1
  go_wp2_with fail
  refine K2.out.mono ?_
  rintro e w2 ⟨rfl, hw2⟩
  have hb2 := hw2.k.blk HB.out (by decide) (by decide)
  have K3 := hide (bits_any W0 wA w2 b _ vb q.bs hw2 H2.out HL.out.2)
  have hc2 := hb2.cell
  clear hw2 hb2 K2
  go_wp2_with fail
  refine K3.out.mono ?_
  rintro e w3 ⟨rfl, hw3⟩
  rw [wap_cat, wap_cat, HE.out] at hw3
  have HF := hide (hw3.base HKP.out)
  clear hw3 K3
  go_wp2_with fail
  exact ⟨rfl, _, results_none rfl _ _ _, rfl, HF.out⟩
def WfP (W0 : World) (k : Int) (s : Option (List Nat)) (e : Ending) (w' : World) : Prop := ∃ v' c, e = .returned (.tuple #[v', I c]) ∧ G W0 w' ∧ Fresh W0 v' ∧ match s with | none => c = 163 ∧ v' = .slice none 0 0 | some l => c = frC k l.length ∧ SwB w' v' (frL k l)
set_option maxRecDepth 100000 in
set_option maxHeartbeats 1000000 in
theorem wframe_any (W0 B w : World) (b : Nat) (s : Option (List Nat)) (k : Int) (h : Wst W0 B w b s) (hby : ∀ l, s = some l → By l) :
    Calls Tryd.prog 21 #[ptr b, I k] w (WfP W0 k s) := by
  cases s with
  | none =>
    obtain ⟨l, hw⟩ := h
    obtain ⟨g, _, _, ⟨v1, hB, _, _⟩, _⟩ := hw
    have hc := hB.cell
    have HG := hide g
    clear g hB
    go_enter Tryd.func21, Tryd.ntmps21
    go_wp2_with fail
    go_ret2
    exact ⟨_, 163, rfl, HG.out, Fresh.nil _, rfl, rfl⟩
  | some l =>
    obtain ⟨g, hb, hl, ⟨v1, hB, hs, hf⟩, _⟩ := h
    have hc := hB.cell
    have KF := hide (frame_any k l v1 w hs.toRow (hby l rfl) (by omega))
    have HG := hide g
    clear g hB hs hf hl hby hb
    go_enter Tryd.func21, Tryd.ntmps21
    go_wp2_with fail
    refine KF.out.mono ?_
    rintro e w1 ⟨v', rfl, hs1, hg1, hf1⟩
    have HF : Hid (∃ v'' c, Ending.returned (.tuple #[v', I (frC k l.length)]) = .returned (.tuple #[v'', I c]) ∧ G W0 w1 ∧ Fresh W0 v'' ∧ c = frC k l.length ∧ SwB w1 v'' (frL k l)) := ⟨v', _, rfl, HG.out.trans hg1, hf1.old HG.out, rfl, hs1⟩
    clear hs1 hg1 hf1 KF
    go_wp2_with fail
    go_ret2
    exact HF.out
theorem cnt_zig_by (n : Int) : By (cnt (zig n)) := cnt_by _
theorem Rq.body_by (q : Rq) : By q.body := by
  refine ((cnt_by _).app (fun x hx => ?_)).app (((cnt_by _).app (bys_by _)).app ((cnt_by _).app (pk_by _)))
  obtain ⟨n, _, hn⟩ := List.mem_flatMap.1 hx
  exact cnt_by _ x hn
set_option maxRecDepth 100000 in
set_option maxHeartbeats 1000000 in
theorem asks_any (k : Int) (w : World) : Calls Tryd.prog 18 #[I k] w fun e w' => e = .returned (.bool (decide (1 ≤ k ∧ k ≤ 12))) ∧ w' = w := by
  by_cases c1 : 1 ≤ k
  · by_cases c2 : k ≤ 12
    · have e : decide (1 ≤ k ∧ k ≤ 12) = true := decide_eq_true ⟨c1, c2⟩
      rw [e]
      have d1 := decide_eq_true c1
      have d2 := decide_eq_true c2
      clear e
      go_enter Tryd.func18, Tryd.ntmps18
      go_wp2_with fail
      go_ret
      exact ⟨rfl, rfl⟩
    · have e : decide (1 ≤ k ∧ k ≤ 12) = false := decide_eq_false (fun h => c2 h.2)
      rw [e]
      have d1 := decide_eq_true c1
      have d2 := decide_eq_false c2
      clear e
      go_enter Tryd.func18, Tryd.ntmps18
      go_wp2_with fail
      go_ret
      exact ⟨rfl, rfl⟩
  · have e : decide (1 ≤ k ∧ k ≤ 12) = false := decide_eq_false (fun h => c1 h.1)
    rw [e]
    have d1 := decide_eq_false c1
    clear e
    go_enter Tryd.func18, Tryd.ntmps18
    go_wp2_with fail
    go_ret
    exact ⟨rfl, rfl⟩
end Go.Proofs.YtnjeingpjoadjaaDoor
