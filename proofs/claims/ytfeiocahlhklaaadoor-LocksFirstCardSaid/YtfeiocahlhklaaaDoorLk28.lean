/- Locks: the law's good. -/
import Derived.Test.YtfeiocahlhklaaaDoorLk27
namespace Go.Proofs.YtfeiocahlhklaaaDoor
open Go.RowKit Go.PlainAid

set_option maxRecDepth 100000 in
set_option maxHeartbeats 1000000 in
theorem good_any (r : Rs) (w : World) : Calls Tryd.prog 4 #[r.v] w fun e w' => (e = .returned (.bool false) ∨ (e = .returned (.bool true) ∧ ResP r)) ∧ G w w' := by
  simp only [Rs.v]
  obtain ⟨a, b, c⟩ := r
  have hbt := get_bt b
  have h0 := bt_nonneg b 0
  have h00 := bt_le b 0
  simp only
  by_cases h1 : a = 1
  · subst h1
    by_cases hb : b = ByteArray.empty
    · subst hb
      by_cases hc : c = 0
      · subst hc
        go_enter Tryd.func4, Tryd.ntmps4
        go_wp2
        go_ret
        exact ⟨.inr ⟨rfl, .inl ⟨rfl, rfl, rfl⟩⟩, (G.refl w).alloc _⟩
      · have hcb : (c == 0) = false := by simpa using hc
        go_enter Tryd.func4, Tryd.ntmps4
        go_wp2
        go_ret
        exact ⟨.inl rfl, (G.refl w).alloc _⟩
    · have hl : ¬ b.toList = [] := fun e => hb (toList_nil.1 e)
      go_enter Tryd.func4, Tryd.ntmps4
      go_wp2
      go_ret
      exact ⟨.inl rfl, (G.refl w).alloc _⟩
  · by_cases h2 : a = 2
    · subst h2
      by_cases hsz : b.size = 1
      · by_cases hlo : 97 ≤ bt b 0
        · by_cases hhi : bt b 0 ≤ 122
          · by_cases hc : c = 0
            · subst hc
              have HN : Hid (NameP b) := ⟨by omega, by omega, hlo, fun j hj => by
                have e : j = 0 := by omega
                rw [e]
                exact .inl ⟨hlo, hhi⟩⟩
              go_enter Tryd.func4, Tryd.ntmps4
              go_wp2
              go_ret
              exact ⟨.inr ⟨rfl, .inr (.inl ⟨rfl, HN.out, rfl⟩)⟩, (G.refl w).alloc _⟩
            · have hcb : (c == 0) = false := by simpa using hc
              go_enter Tryd.func4, Tryd.ntmps4
              go_wp2
              go_ret
              exact ⟨.inl rfl, (G.refl w).alloc _⟩
          ·
            go_enter Tryd.func4, Tryd.ntmps4
            go_wp2
            go_ret
            exact ⟨.inl rfl, (G.refl w).alloc _⟩
        ·
          go_enter Tryd.func4, Tryd.ntmps4
          go_wp2
          go_ret
          exact ⟨.inl rfl, (G.refl w).alloc _⟩
      · have hszI : ¬ (b.size : Int) = 1 := by omega
        go_enter Tryd.func4, Tryd.ntmps4
        go_wp2
        go_ret
        exact ⟨.inl rfl, (G.refl w).alloc _⟩
    · by_cases h3 : a = 3
      · subst h3
        by_cases hb : b = ByteArray.empty
        · subst hb
          by_cases hc : 1 ≤ c
          · have HC := hide hc
            go_enter Tryd.func4, Tryd.ntmps4
            go_wp2
            go_ret
            exact ⟨.inr ⟨rfl, .inr (.inr ⟨rfl, rfl, HC.out⟩)⟩, (G.refl w).alloc _⟩
          · have hc' : ¬ c ≥ 1 := hc
            go_enter Tryd.func4, Tryd.ntmps4
            go_wp2
            go_ret
            exact ⟨.inl rfl, (G.refl w).alloc _⟩
        · have hl : ¬ b.toList = [] := fun e => hb (toList_nil.1 e)
          go_enter Tryd.func4, Tryd.ntmps4
          go_wp2
          go_ret
          exact ⟨.inl rfl, (G.refl w).alloc _⟩
      ·
        go_enter Tryd.func4, Tryd.ntmps4
        go_wp2
        go_ret
        exact ⟨.inl rfl, (G.refl w).alloc _⟩
end Go.Proofs.YtfeiocahlhklaaaDoor
