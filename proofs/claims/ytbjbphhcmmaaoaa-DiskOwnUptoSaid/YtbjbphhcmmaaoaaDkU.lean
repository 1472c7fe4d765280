/- Disks, there or not: one contract a call, of both sides. -/
import Derived.Test.YtbjbphhcmmaaoaaRf6
namespace Go.Proofs.Ytbjbphhcmmaaoaa
open Go.RowKit

/-- The program's disk, if there is one. -/
def SlP (w : World) (F : Nat → Prop) (v : Value) : Option DM → Prop
  | none => v = .pointer none
  | some m => ∃ p, v = .pointer (some ⟨p, 0, none⟩) ∧ PD w F p m
def SlR (w : World) (F : Nat → Prop) (v : Value) : Option DM → Prop
  | none => v = .pointer none
  | some m => ∃ p, v = .pointer (some ⟨p, 0, none⟩) ∧ RD w F p m
def fewO (mo : Option DM) (B : Nat) : Prop := ∀ m, mo = some m → m.few B
def rdC (mo : Option DM) (n : Int) : Int := match mo with | none => 1 | some m => if 0 ≤ n ∧ n < m.n then (if m.off then 2 else 0) else 20
def rdB (mo : Option DM) (n : Int) : List Nat := match mo with | none => [] | some m => if 0 ≤ n ∧ n < m.n then (if m.off then [] else m.newest n.toNat) else []
def wrM (mo : Option DM) (n : Int) (xs : List Nat) : Option DM := mo.map fun m => (m.write n xs).1
def wrC (mo : Option DM) (n : Int) (xs : List Nat) : Int := match mo with | none => 1 | some m => (m.write n xs).2
def flM (mo : Option DM) : Option DM := mo.map fun m => m.flush.1
def flC (mo : Option DM) : Int := match mo with | none => 1 | some m => m.flush.2
def cuM (mo : Option DM) (n : Int) : Option DM := mo.map fun m => (m.cut n).1
def cuC (mo : Option DM) (n : Int) : Int := match mo with | none => 1 | some m => (m.cut n).2
def crM (mo : Option DM) (ks : List Bool) : Option DM := mo.map fun m => (m.crash ks).1
def crN (mo : Option DM) (ks : List Bool) : Int := match mo with | none => 0 | some m => (m.crash ks).2
def crC (mo : Option DM) : Int := match mo with | none => 1 | some _ => 0
def imB (mo : Option DM) : List Nat := match mo with | none => [] | some m => m.laid
def pnL (mo : Option DM) : List (Nat × List Nat) := match mo with | none => [] | some m => m.pend
def stA (mo : Option DM) : Array Value := match mo with | none => #[I 0, I 0, I 0, .bool false] | some m => #[I m.writes, I m.flushes, I m.pend.length, .bool m.off]
def scN (mo : Option DM) : Int := match mo with | none => 0 | some m => m.n
theorem bytes_nil (w : World) : Bytes w (.slice none 0 0) [] := ⟨none, 0, rfl, Nat.le_refl _, .inl rfl⟩
theorem SlP.chg {w w' : World} {F F' : Nat → Prop} {v : Value} {mo : Option DM} (h : SlP w F v mo) (k : Chg F' w w') (hF : ∀ k, F k → ¬ F' k) : SlP w' F v mo := by
  cases mo with
  | none => exact h
  | some m => obtain ⟨p, hp, hd⟩ := h; exact ⟨p, hp, hd.chg k hF⟩
theorem SlP.mono {w : World} {F F' : Nat → Prop} {v : Value} {mo : Option DM} (h : SlP w F v mo) (hF : ∀ k, F k → F' k) : SlP w F' v mo := by
  cases mo with
  | none => exact h
  | some m => obtain ⟨p, hp, hd⟩ := h; exact ⟨p, hp, hd.mono hF⟩
theorem SlP.G {w w' : World} {F : Nat → Prop} {v : Value} {mo : Option DM} (h : SlP w F v mo) (k : Go.Proofs.Ytbjbphhcmmaaoaa.G w w') : SlP w' F v mo := h.chg (F' := fun _ => False) k.chg (fun _ _ h => h)
theorem uP_read (F : Nat → Prop) (mo : Option DM) (v : Value) (n : Int) (w : World) (hB : fewO mo 549755813888) (h : SlP w F v mo) : Calls Try.prog 15 #[v, .int .i64 n] w fun e w' => ∃ x, e = .returned (.tuple #[x, .int .i64 (rdC mo n)]) ∧ G w w' ∧ Bytes w' x (rdB mo n) := by
  cases mo with
  | none =>
    obtain rfl : v = .pointer none := h
    refine (read_nil n w).mono ?_
    rintro e w' ⟨rfl, rfl⟩
    exact ⟨_, rfl, G.refl _, bytes_nil _⟩
  | some m =>
    obtain ⟨p, rfl, hd⟩ := h
    refine (read_any F m p n (hB m rfl).p w hd).mono ?_
    rintro e w' ⟨hg, h1 | h1 | h1⟩
    · obtain ⟨hn, rfl⟩ := h1
      exact ⟨.slice none 0 0, by simp only [rdC, if_neg hn], hg, by simp only [rdB, if_neg hn]; exact bytes_nil _⟩
    · obtain ⟨hn, ho, rfl⟩ := h1
      exact ⟨.slice none 0 0, by simp only [rdC, if_pos hn, ho, if_true], hg, by simp only [rdB, if_pos hn, ho, if_true]; exact bytes_nil _⟩
    · obtain ⟨hn, ho, g, _, rfl, hb⟩ := h1
      have hl : (m.newest n.toNat).length = 128 := DM.newest_len hd.ok (by omega)
      have hbb := hb.bytes
      rw [hl] at hbb
      exact ⟨_, by simp only [rdC, if_pos hn, ho]; rfl, hg, by simp only [rdB, if_pos hn, ho]; exact hbb⟩
theorem uP_flush (F : Nat → Prop) (mo : Option DM) (v : Value) (w : World) (hB : fewO mo 549755813888) (h : SlP w F v mo) : Calls Try.prog 25 #[v] w fun e w' => e = .returned (.int .i64 (flC mo)) ∧ SlP w' F v (flM mo) ∧ Chg F w w' := by
  cases mo with
  | none =>
    obtain rfl : v = .pointer none := h
    refine (flush_nil w).mono ?_
    rintro e w' ⟨rfl, rfl⟩
    exact ⟨rfl, rfl, Chg.refl _ _⟩
  | some m =>
    obtain ⟨p, rfl, hd⟩ := h
    refine (flush_any F m p (hB m rfl) w hd).mono ?_
    rintro e w' ⟨rfl, h1, h2⟩
    exact ⟨rfl, ⟨p, rfl, h1⟩, h2⟩
theorem uP_cut (F : Nat → Prop) (mo : Option DM) (v : Value) (n : Int) (hn : n ≤ 9223372036854775807) (w : World) (h : SlP w F v mo) : Calls Try.prog 26 #[v, .int .i64 n] w fun e w' => e = .returned (.int .i64 (cuC mo n)) ∧ SlP w' F v (cuM mo n) ∧ Chg F w w' := by
  cases mo with
  | none =>
    obtain rfl : v = .pointer none := h
    refine (cut_nil n w).mono ?_
    rintro e w' ⟨rfl, rfl⟩
    exact ⟨rfl, rfl, Chg.refl _ _⟩
  | some m =>
    obtain ⟨p, rfl, hd⟩ := h
    refine (cut_any F m p n hn w hd).mono ?_
    rintro e w' ⟨rfl, h1, h2, _⟩
    exact ⟨rfl, ⟨p, rfl, h1⟩, h2⟩
theorem uP_crash (F : Nat → Prop) (mo : Option DM) (v kv : Value) (ks : List Bool) (hB : fewO mo 549755813888) (hkl : ks.length ≤ 4611686018427387904) (w : World) (h : SlP w F v mo) (hk : Keeps w kv ks) (hkF : ∀ j, Value.blk kv j → ¬ F j) : Calls Try.prog 13 #[v, kv] w fun e w' => e = .returned (.tuple #[.int .i64 (crN mo ks), .int .i64 (crC mo)]) ∧ SlP w' F v (crM mo ks) ∧ Chg F w w' := by
  cases mo with
  | none =>
    obtain rfl : v = .pointer none := h
    refine (crash_nil kv w).mono ?_
    rintro e w' ⟨rfl, rfl⟩
    exact ⟨rfl, rfl, Chg.refl _ _⟩
  | some m =>
    obtain ⟨p, rfl, hd⟩ := h
    refine (crash_any F m p kv ks (hB m rfl) hkl w hd hk hkF).mono ?_
    rintro e w' ⟨rfl, h1, h2⟩
    exact ⟨rfl, ⟨p, rfl, h1⟩, h2⟩
theorem uP_image (F : Nat → Prop) (mo : Option DM) (v : Value) (w : World) (h : SlP w F v mo) : Calls Try.prog 11 #[v] w fun e w' => ∃ x, e = .returned x ∧ G w w' ∧ Bytes w' x (imB mo) := by
  cases mo with
  | none =>
    obtain rfl : v = .pointer none := h
    refine (image_nil w).mono ?_
    rintro e w' ⟨rfl, rfl⟩
    exact ⟨_, rfl, G.refl _, bytes_nil _⟩
  | some m =>
    obtain ⟨p, rfl, hd⟩ := h
    refine (image_any F m p w hd).mono ?_
    rintro e w' ⟨rfl, hg, hb⟩
    have := hb.bytes
    rw [hd.ok.ll] at this
    exact ⟨_, rfl, hg, this⟩
theorem uP_pending (F : Nat → Prop) (mo : Option DM) (v : Value) (w : World) (hB : fewO mo 549755813888) (h : SlP w F v mo) : Calls Try.prog 34 #[v] w fun e w' => ∃ x, e = .returned x ∧ G w w' ∧ RowW w' x (pnL mo) (fun k => w.heap.size ≤ k) (fun _ => False) := by
  cases mo with
  | none =>
    obtain rfl : v = .pointer none := h
    refine (pending_nil w).mono ?_
    rintro e w' ⟨rfl, rfl⟩
    exact ⟨_, rfl, G.refl _, ⟨⟨[], rfl, World.ownsRow_nil _ _ _ _, fun i e d h => by simp [pnL] at h⟩, fun g hg => by simp [Value.ownBlock] at hg⟩⟩
  | some m =>
    obtain ⟨p, rfl, hd⟩ := h
    exact pending_any F m p (hB m rfl).p w hd
theorem uP_stat (F : Nat → Prop) (mo : Option DM) (v : Value) (w : World) (h : SlP w F v mo) : Calls Try.prog 59 #[v] w fun e w' => e = .returned (.agg (stA mo)) ∧ G w w' := by
  cases mo with
  | none =>
    obtain rfl : v = .pointer none := h
    exact stat_nil w
  | some m =>
    obtain ⟨p, rfl, hd⟩ := h
    exact stat_any F m p w hd
theorem uP_sectors (F : Nat → Prop) (mo : Option DM) (v : Value) (w : World) (h : SlP w F v mo) : Calls Try.prog 14 #[v] w fun e w' => e = .returned (.int .i64 (scN mo)) ∧ w' = w := by
  cases mo with
  | none =>
    obtain rfl : v = .pointer none := h
    exact sectors_nil w
  | some m =>
    obtain ⟨p, rfl, hd⟩ := h
    exact sectors_any F m p w hd
theorem SlR.chg {w w' : World} {F F' : Nat → Prop} {v : Value} {mo : Option DM} (h : SlR w F v mo) (k : Chg F' w w') (hF : ∀ k, F k → ¬ F' k) : SlR w' F v mo := by
  cases mo with
  | none => exact h
  | some m => obtain ⟨p, hp, hd⟩ := h; exact ⟨p, hp, hd.chg k hF⟩
theorem SlR.mono {w : World} {F F' : Nat → Prop} {v : Value} {mo : Option DM} (h : SlR w F v mo) (hF : ∀ k, F k → F' k) : SlR w F' v mo := by
  cases mo with
  | none => exact h
  | some m => obtain ⟨p, hp, hd⟩ := h; exact ⟨p, hp, hd.mono hF⟩
theorem SlR.G {w w' : World} {F : Nat → Prop} {v : Value} {mo : Option DM} (h : SlR w F v mo) (k : Go.Proofs.Ytbjbphhcmmaaoaa.G w w') : SlR w' F v mo := h.chg (F' := fun _ => False) k.chg (fun _ _ h => h)
theorem uR_read (F : Nat → Prop) (mo : Option DM) (v : Value) (n : Int) (w : World) (hB : fewO mo 549755813888) (h : SlR w F v mo) : Calls Try.prog 35 #[v, .int .i64 n] w fun e w' => ∃ x, e = .returned (.tuple #[x, .int .i64 (rdC mo n)]) ∧ G w w' ∧ Bytes w' x (rdB mo n) := by
  cases mo with
  | none =>
    obtain rfl : v = .pointer none := h
    refine (rread_nil n w).mono ?_
    rintro e w' ⟨rfl, rfl⟩
    exact ⟨_, rfl, G.refl _, bytes_nil _⟩
  | some m =>
    obtain ⟨p, rfl, hd⟩ := h
    refine (rread_any F m p n (hB m rfl).p w hd).mono ?_
    rintro e w' ⟨hg, h1 | h1 | h1⟩
    · obtain ⟨hn, rfl⟩ := h1
      exact ⟨.slice none 0 0, by simp only [rdC, if_neg hn], hg, by simp only [rdB, if_neg hn]; exact bytes_nil _⟩
    · obtain ⟨hn, ho, rfl⟩ := h1
      exact ⟨.slice none 0 0, by simp only [rdC, if_pos hn, ho, if_true], hg, by simp only [rdB, if_pos hn, ho, if_true]; exact bytes_nil _⟩
    · obtain ⟨hn, ho, g, _, rfl, hb⟩ := h1
      have hl : (m.newest n.toNat).length = 128 := DM.newest_len hd.ok (by omega)
      have hbb := hb.bytes
      rw [hl] at hbb
      exact ⟨_, by simp only [rdC, if_pos hn, ho]; rfl, hg, by simp only [rdB, if_pos hn, ho]; exact hbb⟩
theorem uR_flush (F : Nat → Prop) (mo : Option DM) (v : Value) (w : World) (hB : fewO mo 549755813888) (h : SlR w F v mo) : Calls Try.prog 47 #[v] w fun e w' => e = .returned (.int .i64 (flC mo)) ∧ SlR w' F v (flM mo) ∧ Chg F w w' := by
  cases mo with
  | none =>
    obtain rfl : v = .pointer none := h
    refine (rflush_nil w).mono ?_
    rintro e w' ⟨rfl, rfl⟩
    exact ⟨rfl, rfl, Chg.refl _ _⟩
  | some m =>
    obtain ⟨p, rfl, hd⟩ := h
    refine (rflush_any F m p (hB m rfl) w hd).mono ?_
    rintro e w' ⟨rfl, h1, h2⟩
    exact ⟨rfl, ⟨p, rfl, h1⟩, h2⟩
theorem uR_cut (F : Nat → Prop) (mo : Option DM) (v : Value) (n : Int) (hn : n ≤ 9223372036854775807) (w : World) (h : SlR w F v mo) : Calls Try.prog 48 #[v, .int .i64 n] w fun e w' => e = .returned (.int .i64 (cuC mo n)) ∧ SlR w' F v (cuM mo n) ∧ Chg F w w' := by
  cases mo with
  | none =>
    obtain rfl : v = .pointer none := h
    refine (rcut_nil n w).mono ?_
    rintro e w' ⟨rfl, rfl⟩
    exact ⟨rfl, rfl, Chg.refl _ _⟩
  | some m =>
    obtain ⟨p, rfl, hd⟩ := h
    refine (rcut_any F m p n hn w hd).mono ?_
    rintro e w' ⟨rfl, h1, h2, _⟩
    exact ⟨rfl, ⟨p, rfl, h1⟩, h2⟩
theorem uR_crash (F : Nat → Prop) (mo : Option DM) (v kv : Value) (ks : List Bool) (hB : fewO mo 549755813888) (hkl : ks.length ≤ 4611686018427387904) (w : World) (h : SlR w F v mo) (hk : Keeps w kv ks) (hkF : ∀ j, Value.blk kv j → ¬ F j) : Calls Try.prog 43 #[v, kv] w fun e w' => e = .returned (.tuple #[.int .i64 (crN mo ks), .int .i64 (crC mo)]) ∧ SlR w' F v (crM mo ks) ∧ Chg F w w' := by
  cases mo with
  | none =>
    obtain rfl : v = .pointer none := h
    refine (rcrash_nil kv w).mono ?_
    rintro e w' ⟨rfl, rfl⟩
    exact ⟨rfl, rfl, Chg.refl _ _⟩
  | some m =>
    obtain ⟨p, rfl, hd⟩ := h
    refine (rcrash_any F m p kv ks (hB m rfl) hkl w hd hk hkF).mono ?_
    rintro e w' ⟨rfl, h1, h2⟩
    exact ⟨rfl, ⟨p, rfl, h1⟩, h2⟩
theorem uR_image (F : Nat → Prop) (mo : Option DM) (v : Value) (w : World) (h : SlR w F v mo) : Calls Try.prog 37 #[v] w fun e w' => ∃ x, e = .returned x ∧ G w w' ∧ Bytes w' x (imB mo) := by
  cases mo with
  | none =>
    obtain rfl : v = .pointer none := h
    refine (rimage_nil w).mono ?_
    rintro e w' ⟨rfl, rfl⟩
    exact ⟨_, rfl, G.refl _, bytes_nil _⟩
  | some m =>
    obtain ⟨p, rfl, hd⟩ := h
    refine (rimage_any F m p w hd).mono ?_
    rintro e w' ⟨rfl, hg, hb⟩
    have := hb.bytes
    rw [hd.ok.ll] at this
    exact ⟨_, rfl, hg, this⟩
theorem uR_pending (F : Nat → Prop) (mo : Option DM) (v : Value) (w : World) (hB : fewO mo 549755813888) (h : SlR w F v mo) : Calls Try.prog 38 #[v] w fun e w' => ∃ x, e = .returned x ∧ G w w' ∧ RowW w' x (pnL mo) (fun k => w.heap.size ≤ k) (fun _ => False) := by
  cases mo with
  | none =>
    obtain rfl : v = .pointer none := h
    refine (rpending_nil w).mono ?_
    rintro e w' ⟨rfl, rfl⟩
    exact ⟨_, rfl, G.refl _, ⟨⟨[], rfl, World.ownsRow_nil _ _ _ _, fun i e d h => by simp [pnL] at h⟩, fun g hg => by simp [Value.ownBlock] at hg⟩⟩
  | some m =>
    obtain ⟨p, rfl, hd⟩ := h
    exact rpending_any F m p (hB m rfl).p w hd
theorem uR_stat (F : Nat → Prop) (mo : Option DM) (v : Value) (w : World) (h : SlR w F v mo) : Calls Try.prog 60 #[v] w fun e w' => e = .returned (.agg (stA mo)) ∧ G w w' := by
  cases mo with
  | none =>
    obtain rfl : v = .pointer none := h
    exact rstat_nil w
  | some m =>
    obtain ⟨p, rfl, hd⟩ := h
    exact rstat_any F m p w hd
theorem uR_sectors (F : Nat → Prop) (mo : Option DM) (v : Value) (w : World) (h : SlR w F v mo) : Calls Try.prog 52 #[v] w fun e w' => e = .returned (.int .i64 (scN mo)) ∧ w' = w := by
  cases mo with
  | none =>
    obtain rfl : v = .pointer none := h
    exact rsectors_nil w
  | some m =>
    obtain ⟨p, rfl, hd⟩ := h
    exact rsectors_any F m p w hd
theorem uP_write (F : Nat → Prop) (mo : Option DM) (v dv : Value) (n : Int) (xs : List Nat) (hxb : ∀ x ∈ xs, x < 256) (hB : fewO mo 549755813888) (w : World) (h : SlP w F v mo) (hbb : Bytes w dv xs) (hF : ∀ j, Value.blk dv j → ¬ F j) : Calls Try.prog 28 #[v, .int .i64 n, dv] w fun e w' => e = .returned (.int .i64 (wrC mo n xs)) ∧ SlP w' (Up F w w') v (wrM mo n xs) ∧ Chg F w w' := by
  cases mo with
  | none =>
    obtain rfl : v = .pointer none := h
    refine (write_nil n dv w).mono ?_
    rintro e w' ⟨rfl, rfl⟩
    exact ⟨rfl, rfl, Chg.refl _ _⟩
  | some m =>
    obtain ⟨p, rfl, hd⟩ := h
    have hcp := hbb
    obtain ⟨ba, cap, rfl, hcap, hl⟩ := hcp
    by_cases hno : ¬ (0 ≤ n ∧ n < m.n) ∨ xs.length ≠ 128
    · refine (write_no F m p n ba cap xs hno w hd).mono ?_
      rintro e w' ⟨rfl, h1, rfl⟩
      refine ⟨rfl, ⟨p, rfl, ?_⟩, Chg.refl _ _⟩
      show PD w' _ p (m.write n xs).1
      rw [h1]
      exact hd.mono (fun k hk => .inl hk)
    · have hin : 0 ≤ n ∧ n < m.n := Classical.not_not.1 (fun h => hno (.inl h))
      have hx : xs.length = 128 := Classical.not_not.1 (fun h => hno (.inr h))
      obtain ⟨at', rfl⟩ : ∃ a : Nat, n = a := ⟨n.toNat, by omega⟩
      have ha : at' < m.n := by omega
      obtain ⟨b, oo, rfl, hlies⟩ := hl.resolve_left (fun e => by rw [e] at hx; simp at hx)
      have hy := write_yes F m p at' ha ⟨b, oo, none⟩ cap xs hx hxb (hB m rfl) w hd hlies (fun k hk e => hF b ⟨_, _, _, rfl, by omega, rfl⟩ (by rw [show b = k from e]; exact hk))
      rw [hx] at *
      refine hy.mono ?_
      rintro e w' ⟨rfl, h1, h2⟩
      exact ⟨rfl, ⟨p, rfl, h1⟩, h2⟩
theorem uR_write (F : Nat → Prop) (mo : Option DM) (v dv : Value) (n : Int) (xs : List Nat) (hxb : ∀ x ∈ xs, x < 256) (hB : fewO mo 549755813888) (w : World) (h : SlR w F v mo) (hbb : Bytes w dv xs) (hF : ∀ j, Value.blk dv j → ¬ F j) : Calls Try.prog 46 #[v, .int .i64 n, dv] w fun e w' => e = .returned (.int .i64 (wrC mo n xs)) ∧ SlR w' (Up F w w') v (wrM mo n xs) ∧ Chg F w w' := by
  cases mo with
  | none =>
    obtain rfl : v = .pointer none := h
    refine (rwrite_nil n dv w).mono ?_
    rintro e w' ⟨rfl, rfl⟩
    exact ⟨rfl, rfl, Chg.refl _ _⟩
  | some m =>
    obtain ⟨p, rfl, hd⟩ := h
    have hcp := hbb
    obtain ⟨ba, cap, rfl, hcap, hl⟩ := hcp
    by_cases hno : ¬ (0 ≤ n ∧ n < m.n) ∨ xs.length ≠ 128
    · refine (rwrite_no F m p n ba cap xs hno w hd).mono ?_
      rintro e w' ⟨rfl, h1, rfl⟩
      refine ⟨rfl, ⟨p, rfl, ?_⟩, Chg.refl _ _⟩
      show RD w' _ p (m.write n xs).1
      rw [h1]
      exact hd.mono (fun k hk => .inl hk)
    · have hin : 0 ≤ n ∧ n < m.n := Classical.not_not.1 (fun h => hno (.inl h))
      have hx : xs.length = 128 := Classical.not_not.1 (fun h => hno (.inr h))
      obtain ⟨at', rfl⟩ : ∃ a : Nat, n = a := ⟨n.toNat, by omega⟩
      have ha : at' < m.n := by omega
      obtain ⟨b, oo, rfl, hlies⟩ := hl.resolve_left (fun e => by rw [e] at hx; simp at hx)
      have hy := rwrite_yes F m p at' ha _ xs hx hxb (hB m rfl) w hd hbb hF
      rw [hx] at *
      refine hy.mono ?_
      rintro e w' ⟨rfl, h1, h2⟩
      exact ⟨rfl, ⟨p, rfl, h1⟩, h2⟩
end Go.Proofs.Ytbjbphhcmmaaoaa
