/- KeyOf of both sides. -/
import Derived.Test.YtficmpaeochcgaaGreatDoorKey5
import Derived.ChangeKeysEq
namespace Go.Proofs.YtficmpaeochcgaaGreatDoor
open Go.RowKit Go.Shelf Go.PlainAid Go.Lib

set_option maxRecDepth 100000 in
set_option maxHeartbeats 16000000 in
theorem part_at (F : Nat → Nat) (j : Nat) (hj : j < 24) (w : World) : (part 5 (cellsOf F).toArray (j * 1)).run Tryz.prog w = .ok (.int .u8 (F j : Nat)) w := by
  have e : (cellsOf F).toArray[j * 1]? = some (.int .u8 (F j : Nat)) := by
    rw [Nat.mul_one, List.getElem?_toArray]; simp [cellsOf, hj, bv]
  exact run_part_plain w (by kernel_rfl) e
theorem eqItems_same (F : Nat → Nat) (w : World) : ∀ is : List Nat, (∀ j ∈ is, j < 24) → (Op.eqItems 9999 5 1 (cellsOf F).toArray (cellsOf F).toArray is).run Tryz.prog w = .ok true w
  | [], _ => by simp [Op.eqItems]
  | j :: is, h => by
    simp only [Op.eqItems, Sem.run_bind, part_at F j (h j (by simp)) w, Result.andThen_ok, run_equalIn_int w 9998 5 .u8 .u8 _ _ Tryz.underlying5]
    simp
    exact eqItems_same F w is (fun i hi => h i (by simp [hi]))
theorem eqKey (F : Nat → Nat) (w : World) : (binOp .eql 93 (.agg (cellsOf F).toArray) (.agg (cellsOf F).toArray)).run Tryz.prog w = .ok (.bool true) w := by
  obtain ⟨i0, hi, _⟩ := info_parts info_u8
  have hc : Tryz.prog.cellsOf 5 = 1 := by kernel_rfl
  rw [run_eql_struct, run_equalIn_array w 9999 _ _ Tryz.underlying93 hi, hc, eqItems_same F w _ (by simp)]
  rfl
theorem key_both (l m : ByteArray) (k a b : Int) (s : ByteArray) (id : Int) (ha : R64 a) (hs : s.size ≤ 4611686018427387904) : ∃ (F : Nat → Nat) (c : Int),
    (∀ w, Tabs w → Calls Tryz.prog 73 #[.string l, .string m, V k a b s, .int .i64 id] w fun e w' => e = .returned (.tuple #[.agg (cellsOf F).toArray, .int .i64 c]) ∧ G w w') ∧
    (∀ w, Calls Tryz.prog 74 #[.string l, .string m, V k a b s, .int .i64 id] w fun e w' => e = .returned (.tuple #[.agg (cellsOf F).toArray, .int .i64 c]) ∧ G w w') := by
  cases h1 : nameB l
  · cases h2 : nameB m
    · exact ⟨fun _ => 0, 73, fun w _ => ko_n1 l m k a b s id h1 w, fun w => rko_n3 l m k a b s id h1 h2 w⟩
    · exact ⟨fun _ => 0, 73, fun w _ => ko_n1 l m k a b s id h1 w, fun w => rko_n1 l m k a b s id h1 ((nameB_iff m).1 h2) w⟩
  have p1 := (nameB_iff l).1 h1
  cases h2 : nameB m
  · exact ⟨fun _ => 0, 73, fun w _ => ko_n2 l m k a b s id h1 h2 w, fun w => rko_n2 l m k a b s id p1 h2 w⟩
  have p2 := (nameB_iff m).1 h2
  cases h3 : okV k a b s
  · exact ⟨fun _ => 0, 16, fun w hT => ko_val l m k a b s id h1 h2 h3 w hT, fun w => rko_val l m k a b s id p1 p2 h3 hs w⟩
  cases h4 : stoV k a b s
  · exact ⟨fun _ => 0, 10, fun w hT => ko_kind l m k a b s id h1 h2 h3 h4 w hT, fun w => rko_kind l m k a b s id p1 p2 h3 h4 hs w⟩
  by_cases h5 : id < 1
  · exact ⟨fun _ => 0, 1, fun w hT => ko_lo l m k a b s id h1 h2 h3 h4 h5 w hT, fun w => rko_lo l m k a b s id p1 p2 h3 h4 h5 hs w⟩
  by_cases h6 : 4294967295 < id
  · exact ⟨fun _ => 0, 1, fun w hT => ko_hi l m k a b s id h1 h2 h3 h4 h6 w hT, fun w => rko_hi l m k a b s id p1 p2 h3 h4 h6 hs w⟩
  obtain ⟨n, rfl⟩ : ∃ n : Nat, id = n := ⟨id.toNat, by omega⟩
  refine ⟨keyF (packK l 8).toNat (packK m 8).toNat (encV k a b s) n, 0, fun w hT => (ko_yes l m k a b s n p1 p2 h3 h4 (by omega) (by omega) ha w hT).mono ?_, fun w => (rko_yes l m k a b s n p1 p2 h3 h4 (by omega) (by omega) ha hs w).mono ?_⟩
  all_goals
    rintro e w' ⟨pl, pm, q1, q2, rfl, hg⟩
    rw [show (packK l 8).toNat = pl by omega, show (packK m 8).toNat = pm by omega]
    exact ⟨rfl, hg⟩
end Go.Proofs.YtficmpaeochcgaaGreatDoor
