/- What Print and Scan stand on: the tables, decimal, wholeOf, inner; the plain literals. -/
import Derived.Test.YthpflfkgbapbnaaGreatDoorTxt2
import Derived.Test.YthpflfkgbapbnaaGreatDoorCpx
import Derived.Test.YthpflfkgbapbnaaGreatDoorShB1
import Derived.Test.YthpflfkgbapbnaaGreatDoorShB2
import Derived.Test.YthpflfkgbapbnaaGreatDoorShB7
import Derived.Shelf.Strconv.ErrVarParseInt
import Derived.Shelf.Small.Wraps
import Derived.Lib.ConvBytes
namespace Go.Proofs.YthpflfkgbapbnaaGreatDoor
open Go.RowKit Go.Lib Go.Shelf

/-- The package-level variables that Print and Scan read. -/
structure Env (w : World) : Prop where
  t : Tabs w
  p : TabIs Tryz.prog w "internal/strconv.uint64pow10" .u64 pow10Tab
  s : ∃ tp p, w.var? Tryz.prog "strconv.ErrSyntax" = some #[.iface tp p]
  r : ∃ tp p, w.var? Tryz.prog "strconv.ErrRange" = some #[.iface tp p]
  e : w.var? Tryz.prog "trellis/value.escapes" = some #[.int .u8 92, .int .u8 92, .int .u8 39, .int .u8 39, .int .u8 10, .int .u8 110, .int .u8 9, .int .u8 116, .int .u8 13, .int .u8 114]
theorem var_G {w w' : World} (g : G w w') {n : String} {cs : Array Value} (h : w.var? Tryz.prog n = some cs) : w'.var? Tryz.prog n = some cs := by
  unfold World.var? at h ⊢
  cases hg : Tryz.prog.globalNamed n with
  | none => rw [hg] at h; simp at h
  | some k =>
    rw [hg] at h
    simp only [Option.bind_some] at h ⊢
    have hlt : k < w.heap.size := Nat.lt_of_not_le fun hle => by
      rw [Array.getElem?_eq_none hle] at h; simp at h
    rw [g.block k hlt]; exact h
theorem Env.G {w w' : World} (h : Env w) (g : G w w') : Env w' :=
  ⟨h.t.G g, var_G g h.p, h.s.imp fun _ => Exists.imp fun _ => var_G g, h.r.imp fun _ => Exists.imp fun _ => var_G g, var_G g h.e⟩
theorem G.grow (w : World) (k : Nat) (os : Array Obj) : G w (Go.Sort.grow (w.drewN k) os) := ⟨rfl, rfl, rfl, by simp [Go.Sort.grow], fun j hj => by simp [Go.Sort.grow, Array.getElem?_append, hj]⟩
def strU (l : List UInt8) : ByteArray := ⟨l.toArray⟩
theorem strU_back (s : ByteArray) : strU s.data.toList = s := by cases s; simp [strU]
theorem strU_list (l : List UInt8) : (strU l).data.toList = l := by simp [strU]
set_option maxRecDepth 100000 in
set_option maxHeartbeats 2000000 in
theorem dec_any (n : Int) (h : R64 n) (w : World) (hE : Env w) : Calls Tryz.prog 196 #[.int .i64 n] w fun e w' => e = .returned (.string (strU (itoa n))) ∧ G w w' := by
  have HF : Hid (Calls Tryz.prog 6 #[.int .i64 n, .int .i64 10] w fun e w' => e = .returned (.string ⟨(itoa n).toArray⟩) ∧ ∃ k os, w' = Go.Sort.grow (w.drewN k) os) := Any.strconv_FormatInt_10 Tryz.laysFormatInt n h.1 h.2 w hE.p
  clear hE
  go_enter Tryz.func196, Tryz.ntmps196
  go_wp2_with fail
  refine HF.out.mono ?_
  rintro e w1 ⟨rfl, k, os, rfl⟩
  go_wp2
  go_ret
  exact ⟨rfl, G.grow w k os⟩
set_option maxRecDepth 100000 in
set_option maxHeartbeats 2000000 in
theorem wh_any (s : ByteArray) (hs : s.size ≤ 140737488355328) (w : World) (hE : Env w) : Calls Tryz.prog 131 #[.string s] w fun e w' => e = .returned (.int .i64 (whO s.data.toList)) ∧ G w w' := by
  have HP : Hid (Calls Tryz.prog 147 #[.string s, .int .i64 10, .int .i64 64] w fun e w' => ∃ x, e = .returned (.tuple #[.int .i64 (whO s.data.toList), x]) ∧ G w w') := by
    unfold whO
    cases h : parseIntB 64 s.data.toList with
    | ok n =>
      refine (Any.strconv_ParseInt_10_at64_ok Tryz.laysParseInt s (by omega) n h w).mono ?_
      rintro e w' ⟨rfl, hw | ⟨t, hw⟩⟩
      · exact ⟨_, rfl, by rw [hw]; exact G.refl _⟩
      · refine ⟨_, rfl, ?_⟩
        rw [hw]
        exact ⟨rfl, rfl, rfl, by rw [Lib.bytesWorld_size]; omega, fun j hj => Lib.bytesWorld_at_old w _ t j hj⟩
    | «syntax» =>
      obtain ⟨tp, p, hv⟩ := hE.s
      refine (Any.strconv_ParseInt_10_at64_syntax_var Tryz.laysParseInt s (by omega) h tp p w hv).mono ?_
      rintro e w' ⟨N, rfl, _, _, hb⟩
      exact ⟨_, rfl, hb⟩
    | range =>
      obtain ⟨tp, p, hv⟩ := hE.r
      refine (Any.strconv_ParseInt_10_at64_range_var Tryz.laysParseInt s (by omega) h tp p w hv).mono ?_
      rintro e w' ⟨N, rfl, _, _, hb⟩
      exact ⟨_, rfl, hb⟩
  clear hE
  generalize whO s.data.toList = n at HP
  go_enter Tryz.func131, Tryz.ntmps131
  go_wp2_with fail
  refine HP.out.mono ?_
  rintro e w1 ⟨x, rfl, hb⟩
  have HB : Hid _ := hb
  clear hb
  go_wp2
  go_ret
  exact ⟨rfl, HB.out⟩
set_option maxRecDepth 100000 in
set_option maxHeartbeats 2000000 in
theorem inner_any (s : ByteArray) (hs : s.size ≤ 140737488355328) (w : World) : Calls Tryz.prog 130 #[.string s] w fun e w' => e = .returned (.string (strU (innr s.data.toList))) ∧ w' = w := by
  have hsz : s.data.toList.length = s.size := by rw [Array.length_toList]; rfl
  by_cases h : s.size < 2
  · have e : innr s.data.toList = [] := by
      unfold innr
      apply List.eq_nil_of_length_eq_zero
      rw [List.length_dropLast, List.length_drop]; omega
    rw [e]
    have hI : ((s.size : Nat) : Int) < 2 := by omega
    go_enter Tryz.func130, Tryz.ntmps130
    go_wp2
    go_ret
    exact ⟨rfl, rfl⟩
  · have e : strU (innr s.data.toList) = s.extract 1 (s.size - 1) := by
      unfold strU innr
      apply ByteArray.ext
      rw [ByteArray.data_extract]
      apply Array.ext'
      rw [List.toList_toArray, Array.toList_extract, List.extract_eq_take_drop, List.dropLast_eq_take, List.length_drop, hsz]
    rw [e]
    have hI : ¬ ((s.size : Nat) : Int) < 2 := by omega
    go_enter Tryz.func130, Tryz.ntmps130
    go_wp2
    go_ret
    exact ⟨rfl, rfl⟩
end Go.Proofs.YthpflfkgbapbnaaGreatDoor
