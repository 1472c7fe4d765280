/- Locks: a table in memory. -/
import Derived.Test.YtkbgifhhnnfgoaaGreatDoorLk1
import Derived.Test.YtkbgifhhnnfgoaaGreatDoorLk3
namespace Go.Proofs.YtkbgifhhnnfgoaaGreatDoor
open Go.RowKit Go.Maps

/-- A live transaction: where it lies, and what it is. -/
structure Pt where
  blk : Nat
  hb : Nat
  wb : Nat
  stamp : Int
  hf : Rs → Int
  at_ : Rs
  goal : Int
  wd : Int → Bool
/-- What is held and asked on a resource. -/
structure Pl where
  blk : Nat
  hb : Nat
  q : Value
  hf : Int → Int
  qs : List (Int × Int)
/-- What a block is. -/
inductive Tg
  | tb | lv | ps | pt (x : Int) | ph (x : Int) | pw (x : Int) | pl (r : Rs) | lh (r : Rs) | qu (r : Rs)
structure Gs where
  lb : Nat
  pb : Nat
  lv : Int → Option Pt
  pl : Rs → Option Pl
  own : Nat → Option Tg
abbrev ptr (b : Nat) : Value := .pointer (some ⟨b, 0, none⟩)
def Pt.cells (p : Pt) : List Value := [I p.stamp, .map (some p.hb), I p.at_.lv, .string p.at_.lb, I p.at_.id, I p.goal, .map (some p.wb)]
def nz (n : Int) : Option Value := if n = 0 then none else some (I n)
def wdv (b : Bool) : Option Value := if b then some (.agg #[]) else none
def qc (qs : List (Int × Int)) : List Value := qs.flatMap fun q => [I q.1, I q.2]
/-- A slice that holds these requests, at the beginning of its block. -/
def QSl (w : World) (v : Value) (qs : List (Int × Int)) : Prop :=
  (v = .slice none 0 0 ∧ qs = []) ∨ ∃ g cap rest, v = .slice (some ⟨g, 0, none⟩) qs.length cap ∧ Blk w g 74 (qc qs ++ rest) ∧ qs.length * 2 + rest.length = cap * 2 ∧ cap ≤ maxLen
structure PtOk (w : World) (own : Nat → Option Tg) (x : Int) (p : Pt) : Prop where
  blk : Blk w p.blk 67 p.cells
  hm : Mp Rs.v 24 w p.hb (fun r => nz (p.hf r))
  wm : Mp (fun n : Int => I n) 3 w p.wb (fun y => wdv (p.wd y))
  t1 : own p.blk = some (.pt x)
  t2 : own p.hb = some (.ph x)
  t3 : own p.wb = some (.pw x)
structure PlOk (w : World) (own : Nat → Option Tg) (r : Rs) (p : Pl) : Prop where
  blk : Blk w p.blk 105 [.map (some p.hb), p.q]
  hm : Mp (fun n : Int => I n) 3 w p.hb (fun x => nz (p.hf x))
  q : QSl w p.q p.qs
  t1 : own p.blk = some (.pl r)
  t2 : own p.hb = some (.lh r)
  t3 : ∀ b, p.q.ownBlock = some b → own b = some (.qu r)
/-- A table in memory. -/
structure TT (w : World) (t : Nat) (s : Gs) : Prop where
  tb : Blk w t 61 [.map (some s.lb), .map (some s.pb)]
  lm : Mp (fun n : Int => I n) 3 w s.lb (fun x => (s.lv x).map fun p => ptr p.blk)
  pm : Mp Rs.v 24 w s.pb (fun r => (s.pl r).map fun p => ptr p.blk)
  pt : ∀ x p, s.lv x = some p → PtOk w s.own x p
  pl : ∀ r p, s.pl r = some p → PlOk w s.own r p
  o1 : s.own t = some .tb
  o2 : s.own s.lb = some .lv
  o3 : s.own s.pb = some .ps
  lt : ∀ b tg, s.own b = some tg → b < w.heap.size
section
variable {w w' : World} {own own' : Nat → Option Tg}
theorem QSl.keep {v : Value} {qs : List (Int × Int)} (h : QSl w v qs) (hb : ∀ b, v.ownBlock = some b → w'.heap[b]? = w.heap[b]?) : QSl w' v qs := by
  rcases h with h | ⟨g, cap, rest, rfl, h2, h3⟩
  · exact .inl h
  · exact .inr ⟨g, cap, rest, rfl, h2.keep (hb g rfl), h3⟩
theorem PtOk.keep {x : Int} {p : Pt} (h : PtOk w own x p) (hb : ∀ b, own b = some (.pt x) ∨ own b = some (.ph x) ∨ own b = some (.pw x) → w'.heap[b]? = w.heap[b]?) : PtOk w' own x p :=
  ⟨h.blk.keep (hb _ (.inl h.t1)), h.hm.keep (hb _ (.inr (.inl h.t2))), h.wm.keep (hb _ (.inr (.inr h.t3))), h.t1, h.t2, h.t3⟩
theorem PlOk.keep {r : Rs} {p : Pl} (h : PlOk w own r p) (hb : ∀ b, own b = some (.pl r) ∨ own b = some (.lh r) ∨ own b = some (.qu r) → w'.heap[b]? = w.heap[b]?) : PlOk w' own r p :=
  ⟨h.blk.keep (hb _ (.inl h.t1)), h.hm.keep (hb _ (.inr (.inl h.t2))), h.q.keep (fun b e => hb _ (.inr (.inr (h.t3 b e)))), h.t1, h.t2, h.t3⟩
theorem PtOk.more {x : Int} {p : Pt} (h : PtOk w own x p) (ho : ∀ b tg, own b = some tg → own' b = some tg) : PtOk w own' x p := ⟨h.blk, h.hm, h.wm, ho _ _ h.t1, ho _ _ h.t2, ho _ _ h.t3⟩
theorem PlOk.more {r : Rs} {p : Pl} (h : PlOk w own r p) (ho : ∀ b tg, own b = some tg → own' b = some tg) : PlOk w own' r p := ⟨h.blk, h.hm, h.q, ho _ _ h.t1, ho _ _ h.t2, fun b e => ho _ _ (h.t3 b e)⟩
theorem TT.keep {t : Nat} {s : Gs} (h : TT w t s) (hb : ∀ b tg, s.own b = some tg → w'.heap[b]? = w.heap[b]?) (hs : w.heap.size ≤ w'.heap.size) : TT w' t s :=
  ⟨h.tb.keep (hb _ _ h.o1), h.lm.keep (hb _ _ h.o2), h.pm.keep (hb _ _ h.o3), fun x p e => (h.pt x p e).keep (fun b o => by rcases o with o | o | o <;> exact hb _ _ o),
    fun x p e => (h.pl x p e).keep (fun b o => by rcases o with o | o | o <;> exact hb _ _ o), h.o1, h.o2, h.o3, fun b tg o => Nat.lt_of_lt_of_le (h.lt b tg o) hs⟩
theorem TT.G {t : Nat} {s : Gs} (h : TT w t s) (g : Go.Proofs.YtkbgifhhnnfgoaaGreatDoor.G w w') : TT w' t s := h.keep (fun b tg o => g.block b (h.lt b tg o)) g.size
/-- Other blocks have turned. -/
theorem TT.chg {t : Nat} {s : Gs} {F : Nat → Prop} (h : TT w t s) (g : Chg F w w') (hF : ∀ b, F b → s.own b = none) : TT w' t s :=
  h.keep (fun b tg o => g.block b (h.lt b tg o) (fun f => by rw [hF b f] at o; cases o)) g.size
end
/-- Only what the table owns has turned; it owns more, of what has come. -/
structure Ext (w w' : World) (s s' : Gs) : Prop where
  chg : Chg (fun b => s.own b ≠ none) w w'
  old : ∀ b tg, s.own b = some tg → s'.own b = some tg
  new : ∀ b tg, s'.own b = some tg → s.own b = some tg ∨ w.heap.size ≤ b
theorem Ext.refl (w : World) (s : Gs) : Ext w w s s := ⟨Chg.refl _ _, fun _ _ h => h, fun _ _ h => .inl h⟩
theorem Ext.trans {a b c : World} {s s1 s2 : Gs} (h : Ext a b s s1) (k : Ext b c s1 s2) : Ext a c s s2 :=
  ⟨h.chg.more k.chg (fun i hi f => by
      cases e : s1.own i with
      | none => exact absurd e f
      | some tg => rcases h.new i tg e with o | o
                   · rw [o]; simp
                   · omega), fun b tg o => k.old b tg (h.old b tg o), fun b tg o => by
      rcases k.new b tg o with o | o
      · exact h.new b tg o
      · exact .inr (Nat.le_trans h.chg.size o)⟩
theorem Ext.G {a b c : World} {s s1 : Gs} (h : Ext a b s s1) (k : Go.Proofs.YtkbgifhhnnfgoaaGreatDoor.G b c) : Ext a c s s1 := h.trans ⟨k.chg, fun _ _ h => h, fun _ _ h => .inl h⟩
theorem G.ext {a b : World} (s : Gs) (k : Go.Proofs.YtkbgifhhnnfgoaaGreatDoor.G a b) : Ext a b s s := (Ext.refl a s).G k
end Go.Proofs.YtkbgifhhnnfgoaaGreatDoor
