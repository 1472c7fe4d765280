import Derived.Deep.CutRange
import Derived.Test.YtadfaiciolfgjaaGreatDoorLk70
namespace Go.Proofs.YtadfaiciolfgjaaGreatDoor
open Go.Proofs.Tryz
section
open Go.RowKit
section
variable {m m':Ms} {live:List (Int×Int)} {L:List Int} {LR:List Rs} {x:Int}
end
end
section
open Go.RowKit
def gC(a:Int×Int×Rs):List Value:=[I a.1,I a.2.1,I a.2.2.lv,.string a.2.2.lb,I a.2.2.id]
def gc(l:List (Int×Int×Rs)):List Value:=l.flatMap gC
theorem gc_snoc(l:List (Int×Int×Rs))(a:Int×Int×Rs):gc (l++[a])=gc l++gC a:=by simp[gc]
theorem app_gol(w7:World)(lo:Nat)(u:Value)(l:List (Int×Int×Rs))(a:Int×Int×Rs)(hu:w7.ownsRow lo 101 5 u l.length (gc l))(hl:l.length<2199023255552)(hlo:lo≤w7.heap.size) :
  ∃v' w9,(Builtin.append_ #[95,95] 95 #[u,.slice (some ⟨w7.heap.size,0,none⟩) 1 1]).run prog (w7.alloc (.cells #[I a.1,I a.2.1,I a.2.2.lv,.string a.2.2.lb,I a.2.2.id] 101))=.ok v' w9∧w9.ownsRow lo 101 5 v' (l++[a]).length (gc (l++[a]))∧(w7.alloc (.cells #[I a.1,I a.2.1,I a.2.2.lv,.string a.2.2.lb,I a.2.2.id] 101)).grownBy w9 u.ownBlock:=by
 obtain⟨i0,hi,hz0,hz1,hz2⟩:=info_parts (show(prog.info? 101).map (fun i=>(i.zero,i.size,i.bytes))=some (some (.agg #[.int .i64 0,.int .i64 0,.int .i64 0,.string ByteArray.empty,.int .i64 0]),5,48)from by kernel_rfl)
 have hmx:(2199023255553:Nat)≤maxLen:=of_decide_eq_true (by kernel_rfl)
 have gA:G w7 (w7.alloc (.cells #[I a.1,I a.2.1,I a.2.2.lv,.string a.2.2.lb,I a.2.2.id] 101)):=(G.refl w7).alloc _
 have hb:=(Blk.new w7 (gC a) 101)
 have hu2:(w7.alloc (.cells #[I a.1,I a.2.1,I a.2.2.lv,.string a.2.2.lb,I a.2.2.id] 101)).ownsRow lo 101 5 u l.length (gc l):=own_G hu gA
 obtain⟨v',w9,q1,q2,q3,-,-⟩:=run_append_own_at (P:=prog) (w:=w7.alloc (.cells #[I a.1,I a.2.1,I a.2.2.lv,.string a.2.2.lb,I a.2.2.id] 101)) lo 95 95 101 i0 _ 5 48 underlying95 hi hz0 hz1 hz2 rfl (by decide) u _ _ hu2 ⟨w7.heap.size,0,none⟩ 1 1 (gC a) (by simp[gC]) (fun j u hj=>by
  have:=hb.cell j
  rw[hj] at this
  rw[Addr.add_mid,Nat.zero_add];exact this) (fun u hu=>by simp[gC] at hu;rcases hu with rfl|rfl|rfl|rfl|rfl<;>rfl) (by omega) (by omega) (Nat.le_trans hlo gA.size)
 refine⟨v',w9,q1,?_,q3⟩
 rw[gc_snoc,List.length_append]
 exact q2
section
variable {m:Ms} {live:List (Int×Int)} {n:Nat} {a:Int×Int} {p:Pm}
end
end
section
open Go.RowKit
structure Lo where
 kd:Int
 who:Int
 x:Int
 st:Int
 r:Rs
 md:Int
def Lo.c(o:Lo):List Value:=[I o.kd,I o.who,I o.x,I o.st,I o.r.lv,.string o.r.lb,I o.r.id,I o.md]
def OpsL(w:World)(b off N:Nat)(X:Nat→Lo):Prop:=∀i,i<N→∀j,j<8→w.cell? ⟨b,off+i*8+j,none⟩=(X i).c[j]?
def ScL(w:World)(v:Value)(N:Nat)(X:Nat→Lo):Prop:=∃a cap,v=.slice a N cap∧(N=0∨∃b off,a=some ⟨b,off,none⟩∧OpsL w b off N X)
theorem cell_lt'{w:World}{b o:Nat}{v:Value}(h:w.cell? ⟨b,o,none⟩=some v):b<w.heap.size:=by
 by_cases hb:b<w.heap.size
 ·exact hb
 ·have:w.heap[b]?=none:=by simp;omega
  simp[World.cell?,this] at h
theorem OpsL.G{w w':World}{b off N:Nat}{X:Nat→Lo}(h:OpsL w b off N X)(g:Go.Proofs.YtadfaiciolfgjaaGreatDoor.G w w'):OpsL w' b off N X:=fun i hi j hj=>by
 have h1:=h i hi j hj
 have h2:∃v,(X i).c[j]?=some v:=⟨_,List.getElem?_eq_getElem (by simp[Lo.c];omega)⟩
 obtain⟨v,hv⟩:=h2
 rw[g.cell (cell_lt' (h1.trans hv))];exact h1
theorem OpsL.at{w:World}{b off N:Nat}{X:Nat→Lo}(h:OpsL w b off N X){i:Nat}(hi:i<N):w.cell? ⟨b,off+i*8,none⟩=some (I (X i).kd)∧w.cell? ⟨b,off+i*8+1,none⟩=some (I (X i).who)∧w.cell? ⟨b,off+i*8+2,none⟩=some (I (X i).x)∧w.cell? ⟨b,off+i*8+3,none⟩=some (I (X i).st)∧w.cell? ⟨b,off+i*8+4,none⟩=some (I (X i).r.lv)∧w.cell? ⟨b,off+i*8+5,none⟩=some (.string (X i).r.lb)∧w.cell? ⟨b,off+i*8+6,none⟩=some (I (X i).r.id)∧w.cell? ⟨b,off+i*8+7,none⟩=some (I (X i).md):=
 ⟨h i hi 0 (by omega),h i hi 1 (by omega),h i hi 2 (by omega),h i hi 3 (by omega),h i hi 4 (by omega),h i hi 5 (by omega),h i hi 6 (by omega),h i hi 7 (by omega)⟩
def m0:Ms:=⟨fun _=>none,fun _=>[]⟩
theorem iv_m0(L:List Int)(LR:List Rs):Iv m0 L LR:=
 ⟨fun _ _ h=>(by cases h),fun _ _ _ _ h=>(by cases h),fun _=>List.nodup_nil,fun _ _ _=>⟨fun h=>(by cases h),fun ⟨_,h,_⟩=>(by cases h)⟩,fun _ _ _ _ h=>(by cases h),fun _ _ _ _ _ h=>(by cases h),fun _ _ _ _ h=>absurd rfl h⟩
section
variable {m m':Ms} {live:List (Int×Int)} {L:List Int} {LR:List Rs} {x:Int}
end
end
end Go.Proofs.YtadfaiciolfgjaaGreatDoor
