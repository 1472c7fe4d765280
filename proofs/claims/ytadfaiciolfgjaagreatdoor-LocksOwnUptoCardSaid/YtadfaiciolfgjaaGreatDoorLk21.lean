import Derived.Sort.OwnSortedInts
import Derived.Shelf.SortM.Plain
import Derived.Shelf.SortM.SortNone
import Derived.RangeFuncWrites
import Derived.Test.YtadfaiciolfgjaaGreatDoorShSo
import Derived.Test.YtadfaiciolfgjaaGreatDoorLk19
namespace Go.Proofs.YtadfaiciolfgjaaGreatDoor
open Go.Proofs.Tryz
set_option maxHeartbeats 4000000
set_option maxRecDepth 100000
section
open Go.RowKit Go.Sort Go.Shelf
def srt(zs:List Int):List Int:=zs.mergeSort fun x y=>decide (x≤y)
theorem srt_len(zs:List Int):(srt zs).length=zs.length:=by unfold srt;exact List.length_mergeSort _
theorem srt_perm(zs:List Int):(srt zs).Perm zs:=List.mergeSort_perm _ _
theorem srt_up(zs:List Int):(srt zs).Pairwise (·≤·):=by
 have:=List.pairwise_mergeSort (le:=fun x y:Int=>decide (x≤y)) (fun a b c h1 h2=>by simp at *;omega) (fun a b=>by simp;omega) zs
 exact this.imp (fun h=>by simpa using h)
theorem sort_row(W:World)(lo:Nat)(v:Value)(zs:List Int)(h:W.ownsRow lo 3 1 v zs.length (zs.map fun z=>I z))(hl:zs.length<4611686018427387904) :
  Calls prog 93 #[v] W fun e W'=>e=.returned (.tuple #[])∧W'.ownsRow lo 3 1 v zs.length ((srt zs).map fun z=>I z)∧Chg (fun k=>v.ownBlock=some k) W W':=by
 rcases h.2 with ⟨rfl,h0⟩|⟨g,cap,cur,rfl,hlo,hg,hc,hm,hs,ht⟩
 ·have hz:zs=[]:=List.eq_nil_of_length_eq_zero h0
  subst hz
  refine(AnyM.slices_Sort_int_none Tryz.sortI none 0 W).mono ?_
  rintro e W' ⟨rfl,rfl⟩
  have e:srt []=[]:=List.eq_nil_of_length_eq_zero (srt_len [])
  rw[e]
  exact⟨rfl,h,Chg.refl _ _⟩
 ·have hH:Holds (Value.int .i64) W g 0 zs.toArray:=holds_of_blockI hg (by rw[Nat.mul_one] at ht;exact ht)
  refine(AnyM.slices_Sort_int Tryz.sortI g 0 cap zs W hH (Array.getElem?_eq_some_iff.1 hg).1 hl).mono ?_
  rintro e W' ⟨rfl,n,os,rfl⟩
  refine⟨rfl,ownsRow_sortedI (ss:=zs) (ts:=srt zs) (srt_len zs) hlo hg hc hm hs,?_⟩
  have hgr:=grownBy_sortedI (w:=W) (g:=g) (n:=n) (os:=os) (srt zs).toArray
  exact⟨hgr.os,hgr.tape,hgr.output,hgr.size,fun k hk hn=>hgr.block k hk (fun e=>hn e.symm)⟩
end
section
open Go.RowKit Go.Shelf
attribute [local go_sem] Oper.semAt_some
structure Wb(w W0 W:World)(t b4 b5 b9 b10:Nat)(x qm:Int)(p:Pt)(s:Gs)(so:Gs×List Int):Prop where
 tt:TT W t so.1
 ext:Ext w W s so.1
 tb:Tb W
 k4:Blk W b4 36 [ptr t]
 k5:Blk W b5 68 [I x,I qm]
 k9:Blk W b9 55 [ptr p.blk]
 k10:∃uv,Blk W b10 42 [uv]∧W.ownsRow W0.heap.size 3 1 uv so.2.length (so.2.map fun z=>I z)
 own:∀b tg,so.1.own b=some tg→b<W0.heap.size
 g0:1<W0.heap.size∧0<W0.heap.size
 sw:w.heap.size≤W0.heap.size
 sz:W0.heap.size≤W.heap.size
theorem Wb.kept{w W0 W W':World}{t b4 b5 b9 b10:Nat}{x qm:Int}{p:Pt}{s:Gs}{so:Gs×List Int}{row:Option Nat}(h:Wb w W0 W t b4 b5 b9 b10 x qm p s so)(hg:W.grownBy W' row)(hr:∀r,row=some r→W0.heap.size≤r∧∃o:Obj,W.heap[r]?=some o∧o.isCells=false):Wb w W0 W' t b4 b5 b9 b10 x qm p s so:=by
 have hold:∀b,b<W0.heap.size→W'.heap[b]?=W.heap[b]?:=fun b hb=>hg.block b (Nat.lt_of_lt_of_le hb h.sz) (fun e=>by have:=(hr b e.symm).1;omega)
 have hcell:∀b e xs,Blk W b e xs→¬row=some b:=fun b e xs hb e'=>by
  obtain⟨_,o,ho,hc⟩:=hr b e'
  rw[hb.h] at ho
  cases ho
  simp[Obj.isCells] at hc
 have hblk:∀b e xs,Blk W b e xs→Blk W' b e xs:=fun b e xs hb=>hb.keep (hg.block b hb.lt (fun e'=>hcell b e xs hb e'.symm))
 obtain⟨uv,hb10,hrow⟩:=h.k10
 refine⟨h.tt.keep (fun b tg o=>hold b (h.own b tg o)) hg.size,⟨⟨hg.os.trans h.ext.chg.os,hg.tape.trans h.ext.chg.tape,hg.output.trans h.ext.chg.output,Nat.le_trans h.ext.chg.size hg.size,fun b hb hn=>(hold b (Nat.lt_of_lt_of_le hb h.sw)).trans (h.ext.chg.block b hb hn)⟩,h.ext.old,h.ext.new⟩,h.tb.keep (hold _ h.g0.1) (hold _ h.g0.2) hg.size,hblk _ _ _ h.k4,hblk _ _ _ h.k5,hblk _ _ _ h.k9,⟨uv,hblk _ _ _ hb10,own_chg (F:=fun b=>row=some b) hrow ⟨hg.os,hg.tape,hg.output,hg.size,fun b hb hn=>hg.block b hb (fun e=>hn e.symm)⟩ (fun b hb=>?_)⟩,h.own,h.g0,h.sw,Nat.le_trans h.sz hg.size⟩
 rcases hrow.2 with ⟨e,-⟩|⟨g,cap,cur,e,-,hgc,-⟩
 ·rw[e] at hb;simp[Value.ownBlock] at hb
 ·rw[e] at hb
  have e2:g=b:=by simpa [Value.ownBlock] using hb
  subst e2
  intro e'
  obtain⟨_,o,ho,hc⟩:=hr g e'
  rw[hgc] at ho
  cases ho
  simp[Obj.isCells] at hc
theorem tag_iter{W:World}{b m:Nat}{g:Int→Option Value}(hm:Mp (fun n:Int=>I n) 3 W m g)(h:∃mm s se c,W.heap[b]?=some (.mapIter mm s se c)):b≠m:=fun e=>by
 subst e
 obtain⟨n,D,⟨es,clock,hb,-⟩,-⟩:=hm
 obtain⟨mm,s,se,c,h⟩:=h
 rw[hb] at h
 cases h
theorem Wb.hit{w W0 W w8:World}{t b4 b5 b9 b10:Nat}{x qm:Int}{p:Pt}{s:Gs}{so:Gs×List Int}{r:Rs}{q:Pl}{b1 b2 b3:Nat}{y:Int}{b':Pt}(h:Wb w W0 W t b4 b5 b9 b10 x qm p s so)(hT:TT w t s)(ho:so.1.own=s.own)(hgl:s.own 1=none∧s.own 0=none)(hq:s.pl r=some q)(hb4:w.heap.size≤b4∧w.heap.size≤b5∧w.heap.size≤b9∧w.heap.size≤b10∧w.heap.size≤b1∧w.heap.size≤b2∧w.heap.size≤b3)(hb':so.1.lv y=some b')
  (hT8:TT w8 t (so.1.setPt y (b'.hit x))) (hE8:Ext W.drew w8 so.1 (so.1.setPt y (b'.hit x))) (hC8:Chg (fun k=>k=b'.wb) W.drew w8) (hs8:w8.heap.size=W.drew.heap.size) :
  Wb w W0 w8 t b4 b5 b9 b10 x qm p s (so.1.setPt y (b'.hit x),so.2)∧KeepsFrom W0.heap.size W w8∧WayK (wayB b1 b2 b3 q) W w8:=by
 have hob:s.own b'.wb=some (.pw y):=by rw[←ho];exact(h.tt.pt y b' hb').t3
 have hlt:=hT.lt _ _ hob
 have hsw:=h.sw
 have hC:Chg (fun k=>k=b'.wb) W w8:=((G.refl W).drew.chg).trans hC8
 have hpl:=hT.pl r q hq
 have hne:∀b tg,s.own b=some tg→tg≠.pw y→b≠b'.wb:=fun b tg o n e=>by
  subst e
  rw[o] at hob
  exact n (Option.some.inj hob)
 have hg:∀b,s.own b=none→b≠b'.wb:=fun b o e=>by
  subst e
  rw[o] at hob
  cases hob
 obtain⟨uv,hu1,hu2⟩:=h.k10
 refine⟨⟨hT8,(h.ext.G (G.refl W).drew).trans hE8,h.tb.keep (hC.block _ h.tb.lf (hg _ hgl.1)) (hC.block _ h.tb.lj (hg _ hgl.2)) hC.size,h.k4.chg hC (by omega),h.k5.chg hC (by omega),h.k9.chg hC (by omega),⟨uv,hu1.chg hC (by omega),own_chg hu2 hC (fun b hb e=>?_)⟩,h.own,h.g0,h.sw,Nat.le_trans h.sz hC.size⟩,⟨hC.size,fun k o hk hh _=>?_⟩,⟨hC.size,fun b hb=>?_⟩⟩
 ·have h3:W0.heap.size≤b:=by
   rcases hu2.2 with ⟨e2,-⟩|⟨g,cap,cur,e2,hlo,-⟩
   ·rw[e2] at hb;simp[Value.ownBlock] at hb
   ·rw[e2] at hb
    have e3:g=b:=by simpa [Value.ownBlock] using hb
    rw[←e3];exact hlo
  omega
 ·exact(hC.block k (Array.getElem?_eq_some_iff.1 hh).1 (by omega)).trans hh
 ·by_cases hbl:b<W.heap.size
  ·refine hC.block b hbl (fun e=>?_)
   rcases hb with hb|hb
   ·rcases hb with e1|e1|e1|e1|e1|e1|e1|e1
    ·exact hg _ hgl.1 (e1.symm.trans e)
    ·exact hg _ hgl.2 (e1.symm.trans e)
    iterate 3
     ·omega
    ·exact hne _ _ hpl.t1 (by simp) (e1.symm.trans e)
    ·exact hne _ _ hpl.t2 (by simp) (e1.symm.trans e)
    ·exact hne _ _ (hpl.t3 b e1) (by simp) e
   ·exact tag_iter (h.tt.pt y b' hb').wm hb e
  ·have h8:w8.heap.size=W.heap.size:=hs8
   rw[Array.getElem?_eq_none (by omega),Array.getElem?_eq_none (by omega)]
theorem Wb.told{w W0 W:World}{t b4 b5 b9 b10:Nat}{x qm:Int}{p:Pt}{s:Gs}{so:Gs×List Int}{r:Rs}{q:Pl}{b1 b2 b3:Nat}(h:Wb w W0 W t b4 b5 b9 b10 x qm p s so)(hT:TT w t s)(ho:so.1.own=s.own)(hg0:1<w.heap.size∧0<w.heap.size)(hq:s.pl r=some q)(h10:w.heap.size≤b10∧b10<W0.heap.size)(hb1:b1<W0.heap.size∧b2<W0.heap.size∧b3<W0.heap.size∧b1≠b10∧b2≠b10∧b3≠b10)(y:Int)(hl:so.2.length<4100000000000)(uv:Value)(hu1:Blk W b10 42 [uv])(hu2:W.ownsRow W0.heap.size 3 1 uv so.2.length (so.2.map fun z=>I z)) :
  ∃g' cap' w9,∃v',v'=Value.slice (some ⟨g',0,none⟩) (so.2.length+1) cap'∧(Builtin.append_ #[42,42] 42 #[uv,.slice (some ⟨W.heap.size,0,none⟩) 1 1]).run prog (W.alloc (.cells #[I y] 3))=.ok v' w9∧Blk w9 b10 42 [uv]∧Wb w W0 (w9.setCell ⟨b10,0,none⟩ v') t b4 b5 b9 b10 x qm p s (so.1,so.2++[y])∧KeepsFrom W0.heap.size W (w9.setCell ⟨b10,0,none⟩ v')∧WayK (wayB b1 b2 b3 q) W (w9.setCell ⟨b10,0,none⟩ v'):=by
 obtain⟨i0,hi,hz0,hz1,hz2⟩:=info_parts (show(prog.info? 3).map (fun i=>(i.zero,i.size,i.bytes))=some (some (.int .i64 0),1,8)from by kernel_rfl)
 have gA:G W (W.alloc (.cells #[I y] 3)):=(G.refl W).alloc _
 have hmx:(4100000000000:Nat)≤maxLen:=of_decide_eq_true (by kernel_rfl)
 obtain⟨v',w9,q1,q2,q3,-,q5⟩:=run_append_own_at (P:=prog) (w:=W.alloc (.cells #[I y] 3)) W0.heap.size 42 42 3 i0 _ 1 8 underlying42 hi hz0 hz1 hz2 rfl (by decide) uv so.2.length (so.2.map fun z=>I z) (own_G hu2 gA) ⟨W.heap.size,0,none⟩ 1 1 [I y] rfl (fun j u hj=>by
  have e:j=0:=by
   have:=(List.getElem?_eq_some_iff.1 hj).1
   simp at this
   omega
  subst e
  have:=(Blk.new W [I y] 3).cell 0
  rw[hj] at this
  simpa [Addr.add] using this) (by simp[Value.oneCell']) (by omega) (by omega) (Nat.le_trans h.sz gA.size)
 have hlo:∀b,uv.ownBlock=some b→W0.heap.size≤b∧∃ys,Blk W b 3 ys:=fun b hb=>by
  rcases hu2.2 with ⟨e2,-⟩|⟨g,cap,cur,e2,hlo,hgc,-⟩
  ·rw[e2] at hb;simp[Value.ownBlock] at hb
  ·rw[e2] at hb
   have e3:g=b:=by simpa [Value.ownBlock] using hb
   rw[←e3]
   exact⟨hlo,_,⟨by rw[Array.toArray_toList];exact hgc⟩⟩
 -- what lies in W,but for the row and the box,lies there still
 have hk:∀b,b<W.heap.size→uv.ownBlock≠some b→b≠b10→(w9.setCell ⟨b10,0,none⟩ v').heap[b]?=W.heap[b]?:=fun b hb h1 h2=>by
  rw[Below.heap_setCell _ _ _ _ h2,q3.block b (Nat.lt_of_lt_of_le hb gA.size) (fun e=>h1 e.symm)]
  exact gA.block b hb
 have hold:∀b,b<W0.heap.size→b≠b10→(w9.setCell ⟨b10,0,none⟩ v').heap[b]?=W.heap[b]?:=fun b hb h2=>hk b (Nat.lt_of_lt_of_le hb h.sz) (fun e=>by have:=(hlo b e).1;omega) h2
 have hown:∀b tg,so.1.own b=some tg→b<w.heap.size:=fun b tg o=>hT.lt b tg (by rw[←ho];exact o)
 have hsz:W.heap.size≤(w9.setCell ⟨b10,0,none⟩ v').heap.size:=by
  rw[World.size_setCell]
  exact Nat.le_trans gA.size q3.size
 have hsw:=h.sw
 have hb9:Blk w9 b10 42 [uv]:=(hu1.G gA).keep (q3.block b10 (Nat.lt_of_lt_of_le hu1.lt gA.size) (fun e=>by
  have:=(hlo b10 e.symm).1
  omega))
 have hblk:∀b e xs,Blk W b e xs→b<W0.heap.size→b≠b10→Blk (w9.setCell ⟨b10,0,none⟩ v') b e xs:=fun b e xs hb hlt hn=>hb.keep (hold b hlt hn)
 have hpl:=hT.pl r q hq
 obtain⟨g',cap',ev⟩:=ownsRow_succ q2
 refine⟨g',cap',w9,v',ev,q1,hb9,⟨h.tt.keep (fun b tg o=>hold b (h.own b tg o) (fun e=>by have:=hown b tg o;omega)) hsz,⟨⟨?_,?_,?_,Nat.le_trans h.ext.chg.size hsz,fun b hb hn=>(hold b (by omega) (by omega)).trans (h.ext.chg.block b hb hn)⟩,h.ext.old,h.ext.new⟩,h.tb.keep (hold _ h.g0.1 (by omega)) (hold _ h.g0.2 (by omega)) hsz,?_,?_,?_,⟨v',hb9.set 0 _,?_⟩,h.own,h.g0,h.sw,Nat.le_trans h.sz hsz⟩,⟨hsz,fun k ob hk0 hh hc=>?_⟩,⟨hsz,fun b hb=>?_⟩⟩
 ·exact q3.os.trans (gA.os.trans h.ext.chg.os)
 ·exact q3.tape.trans (gA.tape.trans h.ext.chg.tape)
 ·exact q3.output.trans (gA.output.trans h.ext.chg.output)
 ·exact h.k4.keep (hk _ h.k4.lt (fun e=>by obtain⟨-,ys,hy⟩:=hlo _ e;exact absurd rfl (h.k4.ne hy (by decide))) (h.k4.ne hu1 (by decide)))
 ·exact h.k5.keep (hk _ h.k5.lt (fun e=>by obtain⟨-,ys,hy⟩:=hlo _ e;exact absurd rfl (h.k5.ne hy (by decide))) (h.k5.ne hu1 (by decide)))
 ·exact h.k9.keep (hk _ h.k9.lt (fun e=>by obtain⟨-,ys,hy⟩:=hlo _ e;exact absurd rfl (h.k9.ne hy (by decide))) (h.k9.ne hu1 (by decide)))
 ·rw[List.length_append,List.map_append]
  refine own_chg q2 (chgk w9 b10 0 v') (fun b hb e=>?_)
  rcases q2.2 with ⟨e2,-⟩|⟨g,cap,cur,e2,hlo2,-⟩
  ·rw[e2] at hb;simp[Value.ownBlock] at hb
  ·rw[e2] at hb
   have e3:g=b:=by simpa [Value.ownBlock] using hb
   omega
 ·have hlt:=(Array.getElem?_eq_some_iff.1 hh).1
  refine(hk k hlt (fun e=>?_) (by omega)).trans hh
  obtain⟨-,ys,hy⟩:=hlo k e
  rw[hy.h] at hh
  cases hh
  simp[Obj.isCells] at hc
 ·rcases hb with hb|⟨mm,s',se,c,hb⟩
  ·have hw:b<W0.heap.size∧b≠b10:=by
    rcases hb with e1|e1|e1|e1|e1|e1|e1|e1
    iterate 5
     ·rw[e1];omega
    ·have:=hT.lt _ _ hpl.t1;rw[e1];omega
    ·have:=hT.lt _ _ hpl.t2;rw[e1];omega
    ·have:=hT.lt _ _ (hpl.t3 b e1);omega
   exact hold b hw.1 hw.2
  ·refine hk b (Array.getElem?_eq_some_iff.1 hb).1 (fun e=>?_) (fun e=>?_)
   ·obtain⟨-,ys,hy⟩:=hlo b e
    rw[hy.h] at hb
    cases hb
   ·rw[e,hu1.h] at hb
    cases hb
theorem Wb.fin{w W0 W w8:World}{t b4 b5 b9 b10:Nat}{x qm:Int}{p:Pt}{s:Gs}{so:Gs×List Int}{uv:Value}{D:Nat}(o:Obj)(h:Wb w W0 W t b4 b5 b9 b10 x qm p s so)(hR:w8.ownsRow W0.heap.size 3 1 uv so.2.length ((srt so.2).map fun z=>I z))(hC:Chg (fun k=>uv.ownBlock=some k) W w8)(hD:W0.heap.size≤D)(hK:w8.heap[D]?=some (.deferred (some []))) :
  TT (w8.putObj D o) t so.1∧Ext w (w8.putObj D o) s so.1∧Tb (w8.putObj D o)∧(w8.putObj D o).ownsRow w.heap.size 3 1 uv so.2.length ((srt so.2).map fun z=>I z):=by
 have hlo:∀b,uv.ownBlock=some b→W0.heap.size≤b:=fun b hb=>by
  rcases hR.2 with ⟨e2,-⟩|⟨g,cap,cur,e2,hlo,-⟩
  ·rw[e2] at hb;simp[Value.ownBlock] at hb
  ·rw[e2] at hb
   have e3:g=b:=by simpa [Value.ownBlock] using hb
   rw[←e3];exact hlo
 have hg:=grownBy_putObj' w8 D o
 have hsz:W.heap.size≤(w8.putObj D o).heap.size:=Nat.le_trans hC.size hg.size
 have hz:=h.sz
 have hw:=h.sw
 have hold:∀b,b<W0.heap.size→(w8.putObj D o).heap[b]?=W.heap[b]?:=fun b hb=>
  (hg.block b (by have:=hC.size;omega) (fun e=>by cases e;omega)).trans (hC.block b (by omega) (fun e=>by have:=hlo b e;omega))
 refine⟨h.tt.keep (fun b tg o=>hold b (h.own b tg o)) hsz,⟨⟨hg.os.trans (hC.os.trans h.ext.chg.os),hg.tape.trans (hC.tape.trans h.ext.chg.tape),hg.output.trans (hC.output.trans h.ext.chg.output),Nat.le_trans h.ext.chg.size hsz,fun b hb hn=>(hold b (by omega)).trans (h.ext.chg.block b hb hn)⟩,h.ext.old,h.ext.new⟩,h.tb.keep (hold _ h.g0.1) (hold _ h.g0.2) hsz,?_⟩
 have h2:=own_chg (F:=fun b=>some D=some b) hR ⟨hg.os,hg.tape,hg.output,hg.size,fun b hb hn=>hg.block b hb (fun e=>hn e.symm)⟩ (fun b hb e=>by
  cases e
  rcases hR.2 with ⟨e2,-⟩|⟨g,cap,cur,e2,-,hgc,-⟩
  ·rw[e2] at hb;simp[Value.ownBlock] at hb
  ·rw[e2] at hb
   have e3:g=D:=by simpa [Value.ownBlock] using hb
   rw[e3,hK] at hgc
   cases hgc)
 refine⟨h2.1,?_⟩
 rcases h2.2 with h3|⟨g,cap,cur,e,hb,rest⟩
 ·exact .inl h3
 ·exact .inr ⟨g,cap,cur,e,Nat.le_trans hw hb,rest⟩
theorem wbL_len(x st:Int)(s:Gs)(l:List Int):(wbL x st s l).2.length≤l.length:=by
 refine snoc_ind (P:=fun l=>(wbL x st s l).2.length≤l.length) (Nat.le_refl _) (fun l y ih=>?_) l
 rw[wbL_snoc,List.length_append]
 unfold wbs
 split
 ·split
  ·dsimp only
   split
   ·simp only[List.length_cons,List.length_nil];omega
   ·simp only[List.length_append,List.length_cons,List.length_nil];omega
  ·simp only[List.length_cons,List.length_nil];omega
 ·simp only[List.length_cons,List.length_nil];omega
theorem Wb.reads{w W0 V:World}{t b4 b5 b9 b10:Nat}{x qm:Int}{p:Pt}{s:Gs}{so:Gs×List Int}{y:Int}{b p':Pt}{B:Nat}{st:Int}(h:Wb w W0 V t b4 b5 b9 b10 x qm p s so)(hb:so.1.lv y=some b)(e1:b.blk=B)(e2:b.stamp=st)(hp:so.1.lv x=some p')(e3:p'.blk=p.blk)(e4:p'.stamp=p.stamp) :
  V.cell? ⟨B,0,none⟩=some (I st)∧V.cell? ⟨p.blk,0,none⟩=some (I p.stamp)∧V.cell? ⟨b9,0,none⟩=some (ptr p.blk)∧V.cell? ⟨b5,0,none⟩=some (I x):=by
 refine⟨?_,?_,h.k9.cell 0,h.k5.cell 0⟩
 ·rw[←e1,←e2];exact(h.tt.pt y b hb).blk.cell 0
 ·rw[←e3,←e4];exact(h.tt.pt x p' hp).blk.cell 0
theorem wba_any(t:Nat)(s:Gs)(x qm:Int)(p:Pt)(r:Rs)(q:Pl)(ah:Nat)(L LW:List Int)(w:World)(h:TT w t s)(ht:Tb w)(hgl:s.own 1=none∧s.own 0=none)(hp:s.lv x=some p)(hx:R64 x)(hwR:∀y,p.wd y=true→R64 y)(hq:s.pl r=some q)(hah:ah≤q.qs.length)(hL:∀z,q.hf z≠0→z∈L)(hR:∀z,q.hf z≠0→R64 z)(hlq:q.qs.length≤maxLen)
  (hway:∀y,inW q.hf q.qs x qm ah y→y≠x∧R64 y∧∃b,s.lv y=some b∧∀z,b.wd z=true→R64 z∧z∈LW) (hxw:x∈LW) (hlw:LW.length<maxLen) (hbig:L.length+q.qs.length<4100000000000) :
  Calls prog 60 #[ptr t,.agg #[I x,I qm],ptr q.blk,I (ah:Int)] w fun e w'=>(p.hurt=true∧e=.returned (.slice none 0 0)∧G w w')∨(p.hurt=false∧∃(xs:List Int) (v:Value),(∀y,y∈xs↔inW q.hf q.qs x qm ah y)∧xs.length≤L.length+q.qs.length∧e=.returned v∧w'.ownsRow w.heap.size 3 1 v (wbL x p.stamp s xs).2.length ((srt (wbL x p.stamp s xs).2).map fun z=>I z)∧TT w' t (wbL x p.stamp s xs).1∧Ext w w' s (wbL x p.stamp s xs).1∧Tb w'):=by
 refine(callsIn_wide (n:=5)).1 ?_
 have hf1:Fence.wide.fn 90:=trivial
 have hf2:Fence.wide.fn 83:=trivial
 have hf3:Fence.wide.fn 89:=trivial
 have hf4:Fence.wide.fn 93:=trivial
 have gA:G w ((w.alloc (.cells #[ptr t] 36)).alloc (.cells #[I x,I qm] 68)):=((G.refl w).alloc _).alloc _
 have k4:=(Blk.new w [ptr t] 36).G ((G.refl _).alloc (.cells #[I x,I qm] 68))
 have k5:=Blk.new (w.alloc (.cells #[ptr t] 36)) [I x,I qm] 68
 rw[World.size_alloc] at k5
 have hsA:((w.alloc (.cells #[ptr t] 36)).alloc (.cells #[I x,I qm] 68)).heap.size=w.heap.size+2:=by simp
 have HGA:=hide gA
 have HK4:=hide k4
 have HK5:=hide k5
 have HSA:=hide hsA
 have HT:=hide h
 have HTB:=hide ht
 have HP:=hide hp
 have HX:=hide hx
 have HWR:=hide hwR
 have HQ:=hide hq
 have HWAY:=hide hway
 clear gA k4 k5 hsA h ht hp hx hwR hq hway
 refine callsIn_of_wp_marks func60 rfl trivial ?_ rfl
 simp only[ntmps60,List.size_toArray,List.length_cons,List.length_nil,Nat.reduceAdd,Nat.reduceSub,Array.replicate_succ,Array.replicate_zero,List.push_toArray,List.append_toArray,List.nil_append,List.cons_append]
 gi_wp2_with fail
 generalize ((w.alloc (.cells #[ptr t] 36)).alloc (.cells #[I x,I qm] 68))=wA at *
 have HALL:Hid (∀V,G wA V→(fun V=>(∀o,V.cell? ⟨w.heap.size,o,none⟩=([ptr t]:List Value)[o]?)∧(∀o,V.cell? ⟨w.heap.size+1,o,none⟩=([I x,I qm]:List Value)[o]?)∧(∀o,V.cell? ⟨t,o,none⟩=([.map (some s.lb),.map (some s.pb)]:List Value)[o]?)∧(Instr.lookup 78 (.map (some s.lb)) (I x) false).run prog V=.ok (ptr p.blk) V) V):=fun V gV=>by
  have hT:=HT.out.G (HGA.out.trans gV)
  refine⟨(HK4.out.G gV).cell,(HK5.out.G gV).cell,hT.tb.cell,?_⟩
  have hlk:=hT.lm.look kyI underlying78 (zeroValue55 V) (kyI_ok.2 HX.out)
  rw[HP.out] at hlk
  exact hlk
 refine wpIn_wide.2 ?_
 refine wp_region_noPanic ?_
 refine wp_region_L (S:=(fun V=>(∀o,V.cell? ⟨w.heap.size,o,none⟩=([ptr t]:List Value)[o]?)∧(∀o,V.cell? ⟨w.heap.size+1,o,none⟩=([I x,I qm]:List Value)[o]?)∧(∀o,V.cell? ⟨t,o,none⟩=([.map (some s.lb),.map (some s.pb)]:List Value)[o]?)∧(Instr.lookup 78 (.map (some s.lb)) (I x) false).run prog V=.ok (ptr p.blk) V)) 8 (by kernel_rfl) (HALL.out _ (G.drew (G.refl _))) (fun hHeld=>?_)
 refine wpAnyL_take (i:=0) (v:=?_) rfl (by kernel_rfl) (by kernel_rfl) (by kernel_rfl) (by kernel_rfl) (fun _ _ _ h=>h) (Or.inl ⟨by rfl,?_⟩) hHeld ?_
 rotate_left 1
 ·(intro w hSw;obtain⟨q1,q2,q3,q4⟩:=hSw;go_simp;try with_reducible rfl)
 try simp only[Act.put,zzA,zzB,zzD,zzE,zzF]
 refine wpAnyL_take (i:=1) (v:=?_) rfl (by kernel_rfl) (by kernel_rfl) (by kernel_rfl) (by kernel_rfl) (fun _ _ _ h=>h) (Or.inl ⟨by rfl,?_⟩) hHeld ?_
 rotate_left 1
 ·(intro w hSw;obtain⟨q1,q2,q3,q4⟩:=hSw;go_simp;try with_reducible rfl)
 try simp only[Act.put,zzA,zzB,zzC,zzD,zzE,zzF]
 refine wpAnyL_take (i:=2) (v:=?_) rfl (by kernel_rfl) (by kernel_rfl) (by kernel_rfl) (by kernel_rfl) (fun _ _ _ h=>h) (Or.inl ⟨by rfl,?_⟩) hHeld ?_
 rotate_left 1
 ·(intro w hSw;obtain⟨q1,q2,q3,q4⟩:=hSw;go_simp;try with_reducible rfl)
 try simp only[Act.put,zzA,zzB,zzC,zzD,zzE,zzF]
 refine wpAnyL_take (i:=3) (v:=?_) rfl (by kernel_rfl) (by kernel_rfl) (by kernel_rfl) (by kernel_rfl) (fun _ _ _ h=>h) (Or.inl ⟨by rfl,?_⟩) hHeld ?_
 rotate_left 1
 ·(intro w hSw;obtain⟨q1,q2,q3,q4⟩:=hSw;go_simp;try with_reducible rfl)
 try simp only[Act.put,zzA,zzB,zzC,zzD,zzE,zzF]
 refine wpAnyL_take (i:=4) (v:=?_) rfl (by kernel_rfl) (by kernel_rfl) (by kernel_rfl) (by kernel_rfl) (fun _ _ _ h=>h) (Or.inl ⟨by rfl,?_⟩) hHeld ?_
 rotate_left 1
 ·(intro w hSw;obtain⟨q1,q2,q3,q4⟩:=hSw;go_simp;try with_reducible rfl)
 try simp only[Act.put,zzA,zzB,zzC,zzD,zzE,zzF]
 refine wpAnyL_take (i:=5) (v:=?_) rfl (by kernel_rfl) (by kernel_rfl) (by kernel_rfl) (by kernel_rfl) (fun _ _ _ h=>h) (Or.inl ⟨by rfl,?_⟩) hHeld ?_
 rotate_left 1
 ·(intro w hSw;obtain⟨q1,q2,q3,q4⟩:=hSw;go_simp;try with_reducible rfl)
 try simp only[Act.put,zzA,zzB,zzC,zzD,zzE,zzF]
 refine wpAnyL_take (i:=6) (v:=?_) rfl (by kernel_rfl) (by kernel_rfl) (by kernel_rfl) (by kernel_rfl) (fun _ _ _ h=>h) (Or.inl ⟨by rfl,?_⟩) hHeld ?_
 rotate_left 1
 ·(intro w hSw;obtain⟨q1,q2,q3,q4⟩:=hSw;go_simp;try with_reducible rfl)
 try simp only[Act.put,zzA,zzB,zzC,zzD,zzE,zzF]
 refine wpAnyL_one (i:=7) (by kernel_rfl) rfl (by kernel_rfl) (fun K hK=>?_)
 clear hHeld
 go_simp
 have HG6:Hid (G wA (wA.alloc (.cells #[.pointer none] 55)).drew):=((G.refl wA).alloc _).drew
 have HB6:Hid (Blk (wA.alloc (.cells #[.pointer none] 55)).drew wA.heap.size 55 [.pointer none]):=(Blk.new wA [.pointer none] 55).drew
 generalize (wA.alloc (.cells #[.pointer none] 55)).drew=w6 at HG6 HB6⊢
 refine hK.out _ _ (HALL.out _ HG6.out) (fun hHeld=>?_)
 clear hK K
 try simp only[Act.put,zzA,zzB,zzC,zzD,zzE,zzF]
 refine wpAnyL_last (by kernel_rfl) rfl (by kernel_rfl) (fun K hK=>?_)
 clear hHeld
 have hc7:=HB6.out.cell
 have hz7:=HB6.out.frozen
 go_simp
 refine hK.out _ _ ?_
 clear hK K
 refine NoPanic.normal ?_
 clear HALL
 have HG7:Hid (G wA (w6.setCell ⟨wA.heap.size,0,none⟩ (ptr p.blk))):=HG6.out.setCell (Nat.le_refl _) _
 have HB9:Hid (Blk (w6.setCell ⟨wA.heap.size,0,none⟩ (ptr p.blk)) wA.heap.size 55 [ptr p.blk]):=HB6.out.set 0 _
 generalize w6.setCell ⟨wA.heap.size,0,none⟩ (ptr p.blk)=w7 at *
 clear HG6 HB6
 have HT7:=hide (HT.out.G (HGA.out.trans HG7.out))
 have KI:=hide (isWounded_any p w7 (HT7.out.pt x p HP.out).blk (HT7.out.pt x p HP.out).wm HWR.out)
 have c9:=HB9.out.cell
 have c5:=(HK5.out.G HG7.out).cell
 cases hh:p.hurt with
 | true=>
  rw[hh] at KI
  have HH:=hide hh
  clear hh
  gi_wp2_with (first|(gi_at_call 83;refine(callsIn_wide.2 KI.out).mono ?_;rintro e w' ⟨rfl,rfl⟩)|fail)
  refine⟨.slice none 0 0,?_,.inl ⟨HH.out,rfl,HGA.out.trans HG7.out⟩⟩
  simp[results,Tryz.f60,go_sem]
 | false=>
  rw[hh] at KI
  have HH:=hide hh
  clear hh
  have KW:=hide (inway_any q x qm ah (w7.alloc (.cells #[.slice none 0 0] 42)))
  have c5b:=(HK5.out.G (HG7.out.alloc (.cells #[.slice none 0 0] 42))).cell
  clear c5 hc7 hz7
  gi_wp2_with (first|(gi_at_call 83;refine(callsIn_wide.2 KI.out).mono ?_;rintro e w' ⟨rfl,rfl⟩)|(gi_at_call 90;refine(callsIn_wide.2 KW.out).mono ?_;rintro e w' ⟨rfl,rfl⟩)|fail)
  have gO:G w' (w'.alloc (.cells #[.slice none 0 0] 42)):=(G.refl _).alloc _
  have gY:G (w'.alloc (.cells #[.slice none 0 0] 42)) (wayW (w'.alloc (.cells #[.slice none 0 0] 42)) q x qm ah):=(((G.refl _).alloc _).alloc _).alloc _
  have hT8:=HT7.out.G gO
  have hq8:=hT8.pl r q HQ.out
  have hway:=way_of x qm ah ((HTB.out.G (HGA.out.trans HG7.out)).G gO) hq8.blk hq8.hm hq8.q
  have hsz:(wayW (w'.alloc (.cells #[.slice none 0 0] 42)) q x qm ah).heap.size=w'.heap.size+4:=by simp
  have gW:G w (wayW (w'.alloc (.cells #[.slice none 0 0] 42)) q x qm ah):=(HGA.out.trans HG7.out).trans (gO.trans gY)
  have g7:=HG7.out.trans (gO.trans gY)
  have hWb:Wb w (wayW (w'.alloc (.cells #[.slice none 0 0] 42)) q x qm ah) (wayW (w'.alloc (.cells #[.slice none 0 0] 42)) q x qm ah) t w.heap.size (w.heap.size+1) wA.heap.size w'.heap.size x qm p s (wbL x p.stamp s []):=
   ⟨hT8.G gY,G.ext s gW,hway.tb,HK4.out.G g7,HK5.out.G g7,HB9.out.G (gO.trans gY),⟨_,(Blk.new w' [.slice none 0 0] 42).G gY,⟨rfl,.inl ⟨rfl,rfl⟩⟩⟩,fun b tg o=>Nat.lt_of_lt_of_le (HT.out.lt b tg o) gW.size,⟨hway.tb.lf,hway.tb.lj⟩,gW.size,Nat.le_refl _⟩
  simp only[World.size_alloc] at hway
  have hmix:prog.follows .mixedOrders=true:=by kernel_rfl
  clear gO gY hT8 hq8 KW c5b c9 KI g7
  generalize wayW (w'.alloc (.cells #[.slice none 0 0] 42)) q x qm ah=W0 at hway hsz gW hWb⊢
  refine wpIn_rangeFunc_ownG rfl (by omega) (gf:=107) (lb:=#[ptr (w'.heap.size+1),ptr (w'.heap.size+1+1),ptr (w'.heap.size+1+2)]) rfl trivial (enters_of func107 (by kernel_rfl) rfl)
   (seq_sub 4 _ _ _ ah q x qm L W0 (by omega) hah hL hR hlq hway) WayK.trans (WayK.put (fun b hb=>hway.lt hb)) (Below.refl _ _) (fun _=>rfl)
   (fun (pre:List {z:Int // inW q.hf q.qs x qm ah z}) W=>Wb w W0 W t w.heap.size (w.heap.size+1) wA.heap.size w'.heap.size x qm p s (wbL x p.stamp s (pre.map Subtype.val))∧pre.length≤L.length+q.qs.length)
   (fun _ _ _=>False)
   (fun pre W W' row h hg hr=>⟨h.1.kept hg hr,h.2⟩)
   (fun c s W W' row h _ _=>h.elim)
   ⟨hWb,Nat.zero_le _⟩
   (fun y=>{tmps:=#[ptr t,.agg #[I x,I qm],ptr q.blk,I ↑ah,ptr w.heap.size,ptr (w.heap.size+1),undef,undef,.slice none 0 0,ptr wA.heap.size,ptr w'.heap.size,I y.1,undef,ptr t,ptr t,ptr t,.map (some s.lb),ptr (w.heap.size+1),I x,ptr p.blk,ptr p.blk,.bool false,ptr q.blk,.agg #[I x,I qm],I ↑ah,.func (.func 107) #[] #[ptr (w'.heap.size+1),ptr (w'.heap.size+1+1),ptr (w'.heap.size+1+2)],I y.1,undef,undef,undef,undef,undef,undef,undef,undef,undef,undef,undef,undef,undef,undef,undef,undef,undef,undef,undef,undef,undef,undef,undef,undef,undef,undef,undef,undef],defers:=[]}) ?assign ?body ?done ?stop
  case assign=>
   intro l y W K hK
   simp only[List.zip_toArray,List.zip_cons_cons,List.zip_nil_right,List.size_toArray,List.length_cons,List.length_nil,List.foldl_toArray',List.foldl_cons,List.foldl_nil,List.setIfInBounds_toArray,List.set_cons_succ,List.set_cons_zero]
   gi_wp2
   exact hK
  case body=>
   rintro l pre ⟨y,hy⟩ W ⟨hI,-⟩ hlen
   have hpl:(pre++[(⟨y,hy⟩:{z:Int // inW q.hf q.qs x qm ah z})]).length≤L.length+q.qs.length:=by
    rw[List.length_append]
    exact hlen
   have HPL:=hide hpl
   clear hpl
   have hll:=wbL_len x p.stamp s (pre.map Subtype.val)
   rw[List.length_map] at hll
   obtain⟨hyx,hyR,b,hb,hbw⟩:=HWAY.out y hy
   obtain⟨hk1,hk2,hk3,hk4⟩:=wbL_keeps x p.stamp s (pre.map Subtype.val)
   obtain⟨b',hb',hlk⟩:=(wbL_lv x p.stamp s (pre.map Subtype.val) y).1 b hb
   obtain⟨p',hp',hlp⟩:=(wbL_lv x p.stamp s (pre.map Subtype.val) x).1 p HP.out
   have hsn:wbL x p.stamp s ((pre++[(⟨y,hy⟩:{z:Int // inW q.hf q.qs x qm ah z})]).map Subtype.val)=wbs x p.stamp (wbL x p.stamp s (pre.map Subtype.val)) y:=by
    rw[List.map_append]
    exact wbL_snoc x p.stamp s (pre.map Subtype.val) y
   generalize wbL x p.stamp s (pre.map Subtype.val)=so at hI hk1 hk2 hk3 hk4 hb' hp' hsn hll
   have HLL:Hid (so.2.length<4100000000000):=by
    show so.2.length<4100000000000
    omega
   clear hlen hll
   have cB4:=hI.k4.cell
   have cT:=hI.tt.tb.cell
   rw[hk3,hk4] at cT
   have hlook:=hI.tt.lm.look kyI underlying78 (zeroValue55 W) (kyI_ok.2 hyR)
   rw[hb',hk3] at hlook
   simp only[Option.map_some,Option.getD_some] at hlook
   have HDR:Hid (Wb w W0 W.drew t w.heap.size (w.heap.size+1) wA.heap.size w'.heap.size x qm p s so):=hI.kept (row:=none) ⟨rfl,rfl,rfl,Nat.le_refl _,fun _ _ _=>rfl⟩ (fun _ e=>by cases e)
   have HS:=hide (HDR.out.reads hb' rfl rfl hp' hlp.blk hlp.st)
   have HI:=hide hI
   have HSN:=hide hsn
   have HB:=hide hb'
   have HLK:=hide hlk
   have HK:=hide hk1
   have HBW:=hide hbw
   have HPP:Hid (so.1.lv x=some p'∧p'.blk=p.blk∧p'.stamp=p.stamp):=⟨hp',hlp.blk,hlp.st⟩
   clear hI hsn hb' hp' hlp hlk hk1 hk2 hk3 hk4 hb hbw hWb hway
   by_cases hst:p.stamp<b'.stamp
   ·have KWo:=hide (wound_any t so.1 y x b' W.drew (HI.out.tt.G (G.refl W).drew) HB.out (fun z hz=>by
     rcases HLK.out.wd z hz with hz|e
     ·exact(HBW.out z hz).1
     ·rw[e];exact HX.out) HX.out LW (fun z hz=>by
     rcases HLK.out.wd z hz with hz|e
     ·exact(HBW.out z hz).2
     ·rw[e];exact hxw) hlw)
    have hws:wbs x p.stamp so y=(so.1.setPt y (b'.hit x),if b'.hurt then so.2 else so.2++[y]):=by
     unfold wbs
     rw[HB.out]
     simp only[if_pos hst]
    have HWS:=hide hws
    clear hws
    cases hh:b'.hurt with
    | true=>
     rw[hh,Bool.not_true] at KWo
     rw[hh] at HWS
     gi_wp2
     refine wpIn_round_held (S:=(fun V=>V.cell? ⟨b'.blk,0,none⟩=some (I b'.stamp)∧V.cell? ⟨p.blk,0,none⟩=some (I p.stamp)∧V.cell? ⟨wA.heap.size,0,none⟩=some (ptr p.blk)∧V.cell? ⟨w.heap.size+1,0,none⟩=some (I x))) (by assumption) (by kernel_rfl) (HS.out) (fun hHeld=>?_)
     refine wpAnyH_take (i:=0) (v:=?_) rfl (by kernel_rfl) (by kernel_rfl) (by kernel_rfl) (fun _ _ _ h=>h) (Or.inl ⟨by rfl,?_⟩) hHeld ?_
     rotate_left 1
     ·(intro w hSw;obtain⟨q1,q2,q3,q4⟩:=hSw;go_simp;try with_reducible rfl)
     try simp only[Act.put,zzA,zzB,zzD,zzE,zzF]
     refine wpAnyH_take (i:=1) (v:=?_) rfl (by kernel_rfl) (by kernel_rfl) (by kernel_rfl) (fun _ _ _ h=>h) (Or.inl ⟨by rfl,?_⟩) hHeld ?_
     rotate_left 1
     ·(intro w hSw;obtain⟨q1,q2,q3,q4⟩:=hSw;go_simp;try with_reducible rfl)
     try simp only[Act.put,zzA,zzB,zzC,zzD,zzE,zzF]
     refine wpAnyH_take (i:=2) (v:=?_) rfl (by kernel_rfl) (by kernel_rfl) (by kernel_rfl) (fun _ _ _ h=>h) (Or.inl ⟨by rfl,?_⟩) hHeld ?_
     rotate_left 1
     ·(intro w hSw;obtain⟨q1,q2,q3,q4⟩:=hSw;go_simp;try with_reducible rfl)
     try simp only[Act.put,zzA,zzB,zzC,zzD,zzE,zzF]
     refine wpAnyH_take (i:=3) (v:=?_) rfl (by kernel_rfl) (by kernel_rfl) (by kernel_rfl) (fun _ _ _ h=>h) (Or.inl ⟨by rfl,?_⟩) hHeld ?_
     rotate_left 1
     ·(intro w hSw;obtain⟨q1,q2,q3,q4⟩:=hSw;go_simp;try with_reducible rfl)
     try simp only[Act.put,zzA,zzB,zzC,zzD,zzE,zzF]
     refine wpAnyH_take (i:=4) (v:=?_) rfl (by kernel_rfl) (by kernel_rfl) (by kernel_rfl) (fun _ _ _ h=>h) (Or.inl ⟨by rfl,?_⟩) hHeld ?_
     rotate_left 1
     ·(intro w hSw;obtain⟨q1,q2,q3,q4⟩:=hSw;go_simp;try with_reducible rfl)
     try simp only[Act.put,zzA,zzB,zzC,zzD,zzE,zzF]
     refine wpAnyH_take (i:=5) (v:=?_) rfl (by kernel_rfl) (by kernel_rfl) (by kernel_rfl) (fun _ _ _ h=>h) (Or.inl ⟨by rfl,?_⟩) hHeld ?_
     rotate_left 1
     ·(intro w hSw;obtain⟨q1,q2,q3,q4⟩:=hSw;go_simp;try with_reducible rfl)
     try simp only[Act.put,zzA,zzB,zzC,zzD,zzE,zzF]
     refine wpAnyH_take (i:=6) (v:=?_) rfl (by kernel_rfl) (by kernel_rfl) (by kernel_rfl) (fun _ _ _ h=>h) (Or.inl ⟨by rfl,?_⟩) hHeld ?_
     rotate_left 1
     ·(intro w hSw;obtain⟨q1,q2,q3,q4⟩:=hSw;go_simp;try with_reducible rfl)
     try simp only[Act.put,zzA,zzB,zzC,zzD,zzE,zzF]
     refine wpAnyH_take (i:=7) (v:=?_) rfl (by kernel_rfl) (by kernel_rfl) (by kernel_rfl) (fun _ _ _ h=>h) (Or.inl ⟨by rfl,?_⟩) hHeld ?_
     rotate_left 1
     ·(intro w hSw;obtain⟨q1,q2,q3,q4⟩:=hSw;go_simp;try with_reducible rfl)
     try simp only[Act.put,zzA,zzB,zzC,zzD,zzE,zzF]
     refine wpAnyH_take (i:=8) (v:=?_) rfl (by kernel_rfl) (by kernel_rfl) (by kernel_rfl) (fun _ _ _ h=>h) (Or.inl ⟨by rfl,?_⟩) hHeld ?_
     rotate_left 1
     ·(intro w hSw;obtain⟨q1,q2,q3,q4⟩:=hSw;go_simp;try with_reducible rfl)
     try simp only[Act.put,zzA,zzB,zzC,zzD,zzE,zzF]
     refine wpAnyH_take (i:=9) (v:=?_) rfl (by kernel_rfl) (by kernel_rfl) (by kernel_rfl) (fun _ _ _ h=>h) (Or.inl ⟨by rfl,?_⟩) hHeld ?_
     rotate_left 1
     ·(intro w hSw;obtain⟨q1,q2,q3,q4⟩:=hSw;go_simp;try with_reducible rfl)
     try simp only[Act.put,zzA,zzB,zzC,zzD,zzE,zzF]
     refine wpAnyH_take (i:=10) (v:=?_) rfl (by kernel_rfl) (by kernel_rfl) (by kernel_rfl) (fun _ _ _ h=>h) (Or.inl ⟨by rfl,?_⟩) hHeld ?_
     rotate_left 1
     ·(intro w hSw;obtain⟨q1,q2,q3,q4⟩:=hSw;go_simp;try with_reducible rfl)
     try simp only[Act.put,zzA,zzB,zzC,zzD,zzE,zzF]
     refine wpAnyH_take (i:=11) (v:=?_) rfl (by kernel_rfl) (by kernel_rfl) (by kernel_rfl) (fun _ _ _ h=>h) (Or.inl ⟨by rfl,?_⟩) hHeld ?_
     rotate_left 1
     ·(intro w hSw;obtain⟨q1,q2,q3,q4⟩:=hSw;go_simp;try with_reducible rfl)
     try simp only[Act.put,zzA,zzB,zzC,zzD,zzE,zzF]
     refine wpAnyH_take (i:=12) (v:=?_) rfl (by kernel_rfl) (by kernel_rfl) (by kernel_rfl) (fun _ _ _ h=>h) (Or.inl ⟨by rfl,?_⟩) hHeld ?_
     rotate_left 1
     ·(intro w hSw;obtain⟨q1,q2,q3,q4⟩:=hSw;go_simp;try with_reducible rfl)
     try simp only[Act.put,zzA,zzB,zzC,zzD,zzE,zzF]
     refine wpAnyH_ready (rs:=[13]) (by kernel_rfl) (by simp) (AllReadyH.cons rfl (fun K hK=>?_) AllReadyH.nil)
     clear hHeld
     go_simp
     with_reducible refine(KWo.out).mono ?_
     rintro e w8 ⟨rfl,hT8,hE8,hC8,hs8⟩
     have hz1:=HSA.out
     have hz2:=HG7.out.size
     have HH8:=hide (HI.out.hit (b1:=w'.heap.size+1) (b2:=w'.heap.size+1+1) (b3:=w'.heap.size+1+2) HT.out HK.out hgl HQ.out ⟨Nat.le_refl _,by omega,by omega,by omega,by omega,by omega,by omega⟩ HB.out hT8 hE8 hC8 hs8)
     clear hT8 hE8 hC8 hs8 hz1 hz2
     go_wp2_with fail
     refine hK.out _ _ (HH8.out.1.reads (y:=y) (b:=b'.hit x) (p':=p') (by simp[Gs.setPt]) rfl rfl (by simp only[Gs.setPt,upd,if_neg (Ne.symm hyx)];exact HPP.out.1) HPP.out.2.1 HPP.out.2.2) (fun hHeld=>?_)
     clear hK K
     try simp only[Act.put,zzA,zzB,zzC,zzD,zzE,zzF]
     refine wpAnyH_take (i:=14) (v:=?_) rfl (by kernel_rfl) (by kernel_rfl) (by kernel_rfl) (fun _ _ _ h=>h) (Or.inl ⟨by rfl,?_⟩) hHeld ?_
     rotate_left 1
     ·(intro w hSw;obtain⟨q1,q2,q3,q4⟩:=hSw;go_simp;try with_reducible rfl)
     try simp only[Act.put,zzA,zzB,zzC,zzD,zzE,zzF]
     refine wpAnyH_done (by kernel_rfl) ?_ _
     refine Tame.normal ?_
     gi_wp2
     refine⟨HH8.out.2.1,HH8.out.2.2,?_,HPL.out⟩
     show Wb _ _ _ _ _ _ _ _ _ _ _ _ (wbL x p.stamp s ((pre++[(⟨y,hy⟩:{z:Int // inW q.hf q.qs x qm ah z})]).map Subtype.val))
     rw[HSN.out,HWS.out]
     exact HH8.out.1
    | false=>
     rw[hh,Bool.not_false] at KWo
     rw[hh] at HWS
     gi_wp2
     refine wpIn_round_held (S:=(fun V=>V.cell? ⟨b'.blk,0,none⟩=some (I b'.stamp)∧V.cell? ⟨p.blk,0,none⟩=some (I p.stamp)∧V.cell? ⟨wA.heap.size,0,none⟩=some (ptr p.blk)∧V.cell? ⟨w.heap.size+1,0,none⟩=some (I x))) (by assumption) (by kernel_rfl) (HS.out) (fun hHeld=>?_)
     refine wpAnyH_take (i:=0) (v:=?_) rfl (by kernel_rfl) (by kernel_rfl) (by kernel_rfl) (fun _ _ _ h=>h) (Or.inl ⟨by rfl,?_⟩) hHeld ?_
     rotate_left 1
     ·(intro w hSw;obtain⟨q1,q2,q3,q4⟩:=hSw;go_simp;try with_reducible rfl)
     try simp only[Act.put,zzA,zzB,zzD,zzE,zzF]
     refine wpAnyH_take (i:=1) (v:=?_) rfl (by kernel_rfl) (by kernel_rfl) (by kernel_rfl) (fun _ _ _ h=>h) (Or.inl ⟨by rfl,?_⟩) hHeld ?_
     rotate_left 1
     ·(intro w hSw;obtain⟨q1,q2,q3,q4⟩:=hSw;go_simp;try with_reducible rfl)
     try simp only[Act.put,zzA,zzB,zzC,zzD,zzE,zzF]
     refine wpAnyH_take (i:=2) (v:=?_) rfl (by kernel_rfl) (by kernel_rfl) (by kernel_rfl) (fun _ _ _ h=>h) (Or.inl ⟨by rfl,?_⟩) hHeld ?_
     rotate_left 1
     ·(intro w hSw;obtain⟨q1,q2,q3,q4⟩:=hSw;go_simp;try with_reducible rfl)
     try simp only[Act.put,zzA,zzB,zzC,zzD,zzE,zzF]
     refine wpAnyH_take (i:=3) (v:=?_) rfl (by kernel_rfl) (by kernel_rfl) (by kernel_rfl) (fun _ _ _ h=>h) (Or.inl ⟨by rfl,?_⟩) hHeld ?_
     rotate_left 1
     ·(intro w hSw;obtain⟨q1,q2,q3,q4⟩:=hSw;go_simp;try with_reducible rfl)
     try simp only[Act.put,zzA,zzB,zzC,zzD,zzE,zzF]
     refine wpAnyH_take (i:=4) (v:=?_) rfl (by kernel_rfl) (by kernel_rfl) (by kernel_rfl) (fun _ _ _ h=>h) (Or.inl ⟨by rfl,?_⟩) hHeld ?_
     rotate_left 1
     ·(intro w hSw;obtain⟨q1,q2,q3,q4⟩:=hSw;go_simp;try with_reducible rfl)
     try simp only[Act.put,zzA,zzB,zzC,zzD,zzE,zzF]
     refine wpAnyH_take (i:=5) (v:=?_) rfl (by kernel_rfl) (by kernel_rfl) (by kernel_rfl) (fun _ _ _ h=>h) (Or.inl ⟨by rfl,?_⟩) hHeld ?_
     rotate_left 1
     ·(intro w hSw;obtain⟨q1,q2,q3,q4⟩:=hSw;go_simp;try with_reducible rfl)
     try simp only[Act.put,zzA,zzB,zzC,zzD,zzE,zzF]
     refine wpAnyH_take (i:=6) (v:=?_) rfl (by kernel_rfl) (by kernel_rfl) (by kernel_rfl) (fun _ _ _ h=>h) (Or.inl ⟨by rfl,?_⟩) hHeld ?_
     rotate_left 1
     ·(intro w hSw;obtain⟨q1,q2,q3,q4⟩:=hSw;go_simp;try with_reducible rfl)
     try simp only[Act.put,zzA,zzB,zzC,zzD,zzE,zzF]
     refine wpAnyH_take (i:=7) (v:=?_) rfl (by kernel_rfl) (by kernel_rfl) (by kernel_rfl) (fun _ _ _ h=>h) (Or.inl ⟨by rfl,?_⟩) hHeld ?_
     rotate_left 1
     ·(intro w hSw;obtain⟨q1,q2,q3,q4⟩:=hSw;go_simp;try with_reducible rfl)
     try simp only[Act.put,zzA,zzB,zzC,zzD,zzE,zzF]
     refine wpAnyH_take (i:=8) (v:=?_) rfl (by kernel_rfl) (by kernel_rfl) (by kernel_rfl) (fun _ _ _ h=>h) (Or.inl ⟨by rfl,?_⟩) hHeld ?_
     rotate_left 1
     ·(intro w hSw;obtain⟨q1,q2,q3,q4⟩:=hSw;go_simp;try with_reducible rfl)
     try simp only[Act.put,zzA,zzB,zzC,zzD,zzE,zzF]
     refine wpAnyH_take (i:=9) (v:=?_) rfl (by kernel_rfl) (by kernel_rfl) (by kernel_rfl) (fun _ _ _ h=>h) (Or.inl ⟨by rfl,?_⟩) hHeld ?_
     rotate_left 1
     ·(intro w hSw;obtain⟨q1,q2,q3,q4⟩:=hSw;go_simp;try with_reducible rfl)
     try simp only[Act.put,zzA,zzB,zzC,zzD,zzE,zzF]
     refine wpAnyH_take (i:=10) (v:=?_) rfl (by kernel_rfl) (by kernel_rfl) (by kernel_rfl) (fun _ _ _ h=>h) (Or.inl ⟨by rfl,?_⟩) hHeld ?_
     rotate_left 1
     ·(intro w hSw;obtain⟨q1,q2,q3,q4⟩:=hSw;go_simp;try with_reducible rfl)
     try simp only[Act.put,zzA,zzB,zzC,zzD,zzE,zzF]
     refine wpAnyH_take (i:=11) (v:=?_) rfl (by kernel_rfl) (by kernel_rfl) (by kernel_rfl) (fun _ _ _ h=>h) (Or.inl ⟨by rfl,?_⟩) hHeld ?_
     rotate_left 1
     ·(intro w hSw;obtain⟨q1,q2,q3,q4⟩:=hSw;go_simp;try with_reducible rfl)
     try simp only[Act.put,zzA,zzB,zzC,zzD,zzE,zzF]
     refine wpAnyH_take (i:=12) (v:=?_) rfl (by kernel_rfl) (by kernel_rfl) (by kernel_rfl) (fun _ _ _ h=>h) (Or.inl ⟨by rfl,?_⟩) hHeld ?_
     rotate_left 1
     ·(intro w hSw;obtain⟨q1,q2,q3,q4⟩:=hSw;go_simp;try with_reducible rfl)
     try simp only[Act.put,zzA,zzB,zzC,zzD,zzE,zzF]
     refine wpAnyH_ready (rs:=[13]) (by kernel_rfl) (by simp) (AllReadyH.cons rfl (fun K hK=>?_) AllReadyH.nil)
     clear hHeld
     go_simp
     with_reducible refine(KWo.out).mono ?_
     rintro e w8 ⟨rfl,hT8,hE8,hC8,hs8⟩
     have hz1:=HSA.out
     have hz2:=HG7.out.size
     have HH8:=hide (HI.out.hit (b1:=w'.heap.size+1) (b2:=w'.heap.size+1+1) (b3:=w'.heap.size+1+2) HT.out HK.out hgl HQ.out ⟨Nat.le_refl _,by omega,by omega,by omega,by omega,by omega,by omega⟩ HB.out hT8 hE8 hC8 hs8)
     clear hT8 hE8 hC8 hs8 hz1 hz2
     go_wp2_with fail
     refine hK.out _ _ (HH8.out.1.reads (y:=y) (b:=b'.hit x) (p':=p') (by simp[Gs.setPt]) rfl rfl (by simp only[Gs.setPt,upd,if_neg (Ne.symm hyx)];exact HPP.out.1) HPP.out.2.1 HPP.out.2.2) (fun hHeld=>?_)
     clear hK K
     try simp only[Act.put,zzA,zzB,zzC,zzD,zzE,zzF]
     refine wpAnyH_take (i:=14) (v:=?_) rfl (by kernel_rfl) (by kernel_rfl) (by kernel_rfl) (fun _ _ _ h=>h) (Or.inl ⟨by rfl,?_⟩) hHeld ?_
     rotate_left 1
     ·(intro w hSw;obtain⟨q1,q2,q3,q4⟩:=hSw;go_simp;try with_reducible rfl)
     try simp only[Act.put,zzA,zzB,zzC,zzD,zzE,zzF]
     refine wpAnyH_done (by kernel_rfl) ?_ _
     refine Tame.normal ?_
     obtain⟨uv,hu1,hu2⟩:=HH8.out.1.k10
     have hz1:=HSA.out
     have hz2:=HG7.out.size
     obtain⟨g',cap',w9,v',rfl,r1,r2,r3,r4,r5⟩:=HH8.out.1.told (b1:=w'.heap.size+1) (b2:=w'.heap.size+1+1) (b3:=w'.heap.size+1+2) HT.out HK.out ⟨HTB.out.lf,HTB.out.lj⟩ HQ.out ⟨by omega,by omega⟩ ⟨by omega,by omega,by omega,by omega,by omega,by omega⟩ y HLL.out uv hu1 hu2
     have cu:=hu1.cell
     have c9:=r2.cell
     have f9:=r2.frozen
     have R1:=hide r1
     have R3:=hide r3
     have R4:=hide r4
     have R5:=hide r5
     clear r1 r2 r3 r4 r5 hu1 hu2 hz1 hz2
     gi_wp2_with (first|(gi_at_builtin;refine wpListIn_append_run rfl _ _ 42 rfl _ _ rfl rfl R1.out ?_)|fail)
     refine⟨by rw[←hsz];exact HH8.out.2.1.trans R4.out,HH8.out.2.2.trans R5.out,?_,HPL.out⟩
     show Wb _ _ _ _ _ _ _ _ _ _ _ _ (wbL x p.stamp s ((pre++[(⟨y,hy⟩:{z:Int // inW q.hf q.qs x qm ah z})]).map Subtype.val))
     rw[HSN.out,HWS.out]
     exact R3.out
   ·have hws:wbs x p.stamp so y=so:=by
     unfold wbs
     rw[HB.out]
     simp only[if_neg hst]
    have HWS:=hide hws
    clear hws
    have HNL:Hid (b'.stamp≤p.stamp):=Int.not_lt.1 hst
    clear hst
    gi_wp2
    refine wpIn_round_held (S:=(fun V=>V.cell? ⟨b'.blk,0,none⟩=some (I b'.stamp)∧V.cell? ⟨p.blk,0,none⟩=some (I p.stamp)∧V.cell? ⟨wA.heap.size,0,none⟩=some (ptr p.blk)∧V.cell? ⟨w.heap.size+1,0,none⟩=some (I x))) (by assumption) (by kernel_rfl) (HS.out) (fun hHeld=>?_)
    refine wpAnyH_take (i:=0) (v:=?_) rfl (by kernel_rfl) (by kernel_rfl) (by kernel_rfl) (fun _ _ _ h=>h) (Or.inl ⟨by rfl,?_⟩) hHeld ?_
    rotate_left 1
    ·(intro w hSw;obtain⟨q1,q2,q3,q4⟩:=hSw;go_simp;try with_reducible rfl)
    try simp only[Act.put,zzA,zzB,zzD,zzE,zzF]
    refine wpAnyH_take (i:=1) (v:=?_) rfl (by kernel_rfl) (by kernel_rfl) (by kernel_rfl) (fun _ _ _ h=>h) (Or.inl ⟨by rfl,?_⟩) hHeld ?_
    rotate_left 1
    ·(intro w hSw;obtain⟨q1,q2,q3,q4⟩:=hSw;go_simp;try with_reducible rfl)
    try simp only[Act.put,zzA,zzB,zzC,zzD,zzE,zzF]
    refine wpAnyH_take (i:=2) (v:=?_) rfl (by kernel_rfl) (by kernel_rfl) (by kernel_rfl) (fun _ _ _ h=>h) (Or.inl ⟨by rfl,?_⟩) hHeld ?_
    rotate_left 1
    ·(intro w hSw;obtain⟨q1,q2,q3,q4⟩:=hSw;go_simp;try with_reducible rfl)
    try simp only[Act.put,zzA,zzB,zzC,zzD,zzE,zzF]
    refine wpAnyH_take (i:=3) (v:=?_) rfl (by kernel_rfl) (by kernel_rfl) (by kernel_rfl) (fun _ _ _ h=>h) (Or.inl ⟨by rfl,?_⟩) hHeld ?_
    rotate_left 1
    ·(intro w hSw;obtain⟨q1,q2,q3,q4⟩:=hSw;go_simp;try with_reducible rfl)
    try simp only[Act.put,zzA,zzB,zzC,zzD,zzE,zzF]
    refine wpAnyH_take (i:=4) (v:=?_) rfl (by kernel_rfl) (by kernel_rfl) (by kernel_rfl) (fun _ _ _ h=>h) (Or.inl ⟨by rfl,?_⟩) hHeld ?_
    rotate_left 1
    ·(intro w hSw;obtain⟨q1,q2,q3,q4⟩:=hSw;go_simp;try with_reducible rfl)
    try simp only[Act.put,zzA,zzB,zzC,zzD,zzE,zzF]
    refine wpAnyH_take (i:=5) (v:=?_) rfl (by kernel_rfl) (by kernel_rfl) (by kernel_rfl) (fun _ _ _ h=>h) (Or.inl ⟨by rfl,?_⟩) hHeld ?_
    rotate_left 1
    ·(intro w hSw;obtain⟨q1,q2,q3,q4⟩:=hSw;go_simp;try with_reducible rfl)
    try simp only[Act.put,zzA,zzB,zzC,zzD,zzE,zzF]
    refine wpAnyH_take (i:=6) (v:=?_) rfl (by kernel_rfl) (by kernel_rfl) (by kernel_rfl) (fun _ _ _ h=>h) (Or.inl ⟨by rfl,?_⟩) hHeld ?_
    rotate_left 1
    ·(intro w hSw;obtain⟨q1,q2,q3,q4⟩:=hSw;go_simp;try with_reducible rfl)
    try simp only[Act.put,zzA,zzB,zzC,zzD,zzE,zzF]
    refine wpAnyH_take (i:=7) (v:=?_) rfl (by kernel_rfl) (by kernel_rfl) (by kernel_rfl) (fun _ _ _ h=>h) (Or.inl ⟨by rfl,?_⟩) hHeld ?_
    rotate_left 1
    ·(intro w hSw;obtain⟨q1,q2,q3,q4⟩:=hSw;go_simp;try with_reducible rfl)
    try simp only[Act.put,zzA,zzB,zzC,zzD,zzE,zzF]
    refine wpAnyH_take (i:=8) (v:=(.bool false)) rfl (by kernel_rfl) (by kernel_rfl) (by kernel_rfl) (fun _ _ _ h=>h) (Or.inl ⟨by rfl,?_⟩) hHeld ?_
    ·(intro w hSw;obtain⟨q1,q2,q3,q4⟩:=hSw;go_simp;exact HNL.out)
    try simp only[Act.put,zzA,zzB,zzC,zzD,zzE,zzF]
    refine wpAnyH_take (i:=9) (v:=?_) rfl (by kernel_rfl) (by kernel_rfl) (by kernel_rfl) (fun _ _ _ h=>h) (Or.inl ⟨by rfl,?_⟩) hHeld ?_
    rotate_left 1
    ·(intro w hSw;obtain⟨q1,q2,q3,q4⟩:=hSw;go_simp;try with_reducible rfl)
    try simp only[Act.put,zzA,zzB,zzC,zzD,zzE,zzF]
    refine wpAnyH_take (i:=10) (v:=undef) rfl (by kernel_rfl) (by kernel_rfl) (by kernel_rfl) (fun _ _ _ h=>h) (Or.inr ⟨by rfl,rfl⟩) hHeld ?_
    try simp only[Act.put,zzA,zzB,zzC,zzD,zzE,zzF]
    refine wpAnyH_take (i:=11) (v:=undef) rfl (by kernel_rfl) (by kernel_rfl) (by kernel_rfl) (fun _ _ _ h=>h) (Or.inr ⟨by rfl,rfl⟩) hHeld ?_
    try simp only[Act.put,zzA,zzB,zzC,zzD,zzE,zzF]
    refine wpAnyH_take (i:=12) (v:=undef) rfl (by kernel_rfl) (by kernel_rfl) (by kernel_rfl) (fun _ _ _ h=>h) (Or.inr ⟨by rfl,rfl⟩) hHeld ?_
    try simp only[Act.put,zzA,zzB,zzC,zzD,zzE,zzF]
    refine wpAnyH_take (i:=13) (v:=undef) rfl (by kernel_rfl) (by kernel_rfl) (by kernel_rfl) (fun _ _ _ h=>h) (Or.inr ⟨by rfl,rfl⟩) hHeld ?_
    try simp only[Act.put,zzA,zzB,zzC,zzD,zzE,zzF]
    refine wpAnyH_take (i:=14) (v:=?_) rfl (by kernel_rfl) (by kernel_rfl) (by kernel_rfl) (fun _ _ _ h=>h) (Or.inl ⟨by rfl,?_⟩) hHeld ?_
    rotate_left 1
    ·(intro w hSw;obtain⟨q1,q2,q3,q4⟩:=hSw;go_simp;try with_reducible rfl)
    try simp only[Act.put,zzA,zzB,zzC,zzD,zzE,zzF]
    refine wpAnyH_done (by kernel_rfl) ?_ _
    refine Tame.normal ?_
    gi_wp2
    refine⟨(KeepsOthers.drew _).from _,⟨Nat.le_refl _,fun _ _=>rfl⟩,?_,HPL.out⟩
    show Wb _ _ _ _ _ _ _ _ _ _ _ _ (wbL x p.stamp s ((pre++[(⟨y,hy⟩:{z:Int // inW q.hf q.qs x qm ah z})]).map Subtype.val))
    rw[HSN.out,HWS.out]
    exact HDR.out
  case done=>
   rintro D ys W hD hS ⟨hI,hyl⟩ hK
   have hyl2:=wbL_len x p.stamp s (ys.map Subtype.val)
   rw[List.length_map] at hyl2
   have hxs:∀z,z∈ys.map Subtype.val↔inW q.hf q.qs x qm ah z:=fun z=>⟨fun hz=>by
    obtain⟨u,-,e⟩:=List.mem_map.1 hz
    rw[←e]
    exact u.2,fun hz=>List.mem_map.2 ⟨⟨z,hz⟩,hS _,rfl⟩⟩
   obtain⟨so,hso⟩:∃so,so=wbL x p.stamp s (ys.map Subtype.val):=⟨_,rfl⟩
   have HP0:Hid (∀(w':World) (v:Value),w'.ownsRow w.heap.size 3 1 v so.2.length ((srt so.2).map fun z=>I z)→TT w' t so.1→Ext w w' s so.1→Tb w'→∃(xs:List Int) (v':Value),(∀y,y∈xs↔inW q.hf q.qs x qm ah y)∧xs.length≤L.length+q.qs.length∧Ending.returned v=.returned v'∧w'.ownsRow w.heap.size 3 1 v' (wbL x p.stamp s xs).2.length ((srt (wbL x p.stamp s xs).2).map fun z=>I z)∧TT w' t (wbL x p.stamp s xs).1∧Ext w w' s (wbL x p.stamp s xs).1∧Tb w'):=fun w' v h1 h2 h3 h4=>⟨ys.map Subtype.val,v,hxs,by rw[List.length_map];exact hyl,rfl,by rw[←hso];exact h1,by rw[←hso];exact h2,by rw[←hso];exact h3,h4⟩
   have HI:Hid (Wb w W0 W t w.heap.size (w.heap.size+1) wA.heap.size w'.heap.size x qm p s so):=by rw[hso];exact hI
   rw[←hso] at hyl2
   have hll:so.2.length<4611686018427387904:=by omega
   have HLL:=hide hll
   clear hll hyl hyl2
   have HKD:=hide hK
   have HD:=hide hD
   have HSZ:=hide hsz
   clear hxs hS hI hso hK hD hsz hWb hway
   obtain⟨uv,hu1,hu2⟩:=HI.out.k10
   have KS:=hide (sort_row W W0.heap.size uv so.2 hu2 HLL.out)
   have cu:=hu1.cell
   have HU1:=hide hu1
   have HU2:=hide hu2
   clear hu1 hu2
   gi_wp2_with (first|(gi_at_call 93;refine(callsIn_wide.2 KS.out).mono ?_;rintro e w8 ⟨rfl,hR8,hC8⟩;have HB8:=hide (HU1.out.chg hC8 (fun e=>by have h1:=World.ownsRow.lt hR8 _ e;have h2:=HSZ.out;omega));have cu8:=HB8.out.cell;have HR8:=hide hR8;have HC8:=hide hC8;clear hR8 hC8)|fail)
   have hK8:w8.heap[D]?=some (.deferred (some [])):=(HC8.out.block D (Array.getElem?_eq_some_iff.1 HKD.out).1 (fun e=>by
    rcases HU2.out.2 with ⟨e2,-⟩|⟨g,cap,cur,e2,-,hgc,-⟩
    ·rw[e2] at e;simp[Value.ownBlock] at e
    ·rw[e2] at e
     have e3:g=D:=by simpa [Value.ownBlock] using e
     rw[e3,HKD.out] at hgc
     cases hgc)).trans HKD.out
   refine⟨by simp,.inl ⟨_,_,rfl,run_takeDeferred hK8,?_⟩⟩
   obtain⟨f1,f2,f3,f4⟩:=HI.out.fin (.deferred none) HR8.out HC8.out HD.out hK8
   refine⟨uv,?_,.inr ⟨HH.out,HP0.out _ _ f4 f1 f2 f3⟩⟩
   simp[results,Tryz.f60,go_sem]
  case stop=>
   rintro D c pre W hD hpre hf
   exact hf.elim
end
section
open Go.RowKit
theorem TT.setPlM{w w':World}{t:Nat}{s:Gs}{r:Rs}{q q':Pl}{own':Nat→Option Tg}(h:TT w t s)(hq:s.pl r=some q)(eb:q'.blk=q.blk)(ho:∀b tg,s.own b=some tg→own' b=some tg)(hn:∀b tg,own' b=some tg→s.own b=some tg∨(w.heap.size≤b∧b<w'.heap.size))(hc:Chg (fun k=>s.own k=some (.pl r)∨s.own k=some (.lh r)∨s.own k=some (.qu r)) w w')(hok:PlOk w' own' r q') :
  TT w' t {s with pl:=upd s.pl r (some q'),own:=own'}∧Ext w w' s {s with pl:=upd s.pl r (some q'),own:=own'}:=by
 have hk:∀b tg,s.own b=some tg→tg≠.pl r→tg≠.lh r→tg≠.qu r→w'.heap[b]?=w.heap[b]?:=fun b tg o n1 n2 n3=>hc.block b (h.lt b tg o) (fun f=>by
  rcases f with f|f|f<;>rw[o] at f<;>cases f
  ·exact n1 rfl
  ·exact n2 rfl
  ·exact n3 rfl)
 refine⟨⟨h.tb.keep (hk _ _ h.o1 (by simp) (by simp) (by simp)),h.lm.keep (hk _ _ h.o2 (by simp) (by simp) (by simp)),(h.pm.keep (hk _ _ h.o3 (by simp) (by simp) (by simp))).congr (fun z=>?_),fun z p hz=>?_,fun z p hz=>?_,ho _ _ h.o1,ho _ _ h.o2,ho _ _ h.o3,fun b tg o=>?_⟩,⟨hc.mono (fun b e=>by rcases e with e|e|e<;>rw[e]<;>simp),ho,fun b tg o=>(hn b tg o).imp_right (·.1)⟩⟩
 ·by_cases e:z=r
  ·subst e;simp[upd_same,hq,eb]
  ·simp[upd_other e]
 ·exact((h.pt z p hz).keep (fun b o=>by rcases o with o|o|o<;>exact hk _ _ o (by simp) (by simp) (by simp))).more ho
 ·by_cases e:z=r
  ·subst e
   simp only[upd_same,Option.some.injEq] at hz
   subst hz
   exact hok
  ·replace hz:upd s.pl r _ z=some p:=hz
   rw[upd_other e] at hz
   exact((h.pl z p hz).keep (fun b o=>by rcases o with o|o|o<;>exact hk _ _ o (by simp[e]) (by simp[e]) (by simp[e]))).more ho
 ·rcases hn b tg o with o|o
  ·exact Nat.lt_of_lt_of_le (h.lt b tg o) hc.size
  ·exact o.2
theorem TT.queue{w w6:World}{t:Nat}{s:Gs}{r:Rs}{q:Pl}{v':Value}{qs':List (Int×Int)}(h:TT w t s)(hq:s.pl r=some q)(hQ:QSl w6 v' qs')(hC:Chg (fun k=>q.q.ownBlock=some k) w w6)(hob:v'.ownBlock=q.q.ownBlock∨v'.ownBlock=some w.heap.size) :
  ∃s',s'.lv=s.lv∧s'.pl=upd s.pl r (some {q with q:=v',qs:=qs'})∧TT (w6.setCell ⟨q.blk,1,none⟩ v') t s'∧Ext w (w6.setCell ⟨q.blk,1,none⟩ v') s s':=by
 have ho:=h.pl r q hq
 have hltb:=h.lt _ _ ho.t1
 have hc2:=chgk w6 q.blk 1 v'
 have hc:Chg (fun k=>s.own k=some (.pl r)∨s.own k=some (.lh r)∨s.own k=some (.qu r)) w (w6.setCell ⟨q.blk,1,none⟩ v'):=(hC.mono (fun k e=>.inr (.inr (ho.t3 k e)))).trans (hc2.mono (fun k e=>by rw[e];exact .inl ho.t1))
 have hqlt:∀b,v'.ownBlock=some b→b<w6.heap.size:=fun b hb=>by
  rcases hQ with ⟨e,-⟩|⟨g,cap,rest,e,hg,-⟩
  ·rw[e] at hb;simp[Value.ownBlock] at hb
  ·rw[e] at hb
   have e3:g=b:=by simpa [Value.ownBlock] using hb
   rw[←e3];exact hg.lt
 have hsz:(w6.setCell ⟨q.blk,1,none⟩ v').heap.size=w6.heap.size:=World.size_setCell _ _ _
 have hb6:Blk (w6.setCell ⟨q.blk,1,none⟩ v') q.blk 109 [.map (some q.hb),v']:=(ho.blk.chg hC (fun e=>(ho.ne.2 _ e).1 rfl)).set 1 v'
 have hm6:Mp (fun n:Int=>I n) 3 (w6.setCell ⟨q.blk,1,none⟩ v') q.hb (fun x=>nz (q.hf x)):=(ho.hm.chg hC (fun e=>(ho.ne.2 _ e).2 rfl)).chg hc2 (Ne.symm ho.ne.1)
 have hQ6:v'.ownBlock≠some q.blk→QSl (w6.setCell ⟨q.blk,1,none⟩ v') v' qs':=fun hn=>hQ.keep (fun b e=>hc2.block b (hqlt b e) (fun e2=>hn (by rw[e,e2])))
 rcases hob with e|e
 ·obtain⟨T,E⟩:=h.setPlM (q':={q with q:=v',qs:=qs'}) (own':=s.own) hq rfl (fun _ _ o=>o) (fun _ _ o=>.inl o) hc ⟨hb6,hm6,hQ6 (by rw[e];exact fun e=>(ho.ne.2 _ e).1 rfl),ho.t1,ho.t2,fun b hb=>ho.t3 b (by rw[←e];exact hb)⟩
  refine⟨_,?_,?_,T,E⟩<;>rfl
 ·have hnew:s.own w.heap.size=none:=by
   cases e2:s.own w.heap.size with
   | none=>rfl
   | some tg=>have:=h.lt _ _ e2;omega
  have hkeep:∀b tg,s.own b=some tg→upd s.own w.heap.size (some (Tg.qu r)) b=some tg:=fun b tg o=>by
   rw[upd_other (fun e2=>by rw[e2,hnew] at o;cases o)];exact o
  obtain⟨T,E⟩:=h.setPlM (q':={q with q:=v',qs:=qs'}) (own':=upd s.own w.heap.size (some (.qu r))) hq rfl hkeep (fun b tg o=>by
   by_cases e2:b=w.heap.size
   ·refine .inr ⟨by omega,?_⟩
    rw[hsz,e2]
    exact hqlt _ e
   ·rw[upd_other e2] at o;exact .inl o) hc ⟨hb6,hm6,hQ6 (by rw[e];intro e2;have:=Option.some.inj e2;omega),hkeep _ _ ho.t1,hkeep _ _ ho.t2,fun b hb=>by
    have e3:w.heap.size=b:=by
     have hb':v'.ownBlock=some b:=hb
     rw[e] at hb'
     exact Option.some.inj hb'
    rw[←e3,upd_same]⟩
  refine⟨_,?_,?_,T,E⟩<;>rfl
theorem Ext.free{w w':World}{s s':Gs}{b:Nat}(h:Ext w w' s s')(hb:b<w.heap.size)(hn:s.own b=none):s'.own b=none:=by
 cases e:s'.own b with
 | none=>rfl
 | some tg=>
  rcases h.new b tg e with e2|e2
  ·rw[hn] at e2;cases e2
  ·omega
def WbD(x:Int)(p:Pt)(s:Gs)(Iw:Int→Prop)(zs:List Int)(s4:Gs):Prop:=(p.hurt=true∧zs=[]∧s4=s)∨(p.hurt=false∧∃xs:List Int,(∀y,y∈xs↔Iw y)∧zs=srt (wbL x p.stamp s xs).2∧s4=(wbL x p.stamp s xs).1)
theorem wba_post{w w':World}{t:Nat}{s:Gs}{x:Int}{p:Pt}{Iw:Int→Prop}{N:Nat}{e:Ending}(hT:TT w t s)(hTb:Tb w)(h:(p.hurt=true∧e=.returned (.slice none 0 0)∧G w w')∨(p.hurt=false∧∃(xs:List Int) (v:Value),(∀y,y∈xs↔Iw y)∧xs.length≤N∧e=.returned v∧w'.ownsRow w.heap.size 3 1 v (wbL x p.stamp s xs).2.length ((srt (wbL x p.stamp s xs).2).map fun z=>I z)∧TT w' t (wbL x p.stamp s xs).1∧Ext w w' s (wbL x p.stamp s xs).1∧Tb w')) :
  ∃v zs s4,e=.returned v∧zs.length≤N∧w'.ownsRow w.heap.size 3 1 v zs.length (zs.map fun z=>I z)∧TT w' t s4∧Ext w w' s s4∧Tb w'∧WbD x p s Iw zs s4:=by
 rcases h with ⟨h1,h2,h3⟩|⟨h1,xs,v,h2,hN,h3,h4,h5,h6,h7⟩
 ·exact⟨_,[],s,h2,Nat.zero_le _,⟨rfl,.inl ⟨rfl,rfl⟩⟩,hT.G h3,G.ext s h3,hTb.G h3,.inl ⟨h1,rfl,rfl⟩⟩
 ·exact⟨v,_,_,h3,by rw[srt_len];exact Nat.le_trans (wbL_len x p.stamp s xs) hN,by rw[srt_len];exact h4,h5,h6,h7,.inr ⟨h1,xs,h2,rfl,rfl⟩⟩
theorem own_ext{w w':World}{s s':Gs}{b e k n:Nat}{v:Value}{xs:List Value}(h:w.ownsRow b e k v n xs)(hE:Ext w w' s s')(hn:∀g,v.ownBlock=some g→s.own g=none):w'.ownsRow b e k v n xs:=own_chg h hE.chg (fun g hg f=>f (hn g hg))
theorem app_rows(w:World)(lo lo2:Nat)(u v:Value)(zs:List Int)(hu:w.ownsRow lo 3 1 u ([]:List Int).length (([]:List Int).map fun z=>I z))(hv:w.ownsRow lo2 3 1 v zs.length (zs.map fun z=>I z))(hl:zs.length<4100000000000)(hlo:lo≤w.heap.size) :
  ∃v' w',(Builtin.append_ #[42,42] 42 #[u,v]).run prog w=.ok v' w'∧w'.ownsRow lo 3 1 v' zs.length (zs.map fun z=>I z)∧w.grownBy w' u.ownBlock:=by
 obtain⟨i0,hi,hz0,hz1,hz2⟩:=info_parts (show(prog.info? 3).map (fun i=>(i.zero,i.size,i.bytes))=some (some (.int .i64 0),1,8)from by kernel_rfl)
 have hmx:(4100000000000:Nat)≤maxLen:=of_decide_eq_true (by kernel_rfl)
 rcases hv.2 with ⟨rfl,h0⟩|⟨g,cap,cur,rfl,-⟩
 ·have hz:zs=[]:=List.eq_nil_of_length_eq_zero h0
  subst hz
  exact⟨u,w,run_append_owned_none w lo 42 42 3 i0 1 underlying42 hi u _ _ hu,hu,⟨rfl,rfl,rfl,Nat.le_refl _,fun _ _ _=>rfl⟩⟩
 ·obtain⟨v',w9,q1,q2,q3,-,-⟩:=run_append_own_at (P:=prog) (w:=w) lo 42 42 3 i0 _ 1 8 underlying42 hi hz0 hz1 hz2 rfl (by decide) u _ _ hu ⟨g,0,none⟩ zs.length cap (zs.map fun z=>I z) (by simp) (fun j u hj=>by
   have hjl:j<zs.length:=by
    have:=(List.getElem?_eq_some_iff.1 hj).1
    simpa using this
   have:=hv.cellAt j (by omega)
   rw[hj] at this
   by_cases hj0:j=0
   ·subst hj0;simpa [Addr.add] using this
   ·simpa [Addr.add,hj0] using this) (fun u hu=>by
   obtain⟨z,-,e⟩:=List.mem_map.1 hu
   rw[←e];rfl) (by simp;omega) (by simp;omega) hlo
  refine⟨v',w9,q1,?_,q3⟩
  have e1:([]:List Int).length+zs.length=zs.length:=by simp
  rw[e1] at q2
  exact q2
end
end Go.Proofs.YtadfaiciolfgjaaGreatDoor
