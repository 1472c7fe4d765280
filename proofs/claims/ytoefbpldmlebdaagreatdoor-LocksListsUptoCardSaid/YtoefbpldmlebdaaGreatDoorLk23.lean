import Derived.Test.YtoefbpldmlebdaaGreatDoorLk20
import Derived.Test.YtoefbpldmlebdaaGreatDoorLk18
namespace Go.Proofs.YtoefbpldmlebdaaGreatDoor
open Go.Proofs.Tryz
section
open Go.RowKit
theorem TT.setPlM{w w':World}{t:Nat}{s:Gs}{r:Rs}{q q':Pl}{own':Nat→Option Tg}(h:TT w t s)(hq:s.pl r=some q)(eb:q'.blk=q.blk)(ho:∀b tg,s.own b=some tg→own' b=some tg)(hn:∀b tg,own' b=some tg→s.own b=some tg∨(w.heap.size≤b∧b<w'.heap.size))(hc:Chg (fun k=>s.own k=some (.pl r)∨s.own k=some (.lh r)∨s.own k=some (.qu r)) w w')(hok:PlOk w' own' r q') :
  TT w' t {s with pl:=upd s.pl r (some q'),own:=own'}∧Ext w w' s {s with pl:=upd s.pl r (some q'),own:=own'}:=by
 have hk:∀b tg,s.own b=some tg→tg≠.pl r→tg≠.lh r→tg≠.qu r→w'.heap[b]?=w.heap[b]?:=fun b tg o n1 n2 n3=>hc.block b (h.lt b tg o) (fun f=>by
  rcases f with f|f|f<;>rw[o] at f<;>cases f
  ·exact n1 rfl
  ·exact n2 rfl
  ·exact n3 rfl)
 refine⟨⟨h.tb.keep (hk _ _ h.o1 (by simp) (by simp) (by simp)),h.lm.keep (hk _ _ h.o2 (by simp) (by simp) (by simp)),(h.pm.keep (hk _ _ h.o3 (by simp) (by simp) (by simp))).congr (fun z=>?_),fun z p hz=>?_,fun z p hz=>?_,ho _ _ h.o1,ho _ _ h.o2,ho _ _ h.o3,fun b tg o=>?_⟩,⟨hc.mono (fun b e=>by rcases e with e|e|e<;>rw[e]<;>simp),ho,fun b tg o=>(hn b tg o).imp_right (·.1)⟩⟩
 ·by_cases e:z=r
  ·subst e;simp[upd_same,hq,eb]
  ·simp[upd_other e]
 ·exact((h.pt z p hz).keep (fun b o=>by rcases o with o|o|o<;>exact hk _ _ o (by simp) (by simp) (by simp))).more ho
 ·by_cases e:z=r
  ·subst e
   simp only[upd_same,Option.some.injEq] at hz
   subst hz
   exact hok
  ·replace hz:upd s.pl r _ z=some p:=hz
   rw[upd_other e] at hz
   exact((h.pl z p hz).keep (fun b o=>by rcases o with o|o|o<;>exact hk _ _ o (by simp[e]) (by simp[e]) (by simp[e]))).more ho
 ·rcases hn b tg o with o|o
  ·exact Nat.lt_of_lt_of_le (h.lt b tg o) hc.size
  ·exact o.2
theorem TT.queue{w w6:World}{t:Nat}{s:Gs}{r:Rs}{q:Pl}{v':Value}{qs':List (Int×Int)}(h:TT w t s)(hq:s.pl r=some q)(hQ:QSl w6 v' qs')(hC:Chg (fun k=>q.q.ownBlock=some k) w w6)(hob:v'.ownBlock=q.q.ownBlock∨v'.ownBlock=some w.heap.size) :
  ∃s',s'.lv=s.lv∧s'.pl=upd s.pl r (some {q with q:=v',qs:=qs'})∧TT (w6.setCell ⟨q.blk,1,none⟩ v') t s'∧Ext w (w6.setCell ⟨q.blk,1,none⟩ v') s s':=by
 have ho:=h.pl r q hq
 have hltb:=h.lt _ _ ho.t1
 have hc2:=chgk w6 q.blk 1 v'
 have hc:Chg (fun k=>s.own k=some (.pl r)∨s.own k=some (.lh r)∨s.own k=some (.qu r)) w (w6.setCell ⟨q.blk,1,none⟩ v'):=(hC.mono (fun k e=>.inr (.inr (ho.t3 k e)))).trans (hc2.mono (fun k e=>by rw[e];exact .inl ho.t1))
 have hqlt:∀b,v'.ownBlock=some b→b<w6.heap.size:=fun b hb=>by
  rcases hQ with ⟨e,-⟩|⟨g,cap,rest,e,hg,-⟩
  ·rw[e] at hb;simp[Value.ownBlock] at hb
  ·rw[e] at hb
   have e3:g=b:=by simpa [Value.ownBlock] using hb
   rw[←e3];exact hg.lt
 have hsz:(w6.setCell ⟨q.blk,1,none⟩ v').heap.size=w6.heap.size:=World.size_setCell _ _ _
 have hb6:Blk (w6.setCell ⟨q.blk,1,none⟩ v') q.blk 95 [.map (some q.hb),v']:=(ho.blk.chg hC (fun e=>(ho.ne.2 _ e).1 rfl)).set 1 v'
 have hm6:Mp (fun n:Int=>I n) 3 (w6.setCell ⟨q.blk,1,none⟩ v') q.hb (fun x=>nz (q.hf x)):=(ho.hm.chg hC (fun e=>(ho.ne.2 _ e).2 rfl)).chg hc2 (Ne.symm ho.ne.1)
 have hQ6:v'.ownBlock≠some q.blk→QSl (w6.setCell ⟨q.blk,1,none⟩ v') v' qs':=fun hn=>hQ.keep (fun b e=>hc2.block b (hqlt b e) (fun e2=>hn (by rw[e,e2])))
 rcases hob with e|e
 ·obtain⟨T,E⟩:=h.setPlM (q':={q with q:=v',qs:=qs'}) (own':=s.own) hq rfl (fun _ _ o=>o) (fun _ _ o=>.inl o) hc ⟨hb6,hm6,hQ6 (by rw[e];exact fun e=>(ho.ne.2 _ e).1 rfl),ho.t1,ho.t2,fun b hb=>ho.t3 b (by rw[←e];exact hb)⟩
  refine⟨_,?_,?_,T,E⟩<;>rfl
 ·have hnew:s.own w.heap.size=none:=by
   cases e2:s.own w.heap.size with
   | none=>rfl
   | some tg=>have:=h.lt _ _ e2;omega
  have hkeep:∀b tg,s.own b=some tg→upd s.own w.heap.size (some (Tg.qu r)) b=some tg:=fun b tg o=>by
   rw[upd_other (fun e2=>by rw[e2,hnew] at o;cases o)];exact o
  obtain⟨T,E⟩:=h.setPlM (q':={q with q:=v',qs:=qs'}) (own':=upd s.own w.heap.size (some (.qu r))) hq rfl hkeep (fun b tg o=>by
   by_cases e2:b=w.heap.size
   ·refine .inr ⟨by omega,?_⟩
    rw[hsz,e2]
    exact hqlt _ e
   ·rw[upd_other e2] at o;exact .inl o) hc ⟨hb6,hm6,hQ6 (by rw[e];intro e2;have:=Option.some.inj e2;omega),hkeep _ _ ho.t1,hkeep _ _ ho.t2,fun b hb=>by
    have e3:w.heap.size=b:=by
     have hb':v'.ownBlock=some b:=hb
     rw[e] at hb'
     exact Option.some.inj hb'
    rw[←e3,upd_same]⟩
  refine⟨_,?_,?_,T,E⟩<;>rfl
theorem Ext.free{w w':World}{s s':Gs}{b:Nat}(h:Ext w w' s s')(hb:b<w.heap.size)(hn:s.own b=none):s'.own b=none:=by
 cases e:s'.own b with
 | none=>rfl
 | some tg=>
  rcases h.new b tg e with e2|e2
  ·rw[hn] at e2;cases e2
  ·omega
def WbD(x:Int)(p:Pt)(s:Gs)(Iw:Int→Prop)(zs:List Int)(s4:Gs):Prop:=(p.hurt=true∧zs=[]∧s4=s)∨(p.hurt=false∧∃xs:List Int,(∀y,y∈xs↔Iw y)∧zs=srt (wbL x p.stamp s xs).2∧s4=(wbL x p.stamp s xs).1)
theorem wba_post{w w':World}{t:Nat}{s:Gs}{x:Int}{p:Pt}{Iw:Int→Prop}{N:Nat}{e:Ending}(hT:TT w t s)(hTb:Tb w)(h:(p.hurt=true∧e=.returned (.slice none 0 0)∧G w w')∨(p.hurt=false∧∃(xs:List Int) (v:Value),(∀y,y∈xs↔Iw y)∧xs.length≤N∧e=.returned v∧w'.ownsRow w.heap.size 3 1 v (wbL x p.stamp s xs).2.length ((srt (wbL x p.stamp s xs).2).map fun z=>I z)∧TT w' t (wbL x p.stamp s xs).1∧Ext w w' s (wbL x p.stamp s xs).1∧Tb w')) :
  ∃v zs s4,e=.returned v∧zs.length≤N∧w'.ownsRow w.heap.size 3 1 v zs.length (zs.map fun z=>I z)∧TT w' t s4∧Ext w w' s s4∧Tb w'∧WbD x p s Iw zs s4:=by
 rcases h with ⟨h1,h2,h3⟩|⟨h1,xs,v,h2,hN,h3,h4,h5,h6,h7⟩
 ·exact⟨_,[],s,h2,Nat.zero_le _,⟨rfl,.inl ⟨rfl,rfl⟩⟩,hT.G h3,G.ext s h3,hTb.G h3,.inl ⟨h1,rfl,rfl⟩⟩
 ·exact⟨v,_,_,h3,by rw[srt_len];exact Nat.le_trans (wbL_len x p.stamp s xs) hN,by rw[srt_len];exact h4,h5,h6,h7,.inr ⟨h1,xs,h2,rfl,rfl⟩⟩
theorem own_ext{w w':World}{s s':Gs}{b e k n:Nat}{v:Value}{xs:List Value}(h:w.ownsRow b e k v n xs)(hE:Ext w w' s s')(hn:∀g,v.ownBlock=some g→s.own g=none):w'.ownsRow b e k v n xs:=own_chg h hE.chg (fun g hg f=>f (hn g hg))
theorem app_rows(w:World)(lo lo2:Nat)(u v:Value)(zs:List Int)(hu:w.ownsRow lo 3 1 u ([]:List Int).length (([]:List Int).map fun z=>I z))(hv:w.ownsRow lo2 3 1 v zs.length (zs.map fun z=>I z))(hl:zs.length<4100000000000)(hlo:lo≤w.heap.size) :
  ∃v' w',(Builtin.append_ #[34,34] 34 #[u,v]).run prog w=.ok v' w'∧w'.ownsRow lo 3 1 v' zs.length (zs.map fun z=>I z)∧w.grownBy w' u.ownBlock:=by
 obtain⟨i0,hi,hz0,hz1,hz2⟩:=info_parts (show(prog.info? 3).map (fun i=>(i.zero,i.size,i.bytes))=some (some (.int .i64 0),1,8)from by kernel_rfl)
 have hmx:(4100000000000:Nat)≤maxLen:=of_decide_eq_true (by kernel_rfl)
 rcases hv.2 with ⟨rfl,h0⟩|⟨g,cap,cur,rfl,-⟩
 ·have hz:zs=[]:=List.eq_nil_of_length_eq_zero h0
  subst hz
  exact⟨u,w,run_append_owned_none w lo 34 34 3 i0 1 underlying34 hi u _ _ hu,hu,⟨rfl,rfl,rfl,Nat.le_refl _,fun _ _ _=>rfl⟩⟩
 ·obtain⟨v',w9,q1,q2,q3,-,-⟩:=run_append_own_at (P:=prog) (w:=w) lo 34 34 3 i0 _ 1 8 underlying34 hi hz0 hz1 hz2 rfl (by decide) u _ _ hu ⟨g,0,none⟩ zs.length cap (zs.map fun z=>I z) (by simp) (fun j u hj=>by
   have hjl:j<zs.length:=by
    have:=(List.getElem?_eq_some_iff.1 hj).1
    simpa using this
   have:=hv.cellAt j (by omega)
   rw[hj] at this
   by_cases hj0:j=0
   ·subst hj0;simpa [Addr.add] using this
   ·simpa [Addr.add,hj0] using this) (fun u hu=>by
   obtain⟨z,-,e⟩:=List.mem_map.1 hu
   rw[←e];rfl) (by simp;omega) (by simp;omega) hlo
  refine⟨v',w9,q1,?_,q3⟩
  have e1:([]:List Int).length+zs.length=zs.length:=by simp
  rw[e1] at q2
  exact q2
end
section
open Go.RowKit
theorem TT.queueS{w w6:World}{t:Nat}{s:Gs}{r:Rs}{q:Pl}{v':Value}{qs':List (Int×Int)}(h:TT w t s)(hq:s.pl r=some q)(hQ:QSl w6 v' qs')(hC:Chg (fun k=>q.q.ownBlock=some k) w w6)(e:v'.ownBlock=q.q.ownBlock) :
  TT (w6.setCell ⟨q.blk,1,none⟩ v') t (s.setPl r {q with q:=v',qs:=qs'})∧Ext w (w6.setCell ⟨q.blk,1,none⟩ v') s (s.setPl r {q with q:=v',qs:=qs'}):=by
 have ho:=h.pl r q hq
 have hc2:=chgk w6 q.blk 1 v'
 have hc:Chg (fun k=>s.own k=some (.pl r)∨s.own k=some (.lh r)∨s.own k=some (.qu r)) w (w6.setCell ⟨q.blk,1,none⟩ v'):=(hC.mono (fun k e=>.inr (.inr (ho.t3 k e)))).trans (hc2.mono (fun k e=>by rw[e];exact .inl ho.t1))
 have hqlt:∀b,v'.ownBlock=some b→b<w6.heap.size:=fun b hb=>by
  rcases hQ with ⟨e,-⟩|⟨g,cap,rest,e,hg,-⟩
  ·rw[e] at hb;simp[Value.ownBlock] at hb
  ·rw[e] at hb
   have e3:g=b:=by simpa [Value.ownBlock] using hb
   rw[←e3];exact hg.lt
 have hb6:Blk (w6.setCell ⟨q.blk,1,none⟩ v') q.blk 95 [.map (some q.hb),v']:=(ho.blk.chg hC (fun e=>(ho.ne.2 _ e).1 rfl)).set 1 v'
 have hm6:Mp (fun n:Int=>I n) 3 (w6.setCell ⟨q.blk,1,none⟩ v') q.hb (fun x=>nz (q.hf x)):=(ho.hm.chg hC (fun e=>(ho.ne.2 _ e).2 rfl)).chg hc2 (Ne.symm ho.ne.1)
 have hQ6:QSl (w6.setCell ⟨q.blk,1,none⟩ v') v' qs':=hQ.keep (fun b e2=>hc2.block b (hqlt b e2) (fun e3=>(ho.ne.2 b (by rw[←e];exact e2)).1 e3))
 exact h.setPl (q':={q with q:=v',qs:=qs'}) hq rfl hc ⟨hb6,hm6,hQ6,ho.t1,ho.t2,fun b hb=>ho.t3 b (by rw[←e];exact hb)⟩
theorem qc_at(qs:List (Int×Int))(rest:List Value):∀(a:Nat) (y g:Int),qs[a]?=some (y,g)→(qc qs++rest)[a*2]?=some (I y)∧(qc qs++rest)[a*2+1]?=some (I g):=by
 induction qs with
 | nil=>intro a y g h;simp at h
 | cons q qs ih=>
  intro a y g h
  have e:qc (q::qs)++rest=I q.1::I q.2::(qc qs++rest):=by simp[qc]
  rw[e]
  cases a with
  | zero=>
   simp at h
   subst h
   simp
  | succ a=>
   have e2:(a+1)*2=a*2+1+1:=by omega
   rw[e2,List.getElem?_cons_succ,List.getElem?_cons_succ,List.getElem?_cons_succ,List.getElem?_cons_succ]
   exact ih a y g (by simpa using h)
theorem del_step{w4:World}{t:Nat}{s':Gs}{r:Rs}{q:Pl}{a gb cap:Nat}(hT:TT w4 t s')(hq:s'.pl r=some q)(hEQ:q.q=.slice (some ⟨gb,0,none⟩) q.qs.length cap)(ha:a<q.qs.length)(hn:q.qs.length<4100000000000)(hwr:wrap64 ((a:Int)+1)=(a:Int)+1) :
  Calls prog 75 #[.slice (some ⟨gb,0,none⟩) q.qs.length cap,I a,I (wrap64 ((a:Int)+1))] w4 fun e w5=>∃n5 cap5,e=.returned (.slice (some ⟨gb,0,none⟩) n5 cap5)∧(∀o,w5.cell? ⟨q.blk,o,none⟩=([.map (some q.hb),.slice (some ⟨gb,0,none⟩) q.qs.length cap]:List Value)[o]?)∧(∀o,w5.frozen? ⟨q.blk,o,none⟩=false)∧
   TT (w5.setCell ⟨q.blk,1,none⟩ (.slice (some ⟨gb,0,none⟩) n5 cap5)) t (s'.setPl r {q with q:=.slice (some ⟨gb,0,none⟩) n5 cap5,qs:=cutQ q.qs a})∧Ext w4 (w5.setCell ⟨q.blk,1,none⟩ (.slice (some ⟨gb,0,none⟩) n5 cap5)) s' (s'.setPl r {q with q:=.slice (some ⟨gb,0,none⟩) n5 cap5,qs:=cutQ q.qs a}):=by
 have ho:=hT.pl r q hq
 have hq4:=ho.q
 rw[hEQ] at hq4
 have KD:=delete_any q.qs _ a w4 hq4 ha (by omega)
 rw[←hwr] at KD
 refine KD.mono ?_
 rintro e w5 ⟨v5,rfl,hQ5,hC5,hob⟩
 have hob':v5.ownBlock=some gb:=hob
 obtain⟨n5,cap5,rfl⟩:∃n c,v5=.slice (some ⟨gb,0,none⟩) n c:=by
  rcases hQ5 with ⟨e,-⟩|⟨g',cap',rest,e,-⟩
  ·rw[e] at hob';simp[Value.ownBlock] at hob'
  ·rw[e] at hob'
   have e3:g'=gb:=by simpa [Value.ownBlock] using hob'
   rw[e3] at e
   exact⟨_,_,e⟩
 have hC:Chg (fun k=>q.q.ownBlock=some k) w4 w5:=by rw[hEQ];exact hC5
 have hb5:=ho.blk.chg hC (fun e=>(ho.ne.2 _ e).1 rfl)
 have hc5:=hb5.cell
 rw[hEQ] at hc5
 obtain⟨T6,E6⟩:=hT.queueS hq hQ5 hC (by rw[hEQ];rfl)
 exact⟨n5,cap5,rfl,hc5,hb5.frozen,T6,E6⟩
theorem app_one(w7:World)(lo:Nat)(u:Value)(out:List Int)(y:Int)(hu:w7.ownsRow lo 3 1 u out.length (out.map fun z=>I z))(hl:out.length<4099999999999)(hlo:lo≤w7.heap.size) :
  ∃v' w9,(Builtin.append_ #[34,34] 34 #[u,.slice (some ⟨w7.heap.size,0,none⟩) 1 1]).run prog (w7.alloc (.cells #[I y] 3))=.ok v' w9∧w9.ownsRow lo 3 1 v' (out++[y]).length ((out++[y]).map fun z=>I z)∧(w7.alloc (.cells #[I y] 3)).grownBy w9 u.ownBlock:=by
 obtain⟨i0,hi,hz0,hz1,hz2⟩:=info_parts (show(prog.info? 3).map (fun i=>(i.zero,i.size,i.bytes))=some (some (.int .i64 0),1,8)from by kernel_rfl)
 have gA:G w7 (w7.alloc (.cells #[I y] 3)):=(G.refl w7).alloc _
 have hmx:(4100000000000:Nat)≤maxLen:=of_decide_eq_true (by kernel_rfl)
 obtain⟨v',w9,q1,q2,q3,-,-⟩:=run_append_own_at (P:=prog) (w:=w7.alloc (.cells #[I y] 3)) lo 34 34 3 i0 _ 1 8 underlying34 hi hz0 hz1 hz2 rfl (by decide) u out.length (out.map fun z=>I z) (own_G hu gA) ⟨w7.heap.size,0,none⟩ 1 1 [I y] rfl (fun j u hj=>by
  have e:j=0:=by
   have:=(List.getElem?_eq_some_iff.1 hj).1
   simp at this
   omega
  subst e
  have:=(Blk.new w7 [I y] 3).cell 0
  rw[hj] at this
  simpa [Addr.add] using this) (by simp[Value.oneCell']) (by omega) (by omega) (Nat.le_trans hlo gA.size)
 exact⟨v',w9,q1,by rw[List.length_append,List.map_append];exact q2,q3⟩
theorem QSl.len{w:World}{x:Option Addr}{n c:Nat}{qs:List (Int×Int)}(h:QSl w (.slice x n c) qs):n=qs.length:=by
 rcases h with ⟨e,e2⟩|⟨g,cap,rest,e,-⟩
 ·cases e;rw[e2];rfl
 ·cases e;rfl
theorem Tb.ext{w w':World}{s s':Gs}(h:Tb w)(E:Ext w w' s s')(hgl:s.own 1=none∧s.own 0=none):Tb w':=h.keep (E.chg.block _ h.lf (fun e=>e hgl.1)) (E.chg.block _ h.lj (fun e=>e hgl.2)) E.chg.size
def qLen(w:World)(B:Nat):Nat:=match w.cell? ⟨B,1,none⟩with|some (.slice _ n _)=>n|_=>0
theorem qLen_of{w:World}{B n c:Nat}{x:Option Addr}(h:w.cell? ⟨B,1,none⟩=some (.slice x n c)):qLen w B=n:=by unfold qLen;rw[h]
end
end Go.Proofs.YtoefbpldmlebdaaGreatDoor
