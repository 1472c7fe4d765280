import Derived.Test.YtadfaiciolfgjaaGreatDoorLk21
import Derived.Test.YtadfaiciolfgjaaGreatDoorLk18
namespace Go.Proofs.YtadfaiciolfgjaaGreatDoor
open Go.Proofs.Tryz
section
open Go.RowKit
theorem TT.queueS{w w6:World}{t:Nat}{s:Gs}{r:Rs}{q:Pl}{v':Value}{qs':List (Int×Int)}(h:TT w t s)(hq:s.pl r=some q)(hQ:QSl w6 v' qs')(hC:Chg (fun k=>q.q.ownBlock=some k) w w6)(e:v'.ownBlock=q.q.ownBlock) :
  TT (w6.setCell ⟨q.blk,1,none⟩ v') t (s.setPl r {q with q:=v',qs:=qs'})∧Ext w (w6.setCell ⟨q.blk,1,none⟩ v') s (s.setPl r {q with q:=v',qs:=qs'}):=by
 have ho:=h.pl r q hq
 have hc2:=chgk w6 q.blk 1 v'
 have hc:Chg (fun k=>s.own k=some (.pl r)∨s.own k=some (.lh r)∨s.own k=some (.qu r)) w (w6.setCell ⟨q.blk,1,none⟩ v'):=(hC.mono (fun k e=>.inr (.inr (ho.t3 k e)))).trans (hc2.mono (fun k e=>by rw[e];exact .inl ho.t1))
 have hqlt:∀b,v'.ownBlock=some b→b<w6.heap.size:=fun b hb=>by
  rcases hQ with ⟨e,-⟩|⟨g,cap,rest,e,hg,-⟩
  ·rw[e] at hb;simp[Value.ownBlock] at hb
  ·rw[e] at hb
   have e3:g=b:=by simpa [Value.ownBlock] using hb
   rw[←e3];exact hg.lt
 have hb6:Blk (w6.setCell ⟨q.blk,1,none⟩ v') q.blk 109 [.map (some q.hb),v']:=(ho.blk.chg hC (fun e=>(ho.ne.2 _ e).1 rfl)).set 1 v'
 have hm6:Mp (fun n:Int=>I n) 3 (w6.setCell ⟨q.blk,1,none⟩ v') q.hb (fun x=>nz (q.hf x)):=(ho.hm.chg hC (fun e=>(ho.ne.2 _ e).2 rfl)).chg hc2 (Ne.symm ho.ne.1)
 have hQ6:QSl (w6.setCell ⟨q.blk,1,none⟩ v') v' qs':=hQ.keep (fun b e2=>hc2.block b (hqlt b e2) (fun e3=>(ho.ne.2 b (by rw[←e];exact e2)).1 e3))
 exact h.setPl (q':={q with q:=v',qs:=qs'}) hq rfl hc ⟨hb6,hm6,hQ6,ho.t1,ho.t2,fun b hb=>ho.t3 b (by rw[←e];exact hb)⟩
theorem qc_at(qs:List (Int×Int))(rest:List Value):∀(a:Nat) (y g:Int),qs[a]?=some (y,g)→(qc qs++rest)[a*2]?=some (I y)∧(qc qs++rest)[a*2+1]?=some (I g):=by
 induction qs with
 | nil=>intro a y g h;simp at h
 | cons q qs ih=>
  intro a y g h
  have e:qc (q::qs)++rest=I q.1::I q.2::(qc qs++rest):=by simp[qc]
  rw[e]
  cases a with
  | zero=>
   simp at h
   subst h
   simp
  | succ a=>
   have e2:(a+1)*2=a*2+1+1:=by omega
   rw[e2,List.getElem?_cons_succ,List.getElem?_cons_succ,List.getElem?_cons_succ,List.getElem?_cons_succ]
   exact ih a y g (by simpa using h)
theorem del_step{w4:World}{t:Nat}{s':Gs}{r:Rs}{q:Pl}{a gb cap:Nat}(hT:TT w4 t s')(hq:s'.pl r=some q)(hEQ:q.q=.slice (some ⟨gb,0,none⟩) q.qs.length cap)(ha:a<q.qs.length)(hn:q.qs.length<4100000000000)(hwr:wrap64 ((a:Int)+1)=(a:Int)+1) :
  Calls prog 69 #[.slice (some ⟨gb,0,none⟩) q.qs.length cap,I a,I (wrap64 ((a:Int)+1))] w4 fun e w5=>∃n5 cap5,e=.returned (.slice (some ⟨gb,0,none⟩) n5 cap5)∧(∀o,w5.cell? ⟨q.blk,o,none⟩=([.map (some q.hb),.slice (some ⟨gb,0,none⟩) q.qs.length cap]:List Value)[o]?)∧(∀o,w5.frozen? ⟨q.blk,o,none⟩=false)∧
   TT (w5.setCell ⟨q.blk,1,none⟩ (.slice (some ⟨gb,0,none⟩) n5 cap5)) t (s'.setPl r {q with q:=.slice (some ⟨gb,0,none⟩) n5 cap5,qs:=cutQ q.qs a})∧Ext w4 (w5.setCell ⟨q.blk,1,none⟩ (.slice (some ⟨gb,0,none⟩) n5 cap5)) s' (s'.setPl r {q with q:=.slice (some ⟨gb,0,none⟩) n5 cap5,qs:=cutQ q.qs a}):=by
 have ho:=hT.pl r q hq
 have hq4:=ho.q
 rw[hEQ] at hq4
 have KD:=delete_any q.qs _ a w4 hq4 ha (by omega)
 rw[←hwr] at KD
 refine KD.mono ?_
 rintro e w5 ⟨v5,rfl,hQ5,hC5,hob⟩
 have hob':v5.ownBlock=some gb:=hob
 obtain⟨n5,cap5,rfl⟩:∃n c,v5=.slice (some ⟨gb,0,none⟩) n c:=by
  rcases hQ5 with ⟨e,-⟩|⟨g',cap',rest,e,-⟩
  ·rw[e] at hob';simp[Value.ownBlock] at hob'
  ·rw[e] at hob'
   have e3:g'=gb:=by simpa [Value.ownBlock] using hob'
   rw[e3] at e
   exact⟨_,_,e⟩
 have hC:Chg (fun k=>q.q.ownBlock=some k) w4 w5:=by rw[hEQ];exact hC5
 have hb5:=ho.blk.chg hC (fun e=>(ho.ne.2 _ e).1 rfl)
 have hc5:=hb5.cell
 rw[hEQ] at hc5
 obtain⟨T6,E6⟩:=hT.queueS hq hQ5 hC (by rw[hEQ];rfl)
 exact⟨n5,cap5,rfl,hc5,hb5.frozen,T6,E6⟩
theorem app_one(w7:World)(lo:Nat)(u:Value)(out:List Int)(y:Int)(hu:w7.ownsRow lo 3 1 u out.length (out.map fun z=>I z))(hl:out.length<4099999999999)(hlo:lo≤w7.heap.size) :
  ∃v' w9,(Builtin.append_ #[42,42] 42 #[u,.slice (some ⟨w7.heap.size,0,none⟩) 1 1]).run prog (w7.alloc (.cells #[I y] 3))=.ok v' w9∧w9.ownsRow lo 3 1 v' (out++[y]).length ((out++[y]).map fun z=>I z)∧(w7.alloc (.cells #[I y] 3)).grownBy w9 u.ownBlock:=by
 obtain⟨i0,hi,hz0,hz1,hz2⟩:=info_parts (show(prog.info? 3).map (fun i=>(i.zero,i.size,i.bytes))=some (some (.int .i64 0),1,8)from by kernel_rfl)
 have gA:G w7 (w7.alloc (.cells #[I y] 3)):=(G.refl w7).alloc _
 have hmx:(4100000000000:Nat)≤maxLen:=of_decide_eq_true (by kernel_rfl)
 obtain⟨v',w9,q1,q2,q3,-,-⟩:=run_append_own_at (P:=prog) (w:=w7.alloc (.cells #[I y] 3)) lo 42 42 3 i0 _ 1 8 underlying42 hi hz0 hz1 hz2 rfl (by decide) u out.length (out.map fun z=>I z) (own_G hu gA) ⟨w7.heap.size,0,none⟩ 1 1 [I y] rfl (fun j u hj=>by
  have e:j=0:=by
   have:=(List.getElem?_eq_some_iff.1 hj).1
   simp at this
   omega
  subst e
  have:=(Blk.new w7 [I y] 3).cell 0
  rw[hj] at this
  simpa [Addr.add] using this) (by simp[Value.oneCell']) (by omega) (by omega) (Nat.le_trans hlo gA.size)
 exact⟨v',w9,q1,by rw[List.length_append,List.map_append];exact q2,q3⟩
theorem QSl.len{w:World}{x:Option Addr}{n c:Nat}{qs:List (Int×Int)}(h:QSl w (.slice x n c) qs):n=qs.length:=by
 rcases h with ⟨e,e2⟩|⟨g,cap,rest,e,-⟩
 ·cases e;rw[e2];rfl
 ·cases e;rfl
theorem Tb.ext{w w':World}{s s':Gs}(h:Tb w)(E:Ext w w' s s')(hgl:s.own 1=none∧s.own 0=none):Tb w':=h.keep (E.chg.block _ h.lf (fun e=>e hgl.1)) (E.chg.block _ h.lj (fun e=>e hgl.2)) E.chg.size
def qLen(w:World)(B:Nat):Nat:=match w.cell? ⟨B,1,none⟩with|some (.slice _ n _)=>n|_=>0
theorem qLen_of{w:World}{B n c:Nat}{x:Option Addr}(h:w.cell? ⟨B,1,none⟩=some (.slice x n c)):qLen w B=n:=by unfold qLen;rw[h]
end
end Go.Proofs.YtadfaiciolfgjaaGreatDoor
