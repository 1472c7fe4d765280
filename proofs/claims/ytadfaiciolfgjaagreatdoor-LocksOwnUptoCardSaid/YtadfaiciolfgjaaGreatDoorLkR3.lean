import Derived.LoopN
import Derived.Test.YtadfaiciolfgjaaGreatDoorLq3
namespace Go.Proofs.YtadfaiciolfgjaaGreatDoor
open Go.Proofs.Tryz
set_option maxHeartbeats 1000000
set_option maxRecDepth 100000
section
open Go.RowKit
theorem ids_mem{a b:List Tx}(h:a.map (fun e=>(e.x,e.st))=b.map (fun e=>(e.x,e.st))){x:Int}(hb:∃e∈b,e.x=x):∃e∈a,e.x=x:=by
 obtain⟨e,he,rfl⟩:=hb
 have:e.x∈a.map Tx.x:=by rw[ids_x h];exact List.mem_map.2 ⟨e,he,rfl⟩
 obtain⟨c,hc,hcx⟩:=List.mem_map.1 this
 exact⟨c,hc,hcx⟩
theorem hol_len(x:Int)(r:Rs)(c:Int)(l:List Lk):(holP x r c l).length≤l.length+1:=by
 unfold holP
 split
 ·rw[List.length_modify];omega
 ·rw[List.length_append];simp
theorem rise_nodup{l:List Int}(h:l.Pairwise (·<·)):l.Nodup:=h.imp (fun h=>by omega)
theorem inwP_up(R:Rt)(n:Nat)(q:Lk):(inwP R n q).Pairwise (·<·):=wayP_up _ _ _ (wayP_up _ _ _ .nil)
section
variable {m m':Ms} {L:List Int} {LR:List Rs} {R:Rt}
theorem HQ.none_at{hd aq:List Lk}{hl:Rs→Int→Int}{qs:Rs→List (Int×Int)}(h:HQ hd aq hl qs){x:Int}(hn:∀q∈aq,(q.x==x)=false)(r:Rs)(i:Nat)(g:Int):(qs r)[i]?≠some (x,g):=fun hh=>by
 rw[←h.qa] at hh
 obtain⟨e,he,-,e2,-⟩:=queP_mem.1 (List.mem_of_getElem? hh)
 have:=hn e he
 simp[e2] at this
theorem wj(hT:TXq R.tx m.lv)(hQ:HQ R.hd R.aq m'.hl m'.qs)(hs:Swp m m')(h:Iv m L LR)(hI:Iv m' L LR)(hL:L.length<100000000000):WJ R (SJ m m' R.tx):=by
 have hall:∀last TX OUT,SJ m m' R.tx last TX OUT→∀x p,m.lv x=some p→∃a∈TX,a.x=x:=fun last TX OUT hj x p hp=>ids_mem hj.ids (hT.all x p hp)
 refine⟨fun _ _ _ hj=>hj.ids,fun last TX OUT hj=>⟨fun e he=>?_,hj.up,?_⟩,fun n q hq y hy=>?_,fun last TX OUT e hj he hlt hmin hno=>?_,fun last TX OUT e n q hj he hlt hmin hq hqx hw=>?_⟩
 ·obtain⟨p,p',h1,h2,-,h4,h5⟩:=hj.ok e he
  refine⟨h4,Nat.le_trans (nodup_sub_le0 e.ws L (rise_nodup h4) (fun z hz=>?_)) (Nat.le_of_lt hL)⟩
  rcases(h5 z).1 hz with hz|⟨hz,-⟩
  ·exact((h.lv _ p h1).wd z hz).2
  ·exact((hI.lv _ p' h2).wd z hz).2
 ·refine Nat.le_trans (nodup_sub_le0 OUT L (rise_nodup hj.up) (fun z hz=>?_)) (Nat.le_of_lt hL)
  obtain⟨p,-,-,-,h1,-⟩:=(hj.out z).1 hz
  exact(h.lv z p h1).xl
 ·have h1:=(hQ.way R.tx hq (hI.qn _) y).1 hy
  obtain⟨p,hp⟩:=hs.wy _ _ _ _ _ (hQ.at hq) h1
  exact hT.all y p hp
 ·refine hj.skip hs he hlt hmin (hall _ _ _ hj) ?_
  rcases hno with hno|hno
  ·exact .inl (hQ.none_at hno)
  ·exact .inr hno
 ·have hq2:=hQ.at hq
  rw[hqx] at hq2
  refine hj.hits hs he hlt hmin (hall _ _ _ hj) (hj.nd hT.nd) hq2 hw (rise_nodup (inwP_up R n q)) (fun y=>?_)
  rw[←hqx]
  exact hQ.way R.tx hq (hI.qn _) y
theorem wj_fin(hT:TXq R.tx m.lv)(hQ:HQ R.hd R.aq m'.hl m'.qs)(hs:Swp m m')(hback:∀x p,m'.lv x=some p→∃q,m.lv x=some q){last:Int}{TX:List Tx}{OUT:List Int}(hj:SJ m m' R.tx last TX OUT)(hmax:∀a∈TX,¬last<a.st):RM ⟨TX,R.hd,R.aq⟩ m'∧OUT.Pairwise (·<·)∧∀y,y∈OUT↔Newly m m' y:=by
 obtain⟨h1,h2,h3⟩:=hj.fin hs hT hmax (fun x p hp=>ids_mem hj.ids (hT.all x p hp)) hback
 exact⟨⟨h1,hQ⟩,h2,h3⟩
theorem put_nodup{qs:List (Int×Int)}{a:Nat}{x g:Int}(h:(qs.map Prod.fst).Nodup)(hn:∀g',(x,g')∉qs):((putQ qs a x g).map Prod.fst).Nodup:=by
 unfold putQ
 rw[List.map_append,List.map_cons,List.nodup_append]
 rw[←List.take_append_drop a qs,List.map_append,List.nodup_append] at h
 obtain⟨n1,n2,n3⟩:=h
 refine⟨n1,List.nodup_cons.2 ⟨fun hh=>?_,n2⟩,fun c hc d hd e2=>?_⟩
 ·obtain⟨⟨u,v⟩,hu,hu2⟩:=List.mem_map.1 hh
  have hu2:u=x:=hu2
  subst hu2
  exact hn v (List.mem_of_mem_drop hu)
 ·rcases List.mem_cons.1 hd with hd|hd
  ·obtain⟨⟨u,v⟩,hu,hu2⟩:=List.mem_map.1 hc
   have hu2:u=c:=hu2
   have hd2:d=x:=hd
   rw[hd2] at e2
   rw[hu2,e2] at hu
   exact hn v (List.mem_of_mem_take hu)
  ·exact n3 c hc d hd e2
variable {x:Int} {p:Pm} {r:Rs} {g mode:Int}
structure AQ(m:Ms)(R:Rt)(x:Int)(p:Pm)(r:Rs)(g:Int)(q:Lk):Prop where
 e:q=⟨x,r,g,decide (p.hf r≠0)⟩
 n:(queP r (R.aq.take (entN q R.aq))).length=turnM m r x
 hq:HQ R.hd (entP q R.aq) m.hl (upd m.qs r (putQ (m.qs r) (turnM m r x) x g))
 way:∀y,y∈inwP ⟨R.tx,R.hd,entP q R.aq⟩ (entN q R.aq) q↔inW (m.hl r) (m.qs r) x g (turnM m r x) y
theorem aq_of(hm:RM R m)(h:Iv m L LR)(hp:m.lv x=some p)(hg0:p.goal=0):AQ m R x p r g ⟨x,r,g,decide (p.hf r≠0)⟩:=by
 have hu:(⟨x,r,g,decide (p.hf r≠0)⟩:Lk).up=decide (m.hl r x≠0):=by rw[hl_some hp]
 have hn:(queP r (R.aq.take (entN ⟨x,r,g,decide (p.hf r≠0)⟩ R.aq))).length=turnM m r x:=hm.hq.entN (q:=⟨x,r,g,decide (p.hf r≠0)⟩) hu
 have hent:=hm.hq.ent (q:=⟨x,r,g,decide (p.hf r≠0)⟩) hu (a:=turnM m r x) hn.symm
 refine⟨rfl,hn,hent,fun y=>?_⟩
 have hnq:=no_req h hp hg0
 have h2:=hent.way R.tx (ent_at _ _) (by
  show(((upd m.qs r (putQ (m.qs r) (turnM m r x) x g)) r).map Prod.fst).Nodup
  rw[upd_same]
  exact put_nodup (h.qn r) (hnq r)) y
 rw[ent_take] at h2
 rw[h2]
 show inW (m.hl r) ((upd m.qs r (putQ (m.qs r) (turnM m r x) x g)) r) x g (queP r (R.aq.take (entN ⟨x,r,g,decide (p.hf r≠0)⟩ R.aq))).length y↔_
 rw[upd_same,hn]
 exact inW_put (turnM_le m r x)
theorem ask_wait(h:Iv m L LR)(hp:m.lv x=some p)(hg0:p.goal=0)(hr:GoodR r LR)(hmo:modeB mode=true)(hg:g=joinI (p.hf r) mode)(hb:∃y,inW (m.hl r) (m.qs r) x g (turnM m r x) y){q:Lk}(hq:AQ m R x p r g q) :
  Iv (mWait m x p r g (turnM m r x)) L LR∧Swp m (mWait m x p r g (turnM m r x))∧HQ R.hd (entP q R.aq) (mWait m x p r g (turnM m r x)).hl (mWait m x p r g (turnM m r x)).qs∧∀y c,(mWait m x p r g (turnM m r x)).lv y=some c→∃c',m.lv y=some c':=by
 have hI:=iv_wait h hp hg0 hr hmo hg (turnM_le m r x) hb
 refine⟨hI,swp_wait h hp hg0 (turnM_le m r x) hI,?_,fun y c hc=>?_⟩
 ·rw[mWait_hl hp]
  exact hq.hq
 ·by_cases e:y=x
  ·subst e;exact⟨p,hp⟩
  ·obtain⟨b,hb,-⟩:=mWait_of e hc;exact⟨b,hb⟩
theorem ask_grant(hm:RM R m)(h:Iv m L LR)(hp:m.lv x=some p)(hg0:p.goal=0)(hr:GoodR r LR)(hmo:modeB mode=true)(hg:g=joinI (p.hf r) mode)(hb:¬∃y,inW (m.hl r) (m.qs r) x g (turnM m r x) y) :
  Iv (mGrant m x p r g (turnM m r x)) L LR∧Swp m (mGrant m x p r g (turnM m r x))∧HQ (holP x r g R.hd) R.aq (mGrant m x p r g (turnM m r x)).hl (mGrant m x p r g (turnM m r x)).qs∧∀y c,(mGrant m x p r g (turnM m r x)).lv y=some c→∃c',m.lv y=some c':=by
 have hI:=iv_grant h hp hg0 hr hmo hg hb
 have hm0:p.hf r=0∨modeB (p.hf r)=true:=by rw[←hl_some hp r];exact h.mode r x
 have hgn:g≠0:=by rw[hg];exact mode_ne (joinI_mode hm0 hmo)
 refine⟨hI,swp_grant h hp hg0 hgn hI,hm.hq.hold hgn (no_req h hp hg0 r) ?_ (fun r' y hne=>?_),fun y c hc=>?_⟩
 ·rw[mGrant_hl hp,if_pos rfl,upd_same]
 ·rw[mGrant_hl hp]
  by_cases e:y=x
  ·have e2:r'≠r:=fun e2=>hne ⟨e,e2⟩
   rw[if_pos e,upd_other e2,e,hl_some hp]
  ·rw[if_neg e]
 ·by_cases e:y=x
  ·subst e;exact⟨p,hp⟩
  ·rw[mGrant_y e] at hc;exact⟨c,hc⟩
end
end
section
open Go.RowKit
theorem rjoins_0(b:Int)(hb:jm b)(w:World):Calls prog 27 #[I 0,I b] w fun e w'=>e=.returned (I (joinI 0 b))∧w'=w:=by
 have KA:=hide (rmode_any 0 w)
 have KB:=hide (rmode_any b w)
 have ma:modeB 0=false:=by decide
 rw[ma] at KA
 have h:b=0∨b=1∨b=2∨b=3∨b=4∨b=5:=by rcases hb with h|h<;>omega
 clear hb
 have c0:=hide (cov_0 w)
 have c1:=hide (cov_1 w)
 have c2:=hide (cov_2 w)
 have c3:=hide (cov_3 w)
 have c4:=hide (cov_4 w)
 have c5:=hide (cov_5 w)
 have m0:modeB 0=false:=by decide
 have m1:modeB 1=true:=by decide
 have m2:modeB 2=true:=by decide
 have m3:modeB 3=true:=by decide
 have m4:modeB 4=true:=by decide
 have m5:modeB 5=true:=by decide
 rcases h with rfl|rfl|rfl|rfl|rfl|rfl
 all_goals
  first|rw[m0] at KB|rw[m1] at KB|rw[m2] at KB|rw[m3] at KB|rw[m4] at KB|rw[m5] at KB
  clear m0 m1 m2 m3 m4 m5
  go_enter func27,ntmps27
  go_wp2_with (first|(go_at_call 24;with_reducible refine(KA.out).mono ?_;rintro e w' ⟨rfl,rfl⟩)|(go_at_call 24;with_reducible refine(KB.out).mono ?_;rintro e w' ⟨rfl,rfl⟩)|(go_at_call 62;(first|with_reducible refine(c0.out).mono ?_|with_reducible refine(c1.out).mono ?_|with_reducible refine(c2.out).mono ?_|with_reducible refine(c3.out).mono ?_|with_reducible refine(c4.out).mono ?_|with_reducible refine(c5.out).mono ?_);rintro e w' ⟨rfl,rfl⟩)|fail)
  try refine wp_loop_rounds 6 ?_
  repeat
   rw[rounds_succ]
   go_wp2_with (first|(go_at_call 24;with_reducible refine(KA.out).mono ?_;rintro e w' ⟨rfl,rfl⟩)|(go_at_call 24;with_reducible refine(KB.out).mono ?_;rintro e w' ⟨rfl,rfl⟩)|(go_at_call 62;(first|with_reducible refine(c0.out).mono ?_|with_reducible refine(c1.out).mono ?_|with_reducible refine(c2.out).mono ?_|with_reducible refine(c3.out).mono ?_|with_reducible refine(c4.out).mono ?_|with_reducible refine(c5.out).mono ?_);rintro e w' ⟨rfl,rfl⟩)|fail)
  go_ret
  exact⟨rfl,rfl⟩
theorem rjoins_1(b:Int)(hb:jm b)(w:World):Calls prog 27 #[I 1,I b] w fun e w'=>e=.returned (I (joinI 1 b))∧w'=w:=by
 have KA:=hide (rmode_any 1 w)
 have KB:=hide (rmode_any b w)
 have ma:modeB 1=true:=by decide
 rw[ma] at KA
 have h:b=0∨b=1∨b=2∨b=3∨b=4∨b=5:=by rcases hb with h|h<;>omega
 clear hb
 have c0:=hide (cov_0 w)
 have c1:=hide (cov_1 w)
 have c2:=hide (cov_2 w)
 have c3:=hide (cov_3 w)
 have c4:=hide (cov_4 w)
 have c5:=hide (cov_5 w)
 have m0:modeB 0=false:=by decide
 have m1:modeB 1=true:=by decide
 have m2:modeB 2=true:=by decide
 have m3:modeB 3=true:=by decide
 have m4:modeB 4=true:=by decide
 have m5:modeB 5=true:=by decide
 rcases h with rfl|rfl|rfl|rfl|rfl|rfl
 all_goals
  first|rw[m0] at KB|rw[m1] at KB|rw[m2] at KB|rw[m3] at KB|rw[m4] at KB|rw[m5] at KB
  clear m0 m1 m2 m3 m4 m5
  go_enter func27,ntmps27
  go_wp2_with (first|(go_at_call 24;with_reducible refine(KA.out).mono ?_;rintro e w' ⟨rfl,rfl⟩)|(go_at_call 24;with_reducible refine(KB.out).mono ?_;rintro e w' ⟨rfl,rfl⟩)|(go_at_call 62;(first|with_reducible refine(c0.out).mono ?_|with_reducible refine(c1.out).mono ?_|with_reducible refine(c2.out).mono ?_|with_reducible refine(c3.out).mono ?_|with_reducible refine(c4.out).mono ?_|with_reducible refine(c5.out).mono ?_);rintro e w' ⟨rfl,rfl⟩)|fail)
  try refine wp_loop_rounds 6 ?_
  repeat
   rw[rounds_succ]
   go_wp2_with (first|(go_at_call 24;with_reducible refine(KA.out).mono ?_;rintro e w' ⟨rfl,rfl⟩)|(go_at_call 24;with_reducible refine(KB.out).mono ?_;rintro e w' ⟨rfl,rfl⟩)|(go_at_call 62;(first|with_reducible refine(c0.out).mono ?_|with_reducible refine(c1.out).mono ?_|with_reducible refine(c2.out).mono ?_|with_reducible refine(c3.out).mono ?_|with_reducible refine(c4.out).mono ?_|with_reducible refine(c5.out).mono ?_);rintro e w' ⟨rfl,rfl⟩)|fail)
  go_ret
  exact⟨rfl,rfl⟩
theorem rjoins_2(b:Int)(hb:jm b)(w:World):Calls prog 27 #[I 2,I b] w fun e w'=>e=.returned (I (joinI 2 b))∧w'=w:=by
 have KA:=hide (rmode_any 2 w)
 have KB:=hide (rmode_any b w)
 have ma:modeB 2=true:=by decide
 rw[ma] at KA
 have h:b=0∨b=1∨b=2∨b=3∨b=4∨b=5:=by rcases hb with h|h<;>omega
 clear hb
 have c0:=hide (cov_0 w)
 have c1:=hide (cov_1 w)
 have c2:=hide (cov_2 w)
 have c3:=hide (cov_3 w)
 have c4:=hide (cov_4 w)
 have c5:=hide (cov_5 w)
 have m0:modeB 0=false:=by decide
 have m1:modeB 1=true:=by decide
 have m2:modeB 2=true:=by decide
 have m3:modeB 3=true:=by decide
 have m4:modeB 4=true:=by decide
 have m5:modeB 5=true:=by decide
 rcases h with rfl|rfl|rfl|rfl|rfl|rfl
 all_goals
  first|rw[m0] at KB|rw[m1] at KB|rw[m2] at KB|rw[m3] at KB|rw[m4] at KB|rw[m5] at KB
  clear m0 m1 m2 m3 m4 m5
  go_enter func27,ntmps27
  go_wp2_with (first|(go_at_call 24;with_reducible refine(KA.out).mono ?_;rintro e w' ⟨rfl,rfl⟩)|(go_at_call 24;with_reducible refine(KB.out).mono ?_;rintro e w' ⟨rfl,rfl⟩)|(go_at_call 62;(first|with_reducible refine(c0.out).mono ?_|with_reducible refine(c1.out).mono ?_|with_reducible refine(c2.out).mono ?_|with_reducible refine(c3.out).mono ?_|with_reducible refine(c4.out).mono ?_|with_reducible refine(c5.out).mono ?_);rintro e w' ⟨rfl,rfl⟩)|fail)
  try refine wp_loop_rounds 6 ?_
  repeat
   rw[rounds_succ]
   go_wp2_with (first|(go_at_call 24;with_reducible refine(KA.out).mono ?_;rintro e w' ⟨rfl,rfl⟩)|(go_at_call 24;with_reducible refine(KB.out).mono ?_;rintro e w' ⟨rfl,rfl⟩)|(go_at_call 62;(first|with_reducible refine(c0.out).mono ?_|with_reducible refine(c1.out).mono ?_|with_reducible refine(c2.out).mono ?_|with_reducible refine(c3.out).mono ?_|with_reducible refine(c4.out).mono ?_|with_reducible refine(c5.out).mono ?_);rintro e w' ⟨rfl,rfl⟩)|fail)
  go_ret
  exact⟨rfl,rfl⟩
end
section
open Go.RowKit
theorem rjoins_3(b:Int)(hb:jm b)(w:World):Calls prog 27 #[I 3,I b] w fun e w'=>e=.returned (I (joinI 3 b))∧w'=w:=by
 have KA:=hide (rmode_any 3 w)
 have KB:=hide (rmode_any b w)
 have ma:modeB 3=true:=by decide
 rw[ma] at KA
 have h:b=0∨b=1∨b=2∨b=3∨b=4∨b=5:=by rcases hb with h|h<;>omega
 clear hb
 have c0:=hide (cov_0 w)
 have c1:=hide (cov_1 w)
 have c2:=hide (cov_2 w)
 have c3:=hide (cov_3 w)
 have c4:=hide (cov_4 w)
 have c5:=hide (cov_5 w)
 have m0:modeB 0=false:=by decide
 have m1:modeB 1=true:=by decide
 have m2:modeB 2=true:=by decide
 have m3:modeB 3=true:=by decide
 have m4:modeB 4=true:=by decide
 have m5:modeB 5=true:=by decide
 rcases h with rfl|rfl|rfl|rfl|rfl|rfl
 all_goals
  first|rw[m0] at KB|rw[m1] at KB|rw[m2] at KB|rw[m3] at KB|rw[m4] at KB|rw[m5] at KB
  clear m0 m1 m2 m3 m4 m5
  go_enter func27,ntmps27
  go_wp2_with (first|(go_at_call 24;with_reducible refine(KA.out).mono ?_;rintro e w' ⟨rfl,rfl⟩)|(go_at_call 24;with_reducible refine(KB.out).mono ?_;rintro e w' ⟨rfl,rfl⟩)|(go_at_call 62;(first|with_reducible refine(c0.out).mono ?_|with_reducible refine(c1.out).mono ?_|with_reducible refine(c2.out).mono ?_|with_reducible refine(c3.out).mono ?_|with_reducible refine(c4.out).mono ?_|with_reducible refine(c5.out).mono ?_);rintro e w' ⟨rfl,rfl⟩)|fail)
  try refine wp_loop_rounds 6 ?_
  repeat
   rw[rounds_succ]
   go_wp2_with (first|(go_at_call 24;with_reducible refine(KA.out).mono ?_;rintro e w' ⟨rfl,rfl⟩)|(go_at_call 24;with_reducible refine(KB.out).mono ?_;rintro e w' ⟨rfl,rfl⟩)|(go_at_call 62;(first|with_reducible refine(c0.out).mono ?_|with_reducible refine(c1.out).mono ?_|with_reducible refine(c2.out).mono ?_|with_reducible refine(c3.out).mono ?_|with_reducible refine(c4.out).mono ?_|with_reducible refine(c5.out).mono ?_);rintro e w' ⟨rfl,rfl⟩)|fail)
  go_ret
  exact⟨rfl,rfl⟩
theorem rjoins_4(b:Int)(hb:jm b)(w:World):Calls prog 27 #[I 4,I b] w fun e w'=>e=.returned (I (joinI 4 b))∧w'=w:=by
 have KA:=hide (rmode_any 4 w)
 have KB:=hide (rmode_any b w)
 have ma:modeB 4=true:=by decide
 rw[ma] at KA
 have h:b=0∨b=1∨b=2∨b=3∨b=4∨b=5:=by rcases hb with h|h<;>omega
 clear hb
 have c0:=hide (cov_0 w)
 have c1:=hide (cov_1 w)
 have c2:=hide (cov_2 w)
 have c3:=hide (cov_3 w)
 have c4:=hide (cov_4 w)
 have c5:=hide (cov_5 w)
 have m0:modeB 0=false:=by decide
 have m1:modeB 1=true:=by decide
 have m2:modeB 2=true:=by decide
 have m3:modeB 3=true:=by decide
 have m4:modeB 4=true:=by decide
 have m5:modeB 5=true:=by decide
 rcases h with rfl|rfl|rfl|rfl|rfl|rfl
 all_goals
  first|rw[m0] at KB|rw[m1] at KB|rw[m2] at KB|rw[m3] at KB|rw[m4] at KB|rw[m5] at KB
  clear m0 m1 m2 m3 m4 m5
  go_enter func27,ntmps27
  go_wp2_with (first|(go_at_call 24;with_reducible refine(KA.out).mono ?_;rintro e w' ⟨rfl,rfl⟩)|(go_at_call 24;with_reducible refine(KB.out).mono ?_;rintro e w' ⟨rfl,rfl⟩)|(go_at_call 62;(first|with_reducible refine(c0.out).mono ?_|with_reducible refine(c1.out).mono ?_|with_reducible refine(c2.out).mono ?_|with_reducible refine(c3.out).mono ?_|with_reducible refine(c4.out).mono ?_|with_reducible refine(c5.out).mono ?_);rintro e w' ⟨rfl,rfl⟩)|fail)
  try refine wp_loop_rounds 6 ?_
  repeat
   rw[rounds_succ]
   go_wp2_with (first|(go_at_call 24;with_reducible refine(KA.out).mono ?_;rintro e w' ⟨rfl,rfl⟩)|(go_at_call 24;with_reducible refine(KB.out).mono ?_;rintro e w' ⟨rfl,rfl⟩)|(go_at_call 62;(first|with_reducible refine(c0.out).mono ?_|with_reducible refine(c1.out).mono ?_|with_reducible refine(c2.out).mono ?_|with_reducible refine(c3.out).mono ?_|with_reducible refine(c4.out).mono ?_|with_reducible refine(c5.out).mono ?_);rintro e w' ⟨rfl,rfl⟩)|fail)
  go_ret
  exact⟨rfl,rfl⟩
theorem rjoins_5(b:Int)(hb:jm b)(w:World):Calls prog 27 #[I 5,I b] w fun e w'=>e=.returned (I (joinI 5 b))∧w'=w:=by
 have KA:=hide (rmode_any 5 w)
 have KB:=hide (rmode_any b w)
 have ma:modeB 5=true:=by decide
 rw[ma] at KA
 have h:b=0∨b=1∨b=2∨b=3∨b=4∨b=5:=by rcases hb with h|h<;>omega
 clear hb
 have c0:=hide (cov_0 w)
 have c1:=hide (cov_1 w)
 have c2:=hide (cov_2 w)
 have c3:=hide (cov_3 w)
 have c4:=hide (cov_4 w)
 have c5:=hide (cov_5 w)
 have m0:modeB 0=false:=by decide
 have m1:modeB 1=true:=by decide
 have m2:modeB 2=true:=by decide
 have m3:modeB 3=true:=by decide
 have m4:modeB 4=true:=by decide
 have m5:modeB 5=true:=by decide
 rcases h with rfl|rfl|rfl|rfl|rfl|rfl
 all_goals
  first|rw[m0] at KB|rw[m1] at KB|rw[m2] at KB|rw[m3] at KB|rw[m4] at KB|rw[m5] at KB
  clear m0 m1 m2 m3 m4 m5
  go_enter func27,ntmps27
  go_wp2_with (first|(go_at_call 24;with_reducible refine(KA.out).mono ?_;rintro e w' ⟨rfl,rfl⟩)|(go_at_call 24;with_reducible refine(KB.out).mono ?_;rintro e w' ⟨rfl,rfl⟩)|(go_at_call 62;(first|with_reducible refine(c0.out).mono ?_|with_reducible refine(c1.out).mono ?_|with_reducible refine(c2.out).mono ?_|with_reducible refine(c3.out).mono ?_|with_reducible refine(c4.out).mono ?_|with_reducible refine(c5.out).mono ?_);rintro e w' ⟨rfl,rfl⟩)|fail)
  try refine wp_loop_rounds 6 ?_
  repeat
   rw[rounds_succ]
   go_wp2_with (first|(go_at_call 24;with_reducible refine(KA.out).mono ?_;rintro e w' ⟨rfl,rfl⟩)|(go_at_call 24;with_reducible refine(KB.out).mono ?_;rintro e w' ⟨rfl,rfl⟩)|(go_at_call 62;(first|with_reducible refine(c0.out).mono ?_|with_reducible refine(c1.out).mono ?_|with_reducible refine(c2.out).mono ?_|with_reducible refine(c3.out).mono ?_|with_reducible refine(c4.out).mono ?_|with_reducible refine(c5.out).mono ?_);rintro e w' ⟨rfl,rfl⟩)|fail)
  go_ret
  exact⟨rfl,rfl⟩
end
end Go.Proofs.YtadfaiciolfgjaaGreatDoor
