import Derived.Test.YtadfaiciolfgjaaGreatDoorLk51
namespace Go.Proofs.YtadfaiciolfgjaaGreatDoor
open Go.Proofs.Tryz
set_option maxHeartbeats 1000000
set_option maxRecDepth 100000
section
open Go.RowKit
structure Iw(m:Ms)(L:List Int)(LR:List Rs):Prop where
 lv:∀x p,m.lv x=some p→PIv x p L LR
 st:∀x y p p',m.lv x=some p→m.lv y=some p'→p.stamp=p'.stamp→x=y
 qn:∀r,((m.qs r).map Prod.fst).Nodup
 qm:∀r x g,(x,g)∈m.qs r↔∃p,m.lv x=some p∧p.goal=g∧g≠0∧p.at_=r
 jw:∀r i x g p,(m.qs r)[i]?=some (x,g)→m.lv x=some p→p.hurt=false→∀y p',inW (m.hl r) (m.qs r) x g i y→m.lv y=some p'→p.stamp<p'.stamp→p'.wd x=true
 ft:∀r y z,y≠z→m.hl r y≠0→m.hl r z≠0→fitB (m.hl r y) (m.hl r z)=true
def BlA(m:Ms)(r:Rs)(a:Nat):Prop:=∀i x g,i<a→(m.qs r)[i]?=some (x,g)→∃y,inW (m.hl r) (m.qs r) x g i y
theorem Iv.w{m:Ms}{L:List Int}{LR:List Rs}(h:Iv m L LR):Iw m L LR:=⟨h.lv,h.st,h.qn,h.qm,h.jw,h.ft⟩
theorem Iw.v{m:Ms}{L:List Int}{LR:List Rs}(h:Iw m L LR)(hb:∀r,BlA m r (m.qs r).length):Iv m L LR:=
 ⟨h.lv,h.st,h.qn,h.qm,fun r i x g hq=>hb r i x g (List.getElem?_eq_some_iff.1 hq).1 hq,h.jw,h.ft⟩
theorem cut_at{qs:List (Int×Int)}{a:Nat}(ha:a≤qs.length)(i:Nat):(cutQ qs a)[i]?=if i<a then qs[i]? else qs[i+1]?:=by
 unfold cutQ
 by_cases h1:i<a
 ·rw[if_pos h1,List.getElem?_append_left (by rw[List.length_take];omega),List.getElem?_take,if_pos h1]
 ·rw[if_neg h1,List.getElem?_append_right (by rw[List.length_take];omega),List.length_take,Nat.min_eq_left ha,List.getElem?_drop]
  congr 1
  omega
theorem cut_sub(qs:List (Int×Int))(a:Nat):(cutQ qs a).Sublist qs:=by
 unfold cutQ
 have h1:(qs.drop (a+1)).Sublist (qs.drop a):=by rw[←List.drop_drop];exact List.drop_sublist _ _
 have h2:=(List.Sublist.refl (qs.take a)).append h1
 rw[List.take_append_drop] at h2
 exact h2
theorem cut_mem{qs:List (Int×Int)}{a:Nat}{y g:Int}(hq:qs[a]?=some (y,g))(hn:(qs.map Prod.fst).Nodup)(z g':Int):(z,g')∈cutQ qs a↔(z,g')∈qs∧z≠y:=by
 have ha:=(List.getElem?_eq_some_iff.1 hq).1
 constructor
 ·intro h
  refine⟨(cut_sub qs a).mem h,fun e=>?_⟩
  subst e
  obtain⟨i,hi⟩:=List.mem_iff_getElem?.1 h
  rw[cut_at (by omega)] at hi
  split at hi
  iterate 2
   ·have:=nodup_at hn hq hi;omega
 ·rintro⟨h,e⟩
  obtain⟨i,hi⟩:=List.mem_iff_getElem?.1 h
  by_cases h1:i<a
  ·exact List.mem_of_getElem? (i:=i) (by rw[cut_at (by omega),if_pos h1];exact hi)
  ·by_cases h2:i=a
   ·rw[h2,hq] at hi;cases hi;exact absurd rfl e
   ·exact List.mem_of_getElem? (i:=i-1) (by rw[cut_at (by omega),if_neg (by omega),show i-1+1=i by omega];exact hi)
theorem cut_len{qs:List (Int×Int)}{a:Nat}(ha:a<qs.length):(cutQ qs a).length=qs.length-1:=by
 unfold cutQ
 rw[List.length_append,List.length_take,List.length_drop];omega
def mServe(m:Ms)(y:Int)(p:Pm)(r:Rs)(g:Int)(a:Nat):Ms:=⟨upd m.lv y (some {p with hf:=upd p.hf r g,at_:=r0,goal:=0}),upd m.qs r (cutQ (m.qs r) a)⟩
section
variable {m:Ms} {L:List Int} {LR:List Rs} {y:Int} {p:Pm} {r:Rs} {g:Int} {a:Nat}
theorem mServe_hl(hp:m.lv y=some p):(mServe m y p r g a).hl r=upd (m.hl r) y g:=funext fun z=>by
 by_cases e:z=y
 ·subst e;rw[upd_same];simp[Ms.hl,mServe]
 ·rw[upd_other e];simp[Ms.hl,mServe,upd_other e]
theorem mServe_ho(hp:m.lv y=some p){r':Rs}(e:r'≠r):(mServe m y p r g a).hl r'=m.hl r':=funext fun z=>by
 by_cases e2:z=y
 ·subst e2;rw[hl_some hp];simp[Ms.hl,mServe,upd_other e]
 ·simp[Ms.hl,mServe,upd_other e2]
theorem mServe_y:(mServe m y p r g a).lv y=some {p with hf:=upd p.hf r g,at_:=r0,goal:=0}:=upd_same _ _ _
theorem mServe_z{z:Int}(e:z≠y):(mServe m y p r g a).lv z=m.lv z:=upd_other e
theorem mServe_q:(mServe m y p r g a).qs r=cutQ (m.qs r) a:=upd_same _ _ _
theorem mServe_qo{r':Rs}(e:r'≠r):(mServe m y p r g a).qs r'=m.qs r':=upd_other e
theorem mServe_of{z:Int}{q:Pm}(hp:m.lv y=some p)(h:(mServe m y p r g a).lv z=some q):∃b,m.lv z=some b∧q.stamp=b.stamp∧q.wd=b.wd:=by
 by_cases e:z=y
 ·subst e;rw[mServe_y] at h;cases h;exact⟨p,hp,rfl,rfl⟩
 ·rw[mServe_z e] at h;exact⟨q,h,rfl,rfl⟩
theorem iw_serve(h:Iw m L LR)(hq:(m.qs r)[a]?=some (y,g))(hp:m.lv y=some p)(hnb:¬∃z,inW (m.hl r) (m.qs r) y g a z):Iw (mServe m y p r g a) L LR:=by
 have ha:=(List.getElem?_eq_some_iff.1 hq).1
 have hpi:=h.lv y p hp
 obtain⟨hgo,hg0,hat⟩:p.goal=g∧g≠0∧p.at_=r:=by
  obtain⟨p',h1,h2,h3,h4⟩:=(h.qm r y g).1 (List.mem_of_getElem? hq)
  rw[hp] at h1;cases h1;exact⟨h2,h3,h4⟩
 obtain⟨hgm,hgr⟩:=hpi.g1 (by rw[hgo];exact hg0)
 rw[hgo] at hgm
 rw[hat] at hgr
 -- whose request is left
 have left:∀r' z g',(z,g')∈(mServe m y p r g a).qs r'↔(z,g')∈m.qs r'∧z≠y:=fun r' z g'=>by
  by_cases e:r'=r
  ·subst e;rw[mServe_q];exact cut_mem hq (h.qn r') z g'
  ·rw[mServe_qo e]
   refine⟨fun hh=>⟨hh,fun ez=>?_⟩,fun hh=>hh.1⟩
   subst ez
   obtain⟨p',h1,-,-,h4⟩:=(h.qm r' z g').1 hh
   rw[hp] at h1;cases h1
   exact e (h4.symm.trans hat)
 refine⟨fun z q hz=>?_,fun z u q q' hz hu e=>?_,fun r'=>?_,fun r' z g'=>?_,fun r' i z g' q hz hzl hh u q' hw hul hlt=>?_,fun r'=>?_⟩
 ·by_cases e:z=y
  ·subst e
   rw[mServe_y] at hz
   cases hz
   refine⟨hpi.x1,hpi.xr,hpi.xl,hpi.s1,hpi.wd,fun r' hr'=>?_,fun _=>rfl,fun hh=>absurd rfl hh,fun hh=>absurd rfl hh⟩
   by_cases e:r'=r
   ·subst e
    exact⟨by show modeB (upd p.hf r' g r')=true;rw[upd_same];exact hgm,hgr⟩
   ·have e2:upd p.hf r g r'=p.hf r':=upd_other e
    show modeB (upd p.hf r g r')=true∧_
    have hr2:upd p.hf r g r'≠0:=hr'
    rw[e2] at hr2⊢
    exact hpi.hf r' hr2
  ·rw[mServe_z e] at hz;exact h.lv z q hz
 ·obtain⟨b,h1,h2,-⟩:=mServe_of hp hz
  obtain⟨c,h3,h4,-⟩:=mServe_of hp hu
  exact h.st z u b c h1 h3 (by rw[←h2,←h4];exact e)
 ·by_cases e:r'=r
  ·subst e;rw[mServe_q];exact(h.qn r').sublist ((cut_sub _ _).map _)
  ·rw[mServe_qo e];exact h.qn r'
 ·rw[left]
  by_cases e:z=y
  ·subst e
   constructor
   ·rintro⟨-,hh⟩;exact absurd rfl hh
   ·rintro⟨q,hz,h1,h2,-⟩
    rw[mServe_y] at hz;cases hz
    exact absurd h1.symm h2
  ·rw[mServe_z e,h.qm r' z g']
   exact⟨fun hh=>hh.1,fun hh=>⟨hh,e⟩⟩
 ·have ezy:z≠y:=((left r' z g').1 (List.mem_of_getElem? hz)).2
  rw[mServe_z ezy] at hzl
  obtain⟨b,hb1,hb2,hb3⟩:=mServe_of hp hul
  rw[hb2] at hlt
  rw[hb3]
  by_cases e:r'=r
  ·subst e
   rw[mServe_q] at hz hw
   rw[mServe_hl hp] at hw
   have hz2:=hz
   rw[cut_at (by omega)] at hz2
   -- where it stood
   obtain⟨j,hj,hij⟩:∃j,(m.qs r')[j]?=some (z,g')∧(i<a∧j=i∨¬i<a∧j=i+1):=by
    by_cases hia:i<a
    ·rw[if_pos hia] at hz2;exact⟨i,hz2,.inl ⟨hia,rfl⟩⟩
    ·rw[if_neg hia] at hz2;exact⟨i+1,hz2,.inr ⟨hia,rfl⟩⟩
   refine h.jw r' j z g' q hj hzl hh u b ?_ hb1 hlt
   rcases hw with ⟨h1,h2,h3⟩|⟨k,g2,hk,hkq,hf⟩
   ·by_cases eu:u=y
    ·rw[eu,upd_same] at h3
     rcases hij with ⟨hia,rfl⟩|⟨hia,rfl⟩
     ·rw[fitB_symm] at h3
      exact absurd ⟨z,.inr ⟨j,g',hia,hj,h3⟩⟩ hnb
     ·exact .inr ⟨a,g,by omega,by rw[eu];exact hq,h3⟩
    ·rw[upd_other eu] at h1 h3
     exact .inl ⟨h1,h2,h3⟩
   ·rw[cut_at (by omega)] at hkq
    by_cases hka:k<a
    ·rw[if_pos hka] at hkq
     exact .inr ⟨k,g2,by omega,hkq,hf⟩
    ·rw[if_neg hka] at hkq
     exact .inr ⟨k+1,g2,by omega,hkq,hf⟩
  ·rw[mServe_qo e] at hz hw
   rw[mServe_ho hp e] at hw
   exact h.jw r' i z g' q hz hzl hh u b hw hb1 hlt
 ·by_cases e:r'=r
  ·subst e
   rw[mServe_hl hp]
   exact ft_upd (h.ft r') (fun z h1 h2=>by
    cases e4:fitB (m.hl r' z) g with
    | true=>rfl
    | false=>exact absurd ⟨z,.inl ⟨h1,h2,e4⟩⟩ hnb)
  ·rw[mServe_ho hp e];exact h.ft r'
theorem bla_serve(h:Iw m L LR)(hq:(m.qs r)[a]?=some (y,g))(hp:m.lv y=some p)(hb:BlA m r a):BlA (mServe m y p r g a) r a:=fun i z g' hi hz=>by
 have ha:=(List.getElem?_eq_some_iff.1 hq).1
 obtain⟨hgo,hg0,hat⟩:p.goal=g∧g≠0∧p.at_=r:=by
  obtain⟨p',h1,h2,h3,h4⟩:=(h.qm r y g).1 (List.mem_of_getElem? hq)
  rw[hp] at h1;cases h1;exact⟨h2,h3,h4⟩
 rw[mServe_q] at hz⊢
 rw[mServe_hl hp]
 rw[cut_at (by omega),if_pos hi] at hz
 obtain⟨u,hu⟩:=hb i z g' hi hz
 refine⟨u,?_⟩
 rcases hu with ⟨h1,h2,h3⟩|⟨k,g2,hk,hkq,hf⟩
 ·by_cases eu:u=y
  ·refine .inl ⟨by rw[eu,upd_same];exact hg0,h2,?_⟩
   rw[eu,upd_same,←hgo]
   rw[eu,hl_some hp,←hat] at h1 h3
   have hgz:modeB g'=true:=by
    obtain⟨q,h5,h6,h7,-⟩:=(h.qm r z g').1 (List.mem_of_getElem? hz)
    have:=((h.lv z q h5).g1 (by rw[h6];exact h7)).1
    rw[h6] at this;exact this
   exact(h.lv y p hp).up (by rw[hgo];exact hg0) h1 g' hgz h3
  ·exact .inl ⟨by rw[upd_other eu];exact h1,h2,by rw[upd_other eu];exact h3⟩
 ·exact .inr ⟨k,g2,hk,by rw[cut_at (by omega),if_pos (by omega)];exact hkq,hf⟩
theorem bla_other(hp:m.lv y=some p){r':Rs}(e:r'≠r){b:Nat}(hb:BlA m r' b):BlA (mServe m y p r g a) r' b:=fun i z g' hi hz=>by
 rw[mServe_qo e] at hz⊢
 rw[mServe_ho hp e]
 exact hb i z g' hi hz
end
end
section
open Go.RowKit
def noX(x:Int)(l:List (Int×Int)):List (Int×Int):=l.filter fun o=>o.1 != x
theorem noX_mem{x:Int}{l:List (Int×Int)}{o:Int×Int}:o∈noX x l↔o∈l∧o.1≠x:=by unfold noX;rw[List.mem_filter];simp
theorem noX_none{x:Int}{l:List (Int×Int)}(h:∀g,(x,g)∉l):noX x l=l:=List.filter_eq_self.2 (fun o ho=>by
 have:o.1≠x:=fun e=>h o.2 (by rw[←e];exact ho)
 simpa using this)
theorem noX_cut{x g:Int}{l:List (Int×Int)}{k:Nat}(hn:(l.map Prod.fst).Nodup)(hk:l[k]?=some (x,g)):noX x l=cutQ l k:=by
 obtain⟨hlt,hke⟩:=List.getElem?_eq_some_iff.1 hk
 have hsp:l=l.take k++(x,g)::l.drop (k+1):=by
  rw[←hke,←List.drop_eq_getElem_cons hlt,List.take_append_drop]
 have h1:(l.take k).filter (fun o=>o.1 != x)=l.take k:=List.filter_eq_self.2 (fun o ho=>by
  have:o.1≠x:=fun e=>by
   obtain⟨i,hi⟩:=List.mem_iff_getElem?.1 ho
   rw[List.getElem?_take] at hi
   by_cases hik:i<k
   ·rw[if_pos hik] at hi
    have hi2:l[i]?=some (x,o.2):=by rw[hi,←e]
    have:=nodup_at hn hi2 hk
    omega
   ·rw[if_neg hik] at hi;cases hi
  simpa using this)
 have h2:(l.drop (k+1)).filter (fun o=>o.1 != x)=l.drop (k+1):=List.filter_eq_self.2 (fun o ho=>by
  have:o.1≠x:=fun e=>by
   obtain⟨i,hi⟩:=List.mem_iff_getElem?.1 ho
   rw[List.getElem?_drop] at hi
   have hi2:l[k+1+i]?=some (x,o.2):=by rw[hi,←e]
   have:=nodup_at hn hi2 hk
   omega
  simpa using this)
 show l.filter (fun o=>o.1 != x)=cutQ l k
 unfold cutQ
 have h3:l.filter (fun o=>o.1 != x)=(l.take k++(x,g)::l.drop (k+1)).filter (fun o=>o.1 != x):=by rw[←hsp]
 rw[h3,List.filter_append,List.filter_cons_of_neg (by simp),h1,h2]
def mDel(m:Ms)(x:Int):Ms:=⟨upd m.lv x none,fun r=>noX x (m.qs r)⟩
section
variable {m:Ms} {L:List Int} {LR:List Rs} {x:Int} {p:Pm}
theorem mDel_hl(r:Rs):(mDel m x).hl r=upd (m.hl r) x 0:=funext fun z=>by
 by_cases e:z=x
 ·subst e;rw[upd_same];simp[Ms.hl,mDel]
 ·rw[upd_other e];simp[Ms.hl,mDel,upd_other e]
theorem mDel_lv{z:Int}{q:Pm}:(mDel m x).lv z=some q↔z≠x∧m.lv z=some q:=by
 by_cases e:z=x
 ·subst e
  have:(mDel m z).lv z=none:=upd_same _ _ _
  rw[this]
  constructor
  ·intro h;cases h
  ·rintro⟨h,-⟩;exact absurd rfl h
 ·have:(mDel m x).lv z=m.lv z:=upd_other e
  rw[this]
  exact⟨fun h=>⟨e,h⟩,fun h=>h.2⟩
theorem del_way(h:Iv m L LR){r:Rs}{i:Nat}{z g:Int}(hz:((mDel m x).qs r)[i]?=some (z,g)):z≠x∧∃j,(m.qs r)[j]?=some (z,g)∧∀u,inW ((mDel m x).hl r) ((mDel m x).qs r) z g i u→inW (m.hl r) (m.qs r) z g j u:=by
 have hzx:z≠x:=(noX_mem.1 (List.mem_of_getElem? hz)).2
 refine⟨hzx,?_⟩
 have hold:∀u,inW1 ((mDel m x).hl r) z g u→inW1 (m.hl r) z g u:=by
  rintro u ⟨h1,h2,h3⟩
  rw[mDel_hl] at h1 h3
  by_cases e:u=x
  ·rw[e,upd_same] at h1;exact absurd rfl h1
  ·rw[upd_other e] at h1 h3;exact⟨h1,h2,h3⟩
 by_cases hx:∃g',(x,g')∈m.qs r
 ·obtain⟨g',hx⟩:=hx
  obtain⟨k,hk⟩:=List.mem_iff_getElem?.1 hx
  have hkl:=(List.getElem?_eq_some_iff.1 hk).1
  have e:(mDel m x).qs r=cutQ (m.qs r) k:=noX_cut (h.qn r) hk
  rw[e] at hz⊢
  rw[cut_at (by omega)] at hz
  by_cases hik:i<k
  ·rw[if_pos hik] at hz
   refine⟨i,hz,?_⟩
   rintro u (hu|⟨j,g2,hj,hq,hf⟩)
   ·exact .inl (hold u hu)
   ·rw[cut_at (by omega),if_pos (by omega)] at hq
    exact .inr ⟨j,g2,hj,hq,hf⟩
  ·rw[if_neg hik] at hz
   refine⟨i+1,hz,?_⟩
   rintro u (hu|⟨j,g2,hj,hq,hf⟩)
   ·exact .inl (hold u hu)
   ·rw[cut_at (by omega)] at hq
    by_cases hjk:j<k
    ·rw[if_pos hjk] at hq;exact .inr ⟨j,g2,by omega,hq,hf⟩
    ·rw[if_neg hjk] at hq;exact .inr ⟨j+1,g2,by omega,hq,hf⟩
 ·have e:(mDel m x).qs r=m.qs r:=noX_none (fun g' hg=>hx ⟨g',hg⟩)
  rw[e] at hz⊢
  refine⟨i,hz,?_⟩
  rintro u (hu|hu)
  ·exact .inl (hold u hu)
  ·exact .inr hu
theorem iw_del(h:Iv m L LR):Iw (mDel m x) L LR:=by
 refine⟨fun z q hz=>h.lv z q (mDel_lv.1 hz).2,fun z u q q' hz hu e=>h.st z u q q' (mDel_lv.1 hz).2 (mDel_lv.1 hu).2 e,fun r=>(h.qn r).sublist (List.filter_sublist.map _),fun r z g=>?_,fun r i z g q hz hzl hh u q' hw hul hlt=>?_,fun r y z e h1 h2=>?_⟩
 ·have:(z,g)∈(mDel m x).qs r↔_:=noX_mem
  rw[this,h.qm r z g]
  constructor
  ·rintro⟨⟨q,h1,h2⟩,h3⟩;exact⟨q,mDel_lv.2 ⟨h3,h1⟩,h2⟩
  ·rintro⟨q,h1,h2⟩;exact⟨⟨q,(mDel_lv.1 h1).2,h2⟩,(mDel_lv.1 h1).1⟩
 ·obtain⟨-,j,hj,hway⟩:=del_way h hz
  exact h.jw r j z g q hj (mDel_lv.1 hzl).2 hh u q' (hway u hw) (mDel_lv.1 hul).2 hlt
 ·rw[mDel_hl] at h1 h2⊢
  have e1:y≠x:=fun e1=>by rw[e1,upd_same] at h1;exact h1 rfl
  have e2:z≠x:=fun e2=>by rw[e2,upd_same] at h2;exact h2 rfl
  rw[upd_other e1] at h1⊢
  rw[upd_other e2] at h2⊢
  exact h.ft r y z e h1 h2
theorem bla_del(h:Iv m L LR){r:Rs}(h0:m.hl r x=0)(hq:∀g,(x,g)∉m.qs r)(a:Nat):BlA (mDel m x) r a:=by
 have e1:(mDel m x).qs r=m.qs r:=noX_none hq
 have e2:(mDel m x).hl r=m.hl r:=by
  rw[mDel_hl]
  refine funext fun z=>?_
  by_cases e:z=x
  ·rw[e,upd_same,h0]
  ·rw[upd_other e]
 intro i z g hi hz
 rw[e1] at hz⊢
 rw[e2]
 exact h.bl r i z g hz
end
noncomputable def srvM(r:Rs):Nat→Ms→Nat→List Int→Ms×List Int
 | 0,m,_,out=>(m,out)
 | f+1,m,a,out=>match (m.qs r)[a]? with
  | none=>(m,out)
  | some (y,g)=>@ite _ (∃z,inW (m.hl r) (m.qs r) y g a z) (Classical.propDecidable _) (srvM r f m (a+1) out) (match m.lv y with
   | none=>(m,out)
   | some p=>srvM r f (mServe m y p r g a) a (out++[y]))
theorem srvM_blk{r:Rs}{f:Nat}{m:Ms}{a:Nat}{out:List Int}{y g:Int}(hq:(m.qs r)[a]?=some (y,g))(hb:∃z,inW (m.hl r) (m.qs r) y g a z):srvM r (f+1) m a out=srvM r f m (a+1) out:=by
 simp only[srvM,hq]
 exact @if_pos _ (Classical.propDecidable _) hb _ _ _
theorem srvM_get{r:Rs}{f:Nat}{m:Ms}{a:Nat}{out:List Int}{y g:Int}{p:Pm}(hq:(m.qs r)[a]?=some (y,g))(hb:¬∃z,inW (m.hl r) (m.qs r) y g a z)(hp:m.lv y=some p):srvM r (f+1) m a out=srvM r f (mServe m y p r g a) a (out++[y]):=by
 simp only[srvM,hq,hp]
 exact @if_neg _ (Classical.propDecidable _) hb _ _ _
noncomputable def endF(t:Ms×List Int)(r:Rs):Ms×List Int:=((srvM r (t.1.qs r).length t.1 0 []).1,t.2++(srvM r (t.1.qs r).length t.1 0 []).2)
noncomputable def endM(m:Ms)(x:Int)(rs:List Rs):Ms×List Int:=rs.foldl endF (mDel m x,[])
theorem endM_step{m:Ms}{x:Int}{rs:List Rs}{n:Nat}{r:Rs}(h:rs[n]?=some r):endM m x (rs.take (n+1))=endF (endM m x (rs.take n)) r:=by
 unfold endM
 rw[List.take_add_one,h,List.foldl_append]
 rfl
end
section
open Go.RowKit
structure AbsE(s:Gs)(m m0:Ms)(x:Int)(rest:List Rs)(cur:Option Rs):Prop where
 lv:∀y,(s.lv y).map Pt.m=m.lv y
 yes:∀r q,r∉rest→s.pl r=some q→q.hf=m.hl r∧q.qs=m.qs r∧(cur≠some r→∃y,m.hl r y≠0)
 no:∀r,r∉rest→s.pl r=none→(∀y,m.hl r y=0)∧m.qs r=[]
 old:∀r,r∈rest→(∃q,s.pl r=some q∧q.hf=m0.hl r∧q.qs=m0.qs r)∧m.hl r=upd (m0.hl r) x 0∧m.qs r=noX x (m0.qs r)
theorem Iw.len{m:Ms}{L:List Int}{LR:List Rs}(h:Iw m L LR)(r:Rs):(m.qs r).length≤L.length:=by
 have h1:=nodup_len _ L (h.qn r) (fun y hy=>by
  obtain⟨⟨y',g⟩,hm,rfl⟩:=List.mem_map.1 hy
  obtain⟨p,hp,-⟩:=(h.qm r y' g).1 hm
  exact(h.lv y' p hp).xl)
 rw[List.length_map] at h1
 exact h1
def Pm.got(b:Pm):Pm:={b with hf:=upd b.hf b.at_ b.goal,at_:=r0,goal:=0}
structure SvI(s5:Gs)(m1 m0:Ms)(x:Int)(r:Rs)(rest:List Rs)(L:List Int)(LR:List Rs)(out0:List Int)(B:Nat)(s:Gs)(a:Nat)(out:List Int)(m:Ms):Prop where
 own:s.own=s5.own
 ab:AbsE s m m0 x rest (some r)
 pl:∃q,s.pl r=some q∧q.blk=B
 iw:Iw m L LR
 bl:BlA m r a
 al:a≤(m.qs r).length
 eq:srvM r ((m.qs r).length-a) m a out=srvM r (m1.qs r).length m1 0 []
 nd:(out0++out).Nodup
 oo:∀y∈out0++out,∃p,m.lv y=some p∧p.goal=0
 ot:∀r',r'≠r→∀b,BlA m1 r' b→BlA m r' b
 oq:∀r',r'≠r→m.qs r'=m1.qs r'
 lve:∀z,m.lv z=if z∈out0++out then((mDel m0 x).lv z).map Pm.got else(mDel m0 x).lv z
 gn:∀y∈out0++out,∃b,(mDel m0 x).lv y=some b∧b.goal≠0
theorem srv_ok{s5:Gs}{m1 m0:Ms}{x:Int}{r:Rs}{rest:List Rs}{L:List Int}{LR:List Rs}{out0:List Int}{B:Nat}(hL:L.length<4099999999999)(hr:r∉rest):SrvG (fun s a out=>∃m,SvI s5 m1 m0 x r rest L LR out0 B s a out m) s5 r B L LR:=by
 rintro s a out ⟨m,h⟩
 obtain⟨q,hq,hqb⟩:=h.pl
 obtain⟨h1,h2,-⟩:=h.ab.yes r q hr hq
 have hlen:=h.iw.len r
 have hout:out.length<4099999999999:=by
  have h3:=nodup_len _ L h.nd (fun y hy=>by
   obtain⟨p,hp,-⟩:=h.oo y hy
   exact(h.iw.lv y p hp).xl)
  rw[List.length_append] at h3
  omega
 refine⟨h.own,hout,q,hq,hqb,fun z hz=>?_,by rw[h2];omega,by rw[h2];exact h.al,fun y g hy=>?_⟩
 ·rw[h1] at hz
  obtain⟨p,hp,-⟩:=hl_live hz
  exact⟨(h.iw.lv z p hp).xl,(h.iw.lv z p hp).xr⟩
 ·rw[h2] at hy
  have hal:=(List.getElem?_eq_some_iff.1 hy).1
  obtain⟨pm,hpm,hgo,hg0,hat⟩:=(h.iw.qm r y g).1 (List.mem_of_getElem? hy)
  obtain⟨p,hp,hpe⟩:∃p,s.lv y=some p∧p.m=pm:=by
   have:=h.ab.lv y
   rw[hpm] at this
   cases e:s.lv y with
   | none=>rw[e] at this;cases this
   | some p=>rw[e] at this;exact⟨p,rfl,by simpa using this⟩
  have hpi:=h.iw.lv y pm hpm
  refine⟨hpi.xr,hg0,p,hp,fun z hz=>?_,fun hb=>?_,fun hb v'=>?_⟩
  ·exact(hpi.hf z (by rw[←hpe];exact hz)).2.1
  ·have hex:∃z,inW (m.hl r) (m.qs r) y g a z:=by
    rw[←h1,←h2]
    cases Classical.em (∃z,inW q.hf q.qs y g a z)with
    | inl hh=>exact hh
    | inr hh=>rw[blkB_no hh] at hb;cases hb
   refine⟨m,h.own,h.ab,⟨q,hq,hqb⟩,h.iw,fun i z g' hi hz=>?_,by omega,?_,h.nd,h.oo,h.ot,h.oq,h.lve,h.gn⟩
   ·by_cases e:i<a
    ·exact h.bl i z g' e hz
    ·have e2:i=a:=by omega
     subst e2
     rw[hy] at hz
     cases hz
     exact hex
   ·have h3:=h.eq
    rw[show(m.qs r).length-a=((m.qs r).length-(a+1))+1 by omega,srvM_blk hy hex] at h3
    exact h3
  ·have hex:¬∃z,inW (m.hl r) (m.qs r) y g a z:=fun hh=>by
    rw[←h1,←h2] at hh
    rw[blkB_yes hh] at hb;cases hb
   have hne:∀{r':Rs},r'∈rest→r'≠r:=fun hh e=>hr (by rw[←e];exact hh)
   rw[Gs.setPl_setPl]
   refine⟨mServe m y pm r g a,h.own,⟨fun z=>?_,fun r' q' hr' hq'=>?_,fun r' hr' hq'=>?_,fun r' hr'=>?_⟩,⟨_,by simp[Gs.setPl,Gs.setPt];rfl,by simp[Pl.hold,hqb]⟩,iw_serve h.iw hy hpm hex,bla_serve h.iw hy hpm h.bl,?_,?_,?_,fun z hz=>?_,fun r' e b hb'=>bla_other hpm e (h.ot r' e b hb'),fun r' e=>by rw[mServe_qo e];exact h.oq r' e,fun z=>?_,fun z hz=>?_⟩
   ·by_cases e:z=y
    ·subst e
     rw[mServe_y,←hpe]
     simp[Gs.setPl,Gs.setPt,Pt.m,Pt.hold,Pt.rest]
    ·rw[mServe_z e]
     simp[Gs.setPl,Gs.setPt,upd_other e]
     exact h.ab.lv z
   ·by_cases e:r'=r
    ·subst e
     simp[Gs.setPl,Gs.setPt] at hq'
     subst hq'
     refine⟨?_,?_,fun hh=>absurd rfl hh⟩
     ·rw[mServe_hl hpm,←h1];rfl
     ·rw[mServe_q,←h2];rfl
    ·simp[Gs.setPl,Gs.setPt,upd_other e] at hq'
     rw[mServe_ho hpm e,mServe_qo e]
     exact h.ab.yes r' q' hr' hq'
   ·by_cases e:r'=r
    ·subst e
     simp[Gs.setPl,Gs.setPt] at hq'
    ·simp[Gs.setPl,Gs.setPt,upd_other e] at hq'
     rw[mServe_ho hpm e,mServe_qo e]
     exact h.ab.no r' hr' hq'
   ·have e:=hne hr'
    rw[mServe_ho hpm e,mServe_qo e]
    simp[Gs.setPl,Gs.setPt,upd_other e]
    exact h.ab.old r' hr'
   ·rw[mServe_q,cut_len hal];omega
   ·rw[mServe_q,cut_len hal]
    have h3:=h.eq
    rw[show(m.qs r).length-a=((m.qs r).length-1-a)+1 by omega,srvM_get hy hex hpm] at h3
    exact h3
   ·rw[←List.append_assoc,List.nodup_append]
    refine⟨h.nd,by simp,fun u hu c hc e=>?_⟩
    simp at hc
    subst hc e
    obtain⟨p',hp',hg'⟩:=h.oo u hu
    rw[hpm] at hp'
    cases hp'
    exact hg0 (hgo.symm.trans hg')
   ·by_cases e:z=y
    ·subst e;exact⟨_,mServe_y,rfl⟩
    ·rw[mServe_z e]
     rw[←List.append_assoc,List.mem_append,List.mem_singleton] at hz
     rcases hz with hz|hz
     ·exact h.oo z hz
     ·exact absurd hz e
   ·have hny:y∉out0++out:=fun hh=>by
     obtain⟨p',hp',hg'⟩:=h.oo y hh
     rw[hpm] at hp'
     cases hp'
     exact hg0 (hgo.symm.trans hg')
    rw[←List.append_assoc]
    by_cases e:z=y
    ·subst e
     have h3:=h.lve z
     rw[if_neg hny,hpm] at h3
     rw[mServe_y,if_pos (List.mem_append_right _ (List.mem_singleton.2 rfl)),←h3]
     simp[Pm.got,hgo,hat]
    ·rw[mServe_z e,h.lve z]
     have:z∈out0++out++[y]↔z∈out0++out:=by
      rw[List.mem_append,List.mem_singleton]
      exact⟨fun hh=>hh.resolve_right e,.inl⟩
     by_cases hz:z∈out0++out
     ·rw[if_pos hz,if_pos (this.2 hz)]
     ·rw[if_neg hz,if_neg (fun hh=>hz (this.1 hh))]
   ·rw[←List.append_assoc,List.mem_append,List.mem_singleton] at hz
    rcases hz with hz|hz
    ·exact h.gn z hz
    ·subst hz
     have hny:z∉out0++out:=fun hh=>by
      obtain⟨p',hp',hg'⟩:=h.oo z hh
      rw[hpm] at hp'
      cases hp'
      exact hg0 (hgo.symm.trans hg')
     have h3:=h.lve z
     rw[if_neg hny,hpm] at h3
     exact⟨pm,h3.symm,by rw[hgo];exact hg0⟩
end
section
open Go.RowKit
theorem AbsE.leave{s:Gs}{m m0:Ms}{x:Int}{r:Rs}{rest:List Rs}(h:AbsE s m m0 x (r::rest) none)(hr:r∉rest){q q5:Pl}(hq:s.pl r=some q)(e1:q5.hf=upd q.hf x 0)(e2:q5.qs=noX x q.qs):AbsE (s.setPl r q5) m m0 x rest (some r):=by
 obtain⟨⟨q',hq',h1,h2⟩,h3,h4⟩:=h.old r (List.mem_cons_self ..)
 rw[hq] at hq'
 cases hq'
 refine⟨h.lv,fun r' q' hr' hq'=>?_,fun r' hr' hq'=>?_,fun r' hr'=>?_⟩
 ·by_cases e:r'=r
  ·subst e
   simp[Gs.setPl] at hq'
   subst hq'
   exact⟨by rw[e1,h3,h1],by rw[e2,h4,h2],fun hh=>absurd rfl hh⟩
  ·simp[Gs.setPl,upd_other e] at hq'
   obtain⟨g1,g2,g3⟩:=h.yes r' q' (by simp[e,hr']) hq'
   exact⟨g1,g2,fun _=>g3 (by simp)⟩
 ·by_cases e:r'=r
  ·subst e
   simp[Gs.setPl] at hq'
  ·simp[Gs.setPl,upd_other e] at hq'
   exact h.no r' (by simp[e,hr']) hq'
 ·have e:r'≠r:=fun e=>hr (by rw[←e];exact hr')
  simp[Gs.setPl,upd_other e]
  exact h.old r' (List.mem_cons_of_mem _ hr')
theorem AbsE.served{s:Gs}{m m0:Ms}{x:Int}{r:Rs}{rest:List Rs}(h:AbsE s m m0 x rest (some r))(hr:r∉rest){q:Pl}(hq:s.pl r=some q)(hb:BlA m r (m.qs r).length):AbsE (endPl s r q) m m0 x rest none:=by
 obtain⟨h1,h2,-⟩:=h.yes r q hr hq
 by_cases hz:∃z,q.hf z≠0
 ·rw[endPl_yes hz]
  refine⟨h.lv,fun r' q' hr' hq'=>?_,h.no,h.old⟩
  obtain⟨g1,g2,g3⟩:=h.yes r' q' hr' hq'
  refine⟨g1,g2,fun _=>?_⟩
  by_cases e:r'=r
  ·subst e;rw[←h1];exact hz
  ·exact g3 (fun e2=>e (Option.some.inj e2).symm)
 ·rw[endPl_no hz]
  have hall:∀y,m.hl r y=0:=fun y=>Decidable.byContradiction fun hh=>hz ⟨y,by rw[h1];exact hh⟩
  refine⟨h.lv,fun r' q' hr' hq'=>?_,fun r' hr' hq'=>?_,fun r' hr'=>?_⟩
  ·by_cases e:r'=r
   ·subst e;simp[Gs.delPl] at hq'
   ·simp[Gs.delPl,upd_other e] at hq'
    obtain⟨g1,g2,g3⟩:=h.yes r' q' hr' hq'
    exact⟨g1,g2,fun _=>g3 (fun e2=>e (Option.some.inj e2).symm)⟩
  ·by_cases e:r'=r
   ·subst e
    refine⟨hall,?_⟩
    cases e2:m.qs r' with
    | nil=>rfl
    | cons o os=>
     obtain⟨u,hu⟩:=hb 0 o.1 o.2 (by rw[e2];simp) (by rw[e2];rfl)
     rcases hu with ⟨g1,-⟩|⟨k,-,hk,-⟩
     ·exact absurd (hall u) g1
     ·omega
   ·simp[Gs.delPl,upd_other e] at hq'
    exact h.no r' hr' hq'
  ·have e:r'≠r:=fun e=>hr (by rw[←e];exact hr')
   simp[Gs.delPl,upd_other e]
   exact h.old r' hr'
def EndR(s:Gs)(m:Ms)(x:Int)(rs:List Rs)(L:List Int)(LR:List Rs)(s':Gs)(out:List Int):Prop:=s'.own=s.own∧∃m',endM m x rs=(m',out)∧Abs s' m'∧Iv m' L LR∧out.Nodup∧(∀y∈out,∃p,m'.lv y=some p∧p.goal=0)∧(∀z,m'.lv z=if z∈out then((mDel m x).lv z).map Pm.got else(mDel m x).lv z)∧∀y∈out,∃b,(mDel m x).lv y=some b∧b.goal≠0
theorem end_ok{t:Nat}{s:Gs}{x:Int}{p:Pt}{m:Ms}{L:List Int}{LR:List Rs}(hA:Abs s m)(hI:Iv m L LR)(hp:s.lv x=some p)(hL:L.length<4099999999999)(hLR:LR.length<4099999999999)(hgl:s.own 1=none∧s.own 0=none)(rs:List Rs)(hnd:rs.Nodup)(hmem:∀r,r∈rs↔p.hf r≠0∨(p.goal≠0∧r=p.at_)):EndOk t x (s.delPt x) rs (EndR s m x rs L LR):=by
 have hpm:=hA.at hp
 have hpi:=hI.lv x p.m hpm
 have hmx:(4099999999999:Nat)≤maxLen:=of_decide_eq_true (by kernel_rfl)
 have hreq:∀r g,(x,g)∈m.qs r→r∈rs:=fun r g hq=>by
  obtain⟨p',h1,h2,h3,h4⟩:=(hI.qm r x g).1 hq
  rw[hpm] at h1;cases h1
  exact(hmem r).2 (.inr ⟨by rw[show p.goal=g from h2];exact h3,h4.symm⟩)
 have hgood:∀r∈rs,GoodR r LR:=fun r hr=>by
  rcases(hmem r).1 hr with hh|⟨h1,h2⟩
  ·exact(hpi.hf r hh).2
  ·rw[h2];exact(hpi.g1 h1).2
 refine⟨fun n s' out=>s'.own=s.own∧∃m',endM m x (rs.take n)=(m',out)∧AbsE s' m' m x (rs.drop n) none∧Iw m' L LR∧(∀r,r∉rs.drop n→BlA m' r (m'.qs r).length)∧out.Nodup∧(∀y∈out,∃p,m'.lv y=some p∧p.goal=0)∧(∀z,m'.lv z=if z∈out then((mDel m x).lv z).map Pm.got else(mDel m x).lv z)∧∀y∈out,∃b,(mDel m x).lv y=some b∧b.goal≠0,⟨rfl,mDel m x,rfl,⟨fun y=>?_,fun r q hr hq=>?_,fun r hr hq=>?_,fun r hr=>?_⟩,iw_del hI,fun r hr=>?_,List.nodup_nil,(fun y hy=>by cases hy),fun z=>by simp,fun y hy=>by cases hy⟩,?_,?_⟩
 ·by_cases e:y=x
  ·subst e;simp[Gs.delPt,mDel]
  ·simp[Gs.delPt,mDel,upd_other e];exact hA.lv y
 ·obtain⟨h1,h2,h3⟩:=hA.yes r q hq
  rw[List.drop_zero] at hr
  have h0:m.hl r x=0:=Decidable.byContradiction fun hh=>hr ((hmem r).2 (.inl (by rw[hl_some hpm] at hh;exact hh)))
  have e2:(mDel m x).hl r=m.hl r:=by
   rw[mDel_hl]
   refine funext fun z=>?_
   by_cases e:z=x
   ·rw[e,upd_same,h0]
   ·rw[upd_other e]
  rw[e2]
  exact⟨h1,h2.trans (noX_none (fun g hg=>hr (hreq r g hg))).symm,fun _=>h3⟩
 ·obtain⟨h1,h2⟩:=hA.no r hq
  refine⟨fun y=>?_,?_⟩
  ·rw[mDel_hl]
   by_cases e:y=x
   ·rw[e,upd_same]
   ·rw[upd_other e];exact h1 y
  ·show noX x (m.qs r)=[]
   rw[h2];rfl
 ·rw[List.drop_zero] at hr
  refine⟨?_,mDel_hl r,rfl⟩
  cases e:s.pl r with
  | some q=>exact⟨q,e,(hA.yes r q e).1,(hA.yes r q e).2.1⟩
  | none=>
   obtain⟨h1,h2⟩:=hA.no r e
   exfalso
   rcases(hmem r).1 hr with hh|⟨hh,hh2⟩
   ·have:=h1 x
    rw[hl_some hpm] at this
    exact hh this
   ·have:=(hI.qm r x p.goal).2 ⟨p.m,hpm,rfl,hh,hh2.symm⟩
    rw[h2] at this;cases this
 ·rw[List.drop_zero] at hr
  exact bla_del hI (Decidable.byContradiction fun hh=>hr ((hmem r).2 (.inl (by rw[hl_some hpm] at hh;exact hh)))) (fun g hg=>hr (hreq r g hg)) _
 ·rintro s' out ⟨ho,m',he,hE,hW,hB,hn,hoo,hle,hgn⟩
  rw[List.take_length] at he
  rw[List.drop_length] at hE hB
  refine⟨ho,m',he,⟨hE.lv,fun r q hq=>?_,fun r hq=>hE.no r (by simp) hq⟩,hW.v (fun r=>hB r (by simp)),hn,hoo,hle,hgn⟩
  obtain⟨h1,h2,h3⟩:=hE.yes r q (by simp) hq
  exact⟨h1,h2,h3 (by simp)⟩
 ·rintro n r s' out hr ⟨ho,m',he,hE,hW,hB,hn,hoo,hle,hgn⟩
  obtain⟨hlt,hre⟩:=List.getElem?_eq_some_iff.1 hr
  have hdr:rs.drop n=r::rs.drop (n+1):=by rw[←hre];exact List.drop_eq_getElem_cons hlt
  have hrr:r∈rs:=List.mem_of_getElem? hr
  have hrn:r∉rs.drop (n+1):=by
   have h1:(rs.drop n).Nodup:=hnd.sublist (List.drop_sublist _ _)
   rw[hdr] at h1
   exact(List.nodup_cons.1 h1).1
  rw[hdr] at hE hB
  obtain⟨⟨q,hq,hq1,hq2⟩,hq3,hq4⟩:=hE.old r (List.mem_cons_self ..)
  have hqn:(q.qs.map Prod.fst).Nodup:=by rw[hq2];exact hI.qn r
  have hql:q.qs.length<4099999999999:=by rw[hq2];exact Nat.lt_of_le_of_lt (hI.w.len r) hL
  refine⟨(hgood r hrr).2.1,q,fun s5=>s5.own=s.own∧AbsE s5 m' m x (rs.drop (n+1)) (some r)∧∃q5,s5.pl r=some q5,hq,fun W hT=>?_,?_⟩
  ·by_cases hx:∃g,(x,g)∈q.qs
   ·obtain⟨g,hx⟩:=hx
    obtain⟨k,hk⟩:=List.mem_iff_getElem?.1 hx
    have hkl:=(List.getElem?_eq_some_iff.1 hk).1
    refine(leave_req t s' x r q W hT hpi.xr hq k hkl (fun o ho2=>by rw[hk] at ho2;cases ho2;rfl) (fun j o hj ho2 e=>hj (nodup_at hqn (show q.qs[j]?=some (x,o.2) by rw[ho2,←e]) hk)) (by omega)).mono ?_
    rintro e w' ⟨rfl,v',T1,E1⟩
    exact⟨rfl,s'.setPl r {q.hold x 0 with q:=v',qs:=cutQ q.qs k},⟨ho,hE.leave (q5:={q.hold x 0 with q:=v',qs:=cutQ q.qs k}) hrn hq rfl (noX_cut hqn hk).symm,_,upd_same _ _ _⟩,rfl,rfl,⟨_,upd_same _ _ _,rfl⟩,T1,E1⟩
   ·refine(leave_none t s' x r q W hT hpi.xr hq (fun o ho2 e=>hx ⟨o.2,by rw[←e];exact ho2⟩) (by omega)).mono ?_
    rintro e w' ⟨rfl,T1,E1⟩
    exact⟨rfl,s'.setPl r (q.hold x 0),⟨ho,hE.leave (q5:=q.hold x 0) hrn hq rfl (noX_none (fun g hg=>hx ⟨g,hg⟩)).symm,_,upd_same _ _ _⟩,rfl,rfl,⟨_,upd_same _ _ _,rfl⟩,T1,E1⟩
  ·rintro s5 ⟨ho5,hE5,q5,hq5⟩ w3 hT3 hTb3
   refine(serve_gen t s5 r q5 w3 (fun s a o=>∃m'',SvI s5 m' m x r (rs.drop (n+1)) L LR out q5.blk s a o m'') L LR hT3 hTb3 (by rw[ho5];exact hgl) (hgood r hrr).2.1 hq5 ⟨m',rfl,hE5,⟨q5,hq5,rfl⟩,hW,fun i _ _ hi=>absurd hi (Nat.not_lt_zero i),Nat.zero_le _,rfl,by rw[List.append_nil];exact hn,by rw[List.append_nil];exact hoo,fun _ _ _ hb=>hb,fun _ _=>rfl,by rw[List.append_nil];exact hle,by rw[List.append_nil];exact hgn⟩ (srv_ok hL hrn) (by omega) (by omega)).mono ?_
   rintro e w' ⟨u,s6,a,zs,q6,rfl,⟨m6,h6⟩,hq6,ha,hrow,T6,E6⟩
   obtain⟨g1,g2,-⟩:=h6.ab.yes r q6 hrn hq6
   have ha6:a=(m6.qs r).length:=by rw[ha,g2]
   have heq:=h6.eq
   rw[ha6,Nat.sub_self] at heq
   have heq:(m6,zs)=srvM r (m'.qs r).length m' 0 []:=heq
   have hlen:=nodup_len _ L h6.nd (fun y hy=>by
    obtain⟨p',hp',-⟩:=h6.oo y hy
    exact(h6.iw.lv y p' hp').xl)
   rw[List.length_append] at hlen
   have hbl:=h6.bl
   rw[ha6] at hbl
   have hown:(endPl s6 r q6).own=s6.own:=by
    by_cases hz:∃z,q6.hf z≠0
    ·rw[endPl_yes hz]
    ·rw[endPl_no hz];rfl
   refine⟨u,zs,endPl s6 r q6,rfl,by omega,hrow,T6,E6,by rw[hown,h6.own,ho5],m6,?_,h6.ab.served hrn hq6 hbl,h6.iw,fun r' hr'=>?_,h6.nd,h6.oo,h6.lve,h6.gn⟩
   ·rw[endM_step hr,he]
    unfold endF
    rw[←heq]
   ·by_cases e:r'=r
    ·rw[e];exact hbl
    ·rw[h6.oq r' e]
     exact h6.ot r' e _ (hB r' (by simp[e,hr']))
end
section
open Go.RowKit
def Newly(m m':Ms)(y:Int):Prop:=∃b b',m.lv y=some b∧m'.lv y=some b'∧b.hurt=false∧b'.hurt=true
def AskT(m:Ms)(x:Int)(p:Pm)(r:Rs)(g:Int)(k:Int)(l:List Int)(m':Ms):Prop:=
 (((¬∃y,inW (m.hl r) (m.qs r) x g (turnM m r x) y)∧k=1∧m'=mGrant m x p r g (turnM m r x))∨((∃y,inW (m.hl r) (m.qs r) x g (turnM m r x) y)∧k=2∧m'=mWait m x p r g (turnM m r x)))∧
 l.Pairwise (·<·)∧∀y,y∈l↔Newly m m' y
theorem srt_lt{zs:List Int}(h:zs.Nodup):(srt zs).Pairwise (·<·):=by
 have h1:=srt_up zs
 have h2:(srt zs).Nodup:=(srt_perm zs).nodup_iff.2 h
 exact(h1.and h2).imp (fun ⟨a,b⟩=>by omega)
section
variable {s s1:Gs} {m:Ms} {p:Pt}
theorem can_same(hl:s1.lv=s.lv)(hA:Abs s m)(st g:Int)(o:Int×Int):canB s1 st g o=canM m st g o:=by
 unfold canB canM
 rw[hl,←hA.lv]
 cases s.lv o.1 with
 | none=>rfl
 | some b=>simp only[Option.map_some,Pt.m_hurt];rfl
theorem hits_ag(s1:Gs)(g:Int):∀(l:List (Int×Int)) (p:Pt),(hitsL s1 g p l).at_=p.at_∧(hitsL s1 g p l).goal=p.goal
 | [],_=>⟨rfl,rfl⟩
 | o::l,p=>by
  have e:hitsL s1 g p (o::l)=hitsL s1 g (if canB s1 p.stamp g o then p.hit o.1 else p) l:=rfl
  obtain⟨h1,h2⟩:=hits_ag s1 g l (if canB s1 p.stamp g o then p.hit o.1 else p)
  rw[e,h1,h2]
  split<;>exact⟨rfl,rfl⟩
theorem hits_m(hl:s1.lv=s.lv)(hA:Abs s m)(g:Int)(l:List (Int×Int)):(hitsL s1 g p l).m=paM m p.m g l:=by
 obtain⟨h1,-,-,-,-,h5⟩:=hitsL_same s1 g p l
 obtain⟨h6,h7⟩:=hits_ag s1 g l p
 have hw:(hitsL s1 g p l).wd=fun y=>p.wd y || l.any fun o=>decide (o.1=y)&&canM m p.stamp g o:=funext fun y=>by
  rw[hits_wd]
  simp only[can_same hl hA]
 unfold Pt.m paM
 rw[h1,h5,h6,h7,hw]
theorem out_m(hl:s1.lv=s.lv)(hA:Abs s m)(g x:Int)(l:List (Int×Int))(y:Int):y∈outL s1 g x p l↔y=x∧p.hurt=false∧(paM m p.m g l).hurt=true:=by
 have h1:=hitsL_hurt s1 g p l
 rw[←Pt.m_hurt,hits_m hl hA] at h1
 unfold outL
 rw[h1]
 cases p.hurt<;>cases l.any (canB s1 p.stamp g)<;>simp
end
theorem mGrant_y{m:Ms}{x y:Int}{p:Pm}{r:Rs}{g:Int}{a:Nat}(e:y≠x):(mGrant m x p r g a).lv y=m.lv y:=upd_other e
theorem mGrant_x{m:Ms}{x:Int}{p:Pm}{r:Rs}{g:Int}{a:Nat}:(mGrant m x p r g a).lv x=some {paM m p g ((m.qs r).drop a)with hf:=upd p.hf r g,at_:=r0,goal:=0}:=upd_same _ _ _
theorem hit_hurt(x:Int)(b:Pm):(b.hit x).hurt=true:=Pm.hurt_iff.2 ⟨x,by simp[Pm.hit]⟩
theorem ask_in{t:Nat}{s:Gs}{x:Int}{p:Pt}{m:Ms}{L:List Int}{LR:List Rs}{r:Rs}{g:Int}{w:World}(h:TT w t s)(ht:Tb w)(hgl:s.own 1=none∧s.own 0=none)(hA:Abs s m)(hI:Iv m L LR)(hp:s.lv x=some p)(hg0:p.goal=0)(hr:GoodR r LR)(hg:g≠0)(hL:L.length<2000000000000)(hLR:LR.length<2000000000000) :
  Calls prog 21 #[ptr t,r.v,.agg #[I x,I g]] w fun e w'=>∃(k:Int) (u:Value) (l:List Int) (s':Gs) (m':Ms),e=.returned (.tuple #[I k,u])∧w'.ownsRow w.heap.size 3 1 u l.length (l.map fun z=>I z)∧TT w' t s'∧Ext w w' s s'∧Abs s' m'∧AskT m x p.m r g k l m':=by
 have hpm:=hA.at hp
 have hpi:=hI.lv x p.m hpm
 have hnq:=no_req hI hpm hg0
 have hmx:(4100000000000:Nat)≤maxLen:=of_decide_eq_true (by kernel_rfl)
 have hql:=hI.w.len r
 have hqo:∀o∈m.qs r,o.1≠x∧R64 o.1∧(∃b,s.lv o.1=some b∧∀y,b.wd y=true→R64 y)∧o.1∈L:=fun o ho=>by
  obtain⟨b,hb,-⟩:=(hI.qm r o.1 o.2).1 ho
  have hbi:=hI.lv o.1 b hb
  obtain⟨b',hb',rfl⟩:=hA.of hb
  exact⟨fun e=>hnq r o.2 (by rw[←e];exact ho),hbi.xr,⟨b',hb',fun y hy=>(hbi.wd y hy).1⟩,hbi.xl⟩
 refine(ask_gen t s x g r p w (fun s1 q=>q.hf=m.hl r∧q.qs=m.qs r∧s1.pl r=some q∧s1.lv=s.lv∧∀r',r'≠r→s1.pl r'=s.pl r') h ht hgl hpi.xr hp (fun y hy=>(hpi.wd y hy).1) ?_ L (fun y hy=>(hpi.wd y hy).2) (by omega) L ?_ (by omega) ?_ L ?_ hpi.xl (by omega) ?_ LR (fun z hz=>(hpi.hf z hz).2.1) (by omega) hr.2.1 hg ?_ ?_).mono ?_
 ·intro wA hT
  cases hq:s.pl r with
  | some q=>
   obtain⟨h1,h2,-⟩:=hA.yes r q hq
   refine(placeOf_there t s r q wA hT hr.2.1 hq).mono ?_
   rintro e w' ⟨rfl,gw⟩
   exact⟨s,q,rfl,hT.G gw,hq,rfl,G.ext s gw,h1,h2,hq,rfl,fun _ _=>rfl⟩
  | none=>
   obtain⟨h1,h2⟩:=hA.no r hq
   refine(placeOf_new t s r wA hT hr.2.1 hq LR (fun r' hr'=>?_) (by omega)).mono ?_
   ·cases hq':s.pl r' with
    | none=>exact absurd hq' hr'
    | some q'=>
     obtain⟨-,-,y,hy⟩:=hA.yes r' q' hq'
     obtain⟨b,hb,hbf⟩:=hl_live hy
     exact((hI.lv y b hb).hf r' hbf).2.1
   ·rintro e w' ⟨s',q,rfl,hT',⟨-,n1,n2⟩,hpl,hlv,hE⟩
    have hplr:s'.pl r=some q:=by rw[hpl,upd_same]
    exact⟨s',q,rfl,hT',hplr,hlv,hE,funext fun z=>by rw[n1,h1],by rw[n2,h2],hplr,hlv,fun r' e=>by rw[hpl,upd_other e]⟩
 ·rintro s1 q ⟨h1,-⟩ z hz
  rw[h1] at hz
  obtain⟨b,hb,-⟩:=hl_live hz
  exact⟨(hI.lv z b hb).xl,(hI.lv z b hb).xr⟩
 ·rintro s1 q ⟨-,h2,-⟩;rw[h2];omega
 ·rintro s1 q ⟨h1,h2,-⟩ y hy
  rw[h1,h2] at hy
  obtain⟨e,b,hb⟩:=hI.way (fun j g' _ hj=>hnq r g' (List.mem_of_getElem? hj)) hy
  have hbi:=hI.lv y b hb
  obtain⟨b',hb',rfl⟩:=hA.of hb
  exact⟨e,hbi.xr,b',hb',hbi.wd⟩
 ·rintro s1 q ⟨-,h2,-⟩;rw[h2];omega
 ·rintro s1 q ⟨-,h2,-⟩
  rw[h2]
  exact⟨fun o ho=>(hqo o ho).2.1,by omega⟩
 ·rintro s1 q ⟨-,h2,-⟩ o ho
  rw[h2] at ho
  exact hqo o ho
 ·rintro e w' ⟨s1,q,u,⟨h1,h2,h3,h4,h5⟩,a,PA,ol,ha,hPA,hol,hcase⟩
  have hta:a=turnM m r x:=by rw[ha];unfold turnN turnM;rw[h1,h2]
  rw[h2] at hPA hol
  have hPm:PA.m=paM m p.m g ((m.qs r).drop a):=by rw[hPA];exact hits_m h4 hA g _
  have hom:∀y,y∈ol↔y=x∧p.hurt=false∧(paM m p.m g ((m.qs r).drop a)).hurt=true:=fun y=>by rw[hol];exact out_m h4 hA g x _ y
  have hol1:ol=[]∨ol=[x]:=by
   rw[hol];unfold outL
   split
   ·exact .inr rfl
   ·exact .inl rfl
  have hph:PA.hf=p.hf:=congrArg Pm.hf hPm
  have hPh:PA.hurt=(paM m p.m g ((m.qs r).drop a)).hurt:=by rw[←Pt.m_hurt,hPm]
  rcases hcase with ⟨hb,rfl,hrow,hT,hE⟩|⟨hb,s2,q2,s4,zs,rfl,hrow,e1,e2,e3,e4,hW,hT,hE⟩
  ·have hnb:¬∃y,inW (m.hl r) (m.qs r) x g a y:=fun hh=>by
    rw[←h1,←h2] at hh
    rw[blkB_yes hh] at hb;cases hb
   refine⟨1,u,ol,_,mGrant m x p.m r g a,rfl,hrow,hT,hE,⟨fun y=>?_,fun r' q' hq'=>?_,fun r' hq'=>?_⟩,.inl ⟨by rw[←hta];exact hnb,rfl,by rw[←hta]⟩,?_,fun y=>?_⟩
   ·by_cases e:y=x
    ·subst e
     rw[mGrant_x,←hPm]
     simp[Gs.setPt,Gs.setPl,Pt.m,Pt.hold,Pt.rest,hph]
    ·rw[mGrant_y e,←hA.lv y,←h4]
     simp[Gs.setPt,Gs.setPl,upd_other e]
   ·by_cases e:r'=r
    ·subst e
     simp[Gs.setPt,Gs.setPl] at hq'
     subst hq'
     refine⟨?_,h2,x,?_⟩
     ·refine funext fun y=>?_
      rw[mGrant_hl hpm]
      show upd q.hf x g y=_
      by_cases ey:y=x
      ·rw[if_pos ey,ey,upd_same,upd_same]
      ·rw[if_neg ey,upd_other ey,h1]
     ·rw[mGrant_hl hpm,if_pos rfl,upd_same];exact hg
    ·simp[Gs.setPt,Gs.setPl,upd_other e] at hq'
     rw[h5 r' e] at hq'
     have e1:(mGrant m x p.m r g a).hl r'=m.hl r':=funext fun y=>by
      rw[mGrant_hl hpm]
      by_cases ey:y=x
      ·rw[if_pos ey,upd_other e,ey,hl_some hpm]
      ·rw[if_neg ey]
     rw[e1]
     exact hA.yes r' q' hq'
   ·by_cases e:r'=r
    ·subst e
     simp[Gs.setPt,Gs.setPl] at hq'
    ·simp[Gs.setPt,Gs.setPl,upd_other e] at hq'
     rw[h5 r' e] at hq'
     have e1:(mGrant m x p.m r g a).hl r'=m.hl r':=funext fun y=>by
      rw[mGrant_hl hpm]
      by_cases ey:y=x
      ·rw[if_pos ey,upd_other e,ey,hl_some hpm]
      ·rw[if_neg ey]
     rw[e1]
     exact hA.no r' hq'
   ·rcases hol1 with e|e<;>rw[e]<;>simp
   ·rw[hom]
    constructor
    ·rintro⟨rfl,h6,h7⟩
     exact⟨p.m,_,hpm,mGrant_x,by rw[Pt.m_hurt];exact h6,h7⟩
    ·rintro⟨b,b',hb1,hb2,hb3,hb4⟩
     by_cases e:y=x
     ·subst e
      rw[mGrant_x] at hb2
      rw[hpm] at hb1
      cases hb1;cases hb2
      exact⟨rfl,by rw[←Pt.m_hurt];exact hb3,hb4⟩
     ·rw[mGrant_y e,hb1] at hb2
      cases hb2
      rw[hb3] at hb4;cases hb4
  ·have hbk:∃y,inW (m.hl r) (m.qs r) x g a y:=by
    rw[←h1,←h2]
    cases Classical.em (∃z,inW q.hf q.qs x g a z)with
    | inl hh=>exact hh
    | inr hh=>rw[blkB_no hh] at hb;cases hb
   rw[h1,h2] at hW
   have hxn:∀y,inW (m.hl r) (m.qs r) x g a y→y≠x:=fun y hy=>(hI.way (fun j g' _ hj=>hnq r g' (List.mem_of_getElem? hj)) hy).1
   have hPst:PA.stamp=p.stamp:=congrArg Pm.stamp hPm
   have hBm:({PA with at_:=r,goal:=g}:Pt).m={paM m p.m g ((m.qs r).drop a)with at_:=r,goal:=g}:=by rw[←hPm];rfl
   have hBh:({PA with at_:=r,goal:=g}:Pt).hurt=(paM m p.m g ((m.qs r).drop a)).hurt:=by rw[←Pt.m_hurt,hBm];rfl
   have hBs:({PA with at_:=r,goal:=g}:Pt).stamp=p.stamp:=hPst
   generalize ({PA with at_:=r,goal:=g}:Pt)=PB at hW hBm hBh hBs
   have h3x:(s2.setPt x PB).lv x=some PB:=upd_same _ _ _
   have h3y:∀y,y≠x→(s2.setPt x PB).lv y=s.lv y:=fun y e=>by
    have:(s2.setPt x PB).lv y=s2.lv y:=upd_other e
    rw[this,e1]
    have:(s1.setPt x PA).lv y=s1.lv y:=upd_other e
    rw[this,h4]
   have K:s4.pl=s2.pl∧(∀y,(s4.lv y).map Pt.m=(mWait m x p.m r g a).lv y)∧zs.Pairwise (·<·)∧(∀y,y∈zs↔(paM m p.m g ((m.qs r).drop a)).hurt=false∧inW (m.hl r) (m.qs r) x g a y∧∃b,m.lv y=some b∧p.stamp<b.stamp∧b.hurt=false):=by
    rcases hW with ⟨g1,rfl,rfl⟩|⟨g1,xs,hxs,rfl,rfl⟩
    ·rw[hBh] at g1
     refine⟨rfl,fun y=>?_,.nil,fun y=>⟨fun hh=>(by cases hh),fun hh=>by rw[g1] at hh;cases hh.1⟩⟩
     by_cases e:y=x
     ·subst e;rw[h3x,mWait_x,←hBm];rfl
     ·rw[h3y y e,mWait_y e,hA.lv y]
      cases m.lv y with
      | none=>rfl
      | some b=>
       simp only[Option.map_some]
       rw[hitIf_neg (fun hh=>by have:=hh.1;rw[g1] at this;cases this)]
    ·rw[hBh] at g1
     obtain⟨k1,k2,k3⟩:=wbL_set x PB.stamp (s2.setPt x PB) xs
     refine⟨(wbL_keeps x PB.stamp (s2.setPt x PB) xs).2.1,fun y=>?_,srt_lt k2,fun y=>?_⟩
     ·rw[k1 y]
      by_cases e:y=x
      ·subst e
       rw[h3x,mWait_x,←hBm]
       simp only[Option.map_some]
       rw[if_neg (fun hh=>hxn y ((hxs y).1 hh.1) rfl)]
      ·rw[h3y y e,mWait_y e,←hA.lv y]
       cases s.lv y with
       | none=>rfl
       | some b=>
        simp only[Option.map_some]
        rw[hBs]
        by_cases hc:y∈xs∧p.stamp<b.stamp
        ·rw[if_pos hc,hitIf_pos ⟨g1,(hxs y).1 hc.1,hc.2⟩]
        ·rw[if_neg hc,hitIf_neg (fun hh=>hc ⟨(hxs y).2 hh.2.1,hh.2.2⟩)]
     ·rw[(srt_perm _).mem_iff,k3 y,hxs y,hBs]
      constructor
      ·rintro⟨j1,b,j2,j3,j4⟩
       rw[h3y y (hxn y j1)] at j2
       exact⟨g1,j1,b.m,hA.at j2,j3,by rw[Pt.m_hurt];exact j4⟩
      ·rintro⟨-,j1,b,j2,j3,j4⟩
       obtain⟨b',j5,rfl⟩:=hA.of j2
       exact⟨j1,b',by rw[h3y y (hxn y j1)];exact j5,j3,by rw[←Pt.m_hurt];exact j4⟩
   obtain⟨K1,K2,K3,K4⟩:=K
   have hhl:=mWait_hl (r:=r) (g:=g) (a:=a) hpm
   have hqr:(mWait m x p.m r g a).qs r=putQ (m.qs r) a x g:=upd_same _ _ _
   have hqo2:∀r',r'≠r→(mWait m x p.m r g a).qs r'=m.qs r':=fun r' e=>upd_other e
   have hhold:∃y,m.hl r y≠0:=by
    cases hq0:s.pl r with
    | some q0=>exact(hA.yes r q0 hq0).2.2
    | none=>
     obtain⟨n1,n2⟩:=hA.no r hq0
     obtain⟨y,hy⟩:=hbk
     rcases hy with ⟨hy,-⟩|⟨j,g',-,hj,-⟩
     ·exact⟨y,hy⟩
     ·rw[n2] at hj;cases hj
   refine⟨2,u,ol++zs,s4,mWait m x p.m r g a,rfl,hrow,hT,hE,⟨K2,fun r' q' hq'=>?_,fun r' hq'=>?_⟩,.inr ⟨by rw[←hta];exact hbk,rfl,by rw[←hta]⟩,?_,fun y=>?_⟩
   ·rw[K1,e2] at hq'
    rw[hhl]
    by_cases e:r'=r
    ·subst e
     rw[upd_same] at hq'
     cases hq'
     exact⟨e3.trans h1,by rw[e4,h2,hqr],hhold⟩
    ·rw[upd_other e,h5 r' e] at hq'
     rw[hqo2 r' e]
     exact hA.yes r' q' hq'
   ·rw[K1,e2] at hq'
    rw[hhl]
    by_cases e:r'=r
    ·subst e
     rw[upd_same] at hq'
     cases hq'
    ·rw[upd_other e,h5 r' e] at hq'
     rw[hqo2 r' e]
     exact hA.no r' hq'
   ·rcases hol1 with e|e
    ·rw[e];exact K3
    ·have hh:=((hom x).1 (by rw[e];exact List.mem_singleton.2 rfl)).2.2
     have hz:zs=[]:=List.eq_nil_iff_forall_not_mem.2 (fun y hy=>by
      have:=((K4 y).1 hy).1
      rw[hh] at this;cases this)
     rw[e,hz];simp
   ·rw[List.mem_append,hom,K4]
    constructor
    ·rintro(⟨rfl,h6,h7⟩|⟨h6,h7,b,h8,h9,h10⟩)
     ·exact⟨p.m,_,hpm,mWait_x,by rw[Pt.m_hurt];exact h6,h7⟩
     ·refine⟨b,_,h8,by rw[mWait_y (hxn y h7),h8];rfl,h10,?_⟩
      show(hitIf ((paM m p.m g ((m.qs r).drop a)).hurt=false∧inW (m.hl r) (m.qs r) x g a y∧p.m.stamp<b.stamp) x b).hurt=true
      rw[hitIf_pos ⟨h6,h7,h9⟩]
      exact hit_hurt x b
    ·rintro⟨b,b',hb1,hb2,hb3,hb4⟩
     by_cases e:y=x
     ·subst e
      rw[mWait_x] at hb2
      rw[hpm] at hb1
      cases hb1;cases hb2
      exact .inl ⟨rfl,by rw[←Pt.m_hurt];exact hb3,hb4⟩
     ·obtain⟨c,hc1,rfl⟩:=mWait_of e hb2
      rw[hb1] at hc1
      cases hc1
      by_cases hc:(paM m p.m g ((m.qs r).drop a)).hurt=false∧inW (m.hl r) (m.qs r) x g a y∧p.m.stamp<b.stamp
      ·exact .inr ⟨hc.1,hc.2.1,b,hb1,hc.2.2,hb3⟩
      ·rw[hitIf_neg hc,hb3] at hb4;cases hb4
end
section
open Go.RowKit
theorem Ask_go(t:Nat)(s:Gs)(x m:Int)(r:Rs)(p:Pt)(w:World)(h:TT w t s)(ht:Tb w)(hx:R64 x)(hr:r.ok)(hres:ResP r)(hm:modeB m=true)(hp:s.lv x=some p)(hv g:Int)(hj:joinI hv m=g)(hne:¬g=hv)(hgo:p.goal=0)(hh:p.hf r=hv)(R:Int→Value→World→Prop)
  (KA:∀w1,G w w1→Calls prog 21 #[ptr t,r.v,.agg #[I x,I g]] w1 fun e w'=>∃k u,e=.returned (.tuple #[I k,u])∧R k u w') :
  Calls prog 5 #[ptr t,I x,r.v,I m] w fun e w'=>∃k u,e=.returned (.tuple #[I k,u,I 0])∧R k u w':=by
 have g1:G w (w.alloc (.cells #[I r.lv,.string r.lb,I r.id] 33)):=(G.refl w).alloc _
 have g2:G w ((w.alloc (.cells #[I r.lv,.string r.lb,I r.id] 33)).alloc (.cells #[I r.lv,.string r.lb,I r.id] 33)):=g1.alloc _
 have KP:=hide (partyOf_any t s x _ (h.G g1) hx)
 rw[hp] at KP
 simp only[ptv,Option.isSome_some,if_true] at KP
 have KR:=hide (isRes_any r (w.alloc (.cells #[I r.lv,.string r.lb,I r.id] 33)))
 rw[(resB_iff r).2 hres] at KR
 have KM:=hide (isMode_any m ((w.alloc (.cells #[I r.lv,.string r.lb,I r.id] 33)).alloc (.cells #[I r.lv,.string r.lb,I r.id] 33)))
 rw[hm] at KM
 have KJ:Hid (∀W,G w W→Calls prog 20 #[I hv,I m] W fun e w'=>e=.returned (I g)∧w'=W):=fun W gw=>by
  have:=joins_any hv m W (ht.G gw)
  rw[hj] at this
  exact this
 have hpo:=h.pt x p hp
 have hcell:=(hpo.blk.G g2).cell
 have hl:=(hpo.hm.G g2).lookN kyR underlying60 zeroValue3 (kyR_ok.2 hr)
 simp only[nz_get,hh] at hl
 simp only[Pt.cells,hgo] at hcell
 have hrc:=((Blk.new w [I r.lv,.string r.lb,I r.id] 33).G ((G.refl _).alloc (.cells #[I r.lv,.string r.lb,I r.id] 33)))
 have hrc':=hrc.cell
 have HG:=hide g2
 have HKA:=hide KA
 clear hpo g1 g2 hp h hrc KA ht hx hr hres hm hj hgo hh
 simp only[Rs.v] at hl HKA⊢
 go_enter func5,ntmps5
 go_wp2_with (first|(go_at_call 17;refine KP.out.mono ?_;rintro e w' ⟨rfl,rfl⟩)|(go_at_call 18;refine KR.out.mono ?_;rintro e w' ⟨rfl,rfl⟩)|(go_at_call 19;refine KM.out.mono ?_;rintro e w' ⟨rfl,rfl⟩)|fail)
 go_quiet (fail)
 go_wp2_with (first|(go_at_call 20;refine(KJ.out _ (HG.out.drewN _)).mono ?_;rintro e w' ⟨rfl,rfl⟩)|(go_at_call 21;refine(HKA.out _ (HG.out.drewN _)).mono ?_;rintro e w' ⟨k,u,rfl,hR⟩)|fail)
 go_ret3
 exact⟨k,u,rfl,hR⟩
theorem Ask_held(t:Nat)(s:Gs)(x m:Int)(r:Rs)(p:Pt)(w:World)(h:TT w t s)(ht:Tb w)(hx:R64 x)(hr:r.ok)(hres:ResP r)(hm:modeB m=true)(hp:s.lv x=some p)(hv g:Int)(hj:joinI hv m=g)(hne:g=hv)(hgo:p.goal=0)(hh:p.hf r=hv) :
  Calls prog 5 #[ptr t,I x,r.v,I m] w fun e w'=>e=.returned (.tuple #[I 1,.slice none 0 0,I 0])∧G w w':=by
 have g1:G w (w.alloc (.cells #[I r.lv,.string r.lb,I r.id] 33)):=(G.refl w).alloc _
 have g2:G w ((w.alloc (.cells #[I r.lv,.string r.lb,I r.id] 33)).alloc (.cells #[I r.lv,.string r.lb,I r.id] 33)):=g1.alloc _
 have KP:=hide (partyOf_any t s x _ (h.G g1) hx)
 rw[hp] at KP
 simp only[ptv,Option.isSome_some,if_true] at KP
 have KR:=hide (isRes_any r (w.alloc (.cells #[I r.lv,.string r.lb,I r.id] 33)))
 rw[(resB_iff r).2 hres] at KR
 have KM:=hide (isMode_any m ((w.alloc (.cells #[I r.lv,.string r.lb,I r.id] 33)).alloc (.cells #[I r.lv,.string r.lb,I r.id] 33)))
 rw[hm] at KM
 have KJ:Hid (∀W,G w W→Calls prog 20 #[I hv,I m] W fun e w'=>e=.returned (I g)∧w'=W):=fun W gw=>by
  have:=joins_any hv m W (ht.G gw)
  rw[hj] at this
  exact this
 have hpo:=h.pt x p hp
 have hcell:=(hpo.blk.G g2).cell
 have hl:=(hpo.hm.G g2).lookN kyR underlying60 zeroValue3 (kyR_ok.2 hr)
 simp only[nz_get,hh] at hl
 simp only[Pt.cells,hgo] at hcell
 have hrc:=((Blk.new w [I r.lv,.string r.lb,I r.id] 33).G ((G.refl _).alloc (.cells #[I r.lv,.string r.lb,I r.id] 33)))
 have hrc':=hrc.cell
 have HG:=hide g2
 clear hpo g1 g2 hp h hrc ht hx hr hres hm hj hgo hh
 subst hne
 simp only[Rs.v] at hl⊢
 go_enter func5,ntmps5
 go_wp2_with (first|(go_at_call 17;refine KP.out.mono ?_;rintro e w' ⟨rfl,rfl⟩)|(go_at_call 18;refine KR.out.mono ?_;rintro e w' ⟨rfl,rfl⟩)|(go_at_call 19;refine KM.out.mono ?_;rintro e w' ⟨rfl,rfl⟩)|fail)
 go_quiet (fail)
 go_wp2_with (first|(go_at_call 20;refine(KJ.out _ (HG.out.drewN _)).mono ?_;rintro e w' ⟨rfl,rfl⟩)|fail)
 go_ret3
 exact⟨rfl,HG.out.drewN _⟩
theorem Ask_queued(t:Nat)(s:Gs)(x m:Int)(r:Rs)(p:Pt)(w:World)(h:TT w t s)(hx:R64 x)(hres:ResP r)(hm:modeB m=true)(hp:s.lv x=some p)(go:Int)(hgo:p.goal=go)(hg0:¬go=0) :
  Calls prog 5 #[ptr t,I x,r.v,I m] w fun e w'=>e=.returned (.tuple #[I 0,.slice none 0 0,I 83])∧G w w':=by
 have g1:G w (w.alloc (.cells #[I r.lv,.string r.lb,I r.id] 33)):=(G.refl w).alloc _
 have g2:G w ((w.alloc (.cells #[I r.lv,.string r.lb,I r.id] 33)).alloc (.cells #[I r.lv,.string r.lb,I r.id] 33)):=g1.alloc _
 have KP:=hide (partyOf_any t s x _ (h.G g1) hx)
 rw[hp] at KP
 simp only[ptv,Option.isSome_some,if_true] at KP
 have KR:=hide (isRes_any r (w.alloc (.cells #[I r.lv,.string r.lb,I r.id] 33)))
 rw[(resB_iff r).2 hres] at KR
 have KM:=hide (isMode_any m ((w.alloc (.cells #[I r.lv,.string r.lb,I r.id] 33)).alloc (.cells #[I r.lv,.string r.lb,I r.id] 33)))
 rw[hm] at KM
 have hpo:=h.pt x p hp
 have hcell:=(hpo.blk.G g2).cell
 simp only[Pt.cells,hgo] at hcell
 have HG:=hide g2
 clear hpo g1 g2 hp h hx hres hm hgo
 simp only[Rs.v]
 go_enter func5,ntmps5
 go_wp2_with (first|(go_at_call 17;refine KP.out.mono ?_;rintro e w' ⟨rfl,rfl⟩)|(go_at_call 18;refine KR.out.mono ?_;rintro e w' ⟨rfl,rfl⟩)|(go_at_call 19;refine KM.out.mono ?_;rintro e w' ⟨rfl,rfl⟩)|fail)
 go_ret3
 exact⟨rfl,HG.out⟩
end
end Go.Proofs.YtadfaiciolfgjaaGreatDoor
