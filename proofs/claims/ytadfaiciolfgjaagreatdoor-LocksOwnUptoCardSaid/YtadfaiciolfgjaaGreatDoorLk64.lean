import Derived.Deep.QuietTactic
import Derived.Test.YtadfaiciolfgjaaGreatDoorLk57
namespace Go.Proofs.YtadfaiciolfgjaaGreatDoor
open Go.Proofs.Tryz
set_option maxHeartbeats 1000000
set_option maxRecDepth 100000
section
open Go.RowKit
structure GT(w:World)(t:Nat)(s:Gs)(m:Ms)(L:List Int)(LR:List Rs):Prop where
 tt:TT w t s
 tb:Tb w
 gl:s.own 1=none∧s.own 0=none
 ab:Abs s m
 iv:Iv m L LR
theorem turnM_le(m:Ms)(r:Rs)(x:Int):turnM m r x≤(m.qs r).length:=by
 unfold turnM
 split
 ·exact Nat.le_refl _
 ·exact upN_le _ _
theorem r0_ok:r0.ok:=by simp[Rs.ok,R64]
section
variable {w w':World} {t:Nat} {s s':Gs} {m:Ms} {L:List Int} {LR:List Rs} {x:Int}
theorem GT.G(h:GT w t s m L LR)(g:G w w'):GT w' t s m L LR:=⟨h.tt.G g,h.tb.G g,h.gl,h.ab,h.iv⟩
theorem GT.chg(h:GT w t s m L LR){D:Nat→Prop}(c:Chg D w w')(hd:∀b,D b→s.own b=none∧b≠1∧b≠0):GT w' t s m L LR:=
 ⟨h.tt.chg c (fun b hb=>(hd b hb).1),h.tb.keep (c.block _ h.tb.lf (fun e=>(hd _ e).2.1 rfl)) (c.block _ h.tb.lj (fun e=>(hd _ e).2.2 rfl)) c.size,h.gl,h.ab,h.iv⟩
theorem GT.ext(h:GT w t s m L LR)(E:Ext w w' s s'){m':Ms}(hT:TT w' t s')(hA:Abs s' m')(hI:Iv m' L LR):GT w' t s' m' L LR:=
 ⟨hT,h.tb.ext E h.gl,⟨E.free h.tb.lf h.gl.1,E.free h.tb.lj h.gl.2⟩,hA,hI⟩
def takenM(m:Ms)(x st:Int):Prop:=∃y p,m.lv y=some p∧(y=x∨p.stamp=st)
theorem begin_t(h:GT w t s m L LR)(hx:R64 x)(hx1:1≤x)(hxl:x∈L){st:Int}(hs1:1≤st)(hL:L.length<2000000000000) :
  Calls prog 71 #[ptr t,I x,I st] w fun e w'=>(takenM m x st∧e=.returned (I 80)∧G w w')∨(¬takenM m x st∧e=.returned (I 0)∧∃s',GT w' t s' (mNew m x st) L LR∧Ext w w' s s'):=by
 have hmx:(4100000000000:Nat)≤maxLen:=of_decide_eq_true (by kernel_rfl)
 have htk:taken s x st↔takenM m x st:=by
  constructor
  ·rintro⟨y,p,h1,h2⟩;exact⟨y,p.m,h.ab.at h1,h2⟩
  ·rintro⟨y,p,h1,h2⟩
   obtain⟨q,h3,rfl⟩:=h.ab.of h1
   exact⟨y,q,h3,h2⟩
 refine(begin_any t s x st w h.tt hx hx1 hs1 (fun y p hy=>(h.iv.lv y p.m (h.ab.at hy)).xr) L (fun y p hy=>(h.iv.lv y p.m (h.ab.at hy)).xl) (by omega)).mono ?_
 rintro e w' (⟨h1,h2,-,h4⟩|⟨h1,h2,s',p,hT,⟨n1,n2,n3,n4,n5⟩,h5,h6,hE⟩)
 ·exact .inl ⟨htk.1 h1,h2,h4⟩
 ·have h1m:¬takenM m x st:=fun hh=>h1 (htk.2 hh)
  have hn:m.lv x=none:=by
   cases e:m.lv x with
   | none=>rfl
   | some b=>exact absurd ⟨x,b,e,.inl rfl⟩ h1m
  refine .inr ⟨h1m,h2,s',h.ext hE hT ⟨fun y=>?_,?_,?_⟩ (iv_new h.iv hx1 hx hxl hs1 hn (fun y b hb e=>h1m ⟨y,b,hb,.inr e⟩)),hE⟩
  ·rw[h5]
   by_cases e:y=x
   ·subst e
    rw[upd_same]
    show some p.m=(upd m.lv y _) y
    rw[upd_same]
    have e1:p.hf=fun _=>0:=funext n2
    have e2:p.wd=fun _=>false:=funext n5
    unfold Pt.m
    rw[n1,e1,n3,n4,e2]
   ·rw[upd_other e]
    show _=(upd m.lv x _) y
    rw[upd_other e]
    exact h.ab.lv y
  ·rw[h6,mNew_hl hn];exact h.ab.yes
  ·rw[h6,mNew_hl hn];exact h.ab.no
def AskK(m:Ms)(x:Int)(p:Pm)(r:Rs)(mode k:Int)(l:List Int)(c:Int)(m':Ms):Prop:=
 (p.goal≠0∧k=0∧c=83∧l=[]∧m'=m)∨(p.goal=0∧c=0∧((joinI (p.hf r) mode=p.hf r∧k=1∧l=[]∧m'=m)∨(joinI (p.hf r) mode≠p.hf r∧AskT m x p r (joinI (p.hf r) mode) k l m')))
theorem Ask_t(h:GT w t s m L LR){pm:Pm}(hpm:m.lv x=some pm){r:Rs}(hr:GoodR r LR){mode:Int}(hm:modeB mode=true)(hL:L.length<2000000000000)(hLR:LR.length<2000000000000) :
  Calls prog 5 #[ptr t,I x,r.v,I mode] w fun e w'=>∃(k:Int) (u:Value) (l:List Int) (c:Int) (s':Gs) (m':Ms),e=.returned (.tuple #[I k,u,I c])∧w'.ownsRow w.heap.size 3 1 u l.length (l.map fun z=>I z)∧GT w' t s' m' L LR∧Ext w w' s s'∧AskK m x pm r mode k l c m':=by
 obtain⟨p,hp,rfl⟩:=h.ab.of hpm
 have hpi:=h.iv.lv x p.m hpm
 by_cases hgo:p.goal=0
 ·by_cases hj:joinI (p.hf r) mode=p.hf r
  ·refine(Ask_held t s x mode r p w h.tt h.tb hpi.xr hr.2.1 hr.2.2 hm hp (p.hf r) _ rfl hj hgo rfl).mono ?_
   rintro e w' ⟨rfl,g⟩
   exact⟨1,_,[],0,s,m,rfl,⟨rfl,.inl ⟨rfl,rfl⟩⟩,h.G g,G.ext s g,.inr ⟨hgo,rfl,.inl ⟨hj,rfl,rfl,rfl⟩⟩⟩
  ·have hm0:p.hf r=0∨modeB (p.hf r)=true:=by
    have:=h.iv.mode r x
    rw[hl_some hpm r] at this
    exact this
   have hgm:modeB (joinI (p.hf r) mode)=true:=joinI_mode hm0 hm
   refine(Ask_go t s x mode r p w h.tt h.tb hpi.xr hr.2.1 hr.2.2 hm hp (p.hf r) _ rfl hj hgo rfl (fun k u w'=>∃(l:List Int) (s':Gs) (m':Ms),w'.ownsRow w.heap.size 3 1 u l.length (l.map fun z=>I z)∧GT w' t s' m' L LR∧Ext w w' s s'∧AskT m x p.m r (joinI (p.hf r) mode) k l m') (fun w1 g1=>?_)).mono ?_
   ·have h1:=h.G g1
    refine(ask_in h1.tt h1.tb h1.gl h1.ab h1.iv hp hgo hr (mode_ne hgm) hL hLR).mono ?_
    rintro e w' ⟨k,u,l,s',m',rfl,hrow,hT,hE,hA,hK⟩
    refine⟨k,u,rfl,l,s',m',own_lo hrow g1.size,h1.ext hE hT hA ?_,(G.ext s g1).trans hE,hK⟩
    rcases hK.1 with ⟨hnb,-,rfl⟩|⟨hb,-,rfl⟩
    ·exact iv_grant h.iv hpm hgo hr hm rfl hnb
    ·exact iv_wait h.iv hpm hgo hr hm rfl (turnM_le m r x) hb
   ·rintro e w' ⟨k,u,rfl,l,s',m',hrow,hG,hE,hK⟩
    exact⟨k,u,l,0,s',m',rfl,hrow,hG,hE,.inr ⟨hgo,rfl,.inr ⟨hj,hK⟩⟩⟩
 ·refine(Ask_queued t s x mode r p w h.tt hpi.xr hr.2.2 hm hp p.goal rfl hgo).mono ?_
  rintro e w' ⟨rfl,g⟩
  exact⟨0,_,[],83,s,m,rfl,⟨rfl,.inl ⟨rfl,rfl⟩⟩,h.G g,G.ext s g,.inl ⟨hgo,rfl,rfl,rfl,rfl⟩⟩
def EndK(m:Ms)(x:Int)(p:Pm)(out:List Int)(m':Ms):Prop:=∃rs:List Rs,rs.Nodup∧(∀r,r∈rs↔p.hf r≠0∨(p.goal≠0∧r=p.at_))∧rs.Pairwise rLt∧endM m x rs=(m',out)∧out.Nodup∧(∀y∈out,∃p,m'.lv y=some p∧p.goal=0)∧(∀z,m'.lv z=if z∈out then((mDel m x).lv z).map Pm.got else(mDel m x).lv z)∧∀y∈out,∃b,(mDel m x).lv y=some b∧b.goal≠0
theorem End_t(h:GT w t s m L LR){pm:Pm}(hpm:m.lv x=some pm)(hL:L.length<2000000000000)(hLR:LR.length<2000000000000) :
  Calls prog 8 #[ptr t,I x] w fun e w'=>∃(u:Value) (out:List Int) (s':Gs) (m':Ms),e=.returned (.tuple #[u,.slice none 0 0,I 0])∧w'.ownsRow w.heap.size 3 1 u out.length (out.map fun z=>I z)∧GT w' t s' m' L LR∧Ext w w' s s'∧EndK m x pm out m':=by
 obtain⟨p,hp,rfl⟩:=h.ab.of hpm
 have hpi:=h.iv.lv x p.m hpm
 have hat:p.at_.ok:=by
  by_cases hgo:p.goal=0
  ·rw[show p.at_=r0 from hpi.g0 hgo];exact r0_ok
  ·exact(hpi.g1 hgo).2.2.1
 refine(End_gen t s x p w (fun s' out=>∃rs:List Rs,(rs.Nodup∧(∀r,r∈rs↔p.hf r≠0∨(p.goal≠0∧r=p.at_))∧rs.Pairwise rLt)∧EndR s m x rs L LR s' out) h.tt h.tb h.gl hpi.xr hp LR (fun r hr=>⟨(hpi.hf r hr).2.1,(hpi.hf r hr).2.2.1⟩) (by omega) hat (fun rs h1 h2 h3=>?_)).mono ?_
 ·obtain⟨Inv,k1,k2,k3⟩:=end_ok (t:=t) h.ab h.iv hp (by omega) (by omega) h.gl rs h1 h2
  exact⟨Inv,k1,fun s' out hh=>⟨rs,⟨h1,h2,h3⟩,k2 s' out hh⟩,k3⟩
 ·rintro e w' ⟨u,out,s',rfl,hrow,hT,hE,rs,⟨h1,h2,h3⟩,-,m',h4,hA,hI,h5,h6,h7⟩
  exact⟨u,out,s',m',rfl,hrow,h.ext hE hT hA hI,hE,rs,h1,h2,h3,h4,h5,h6,h7⟩
end
end
section
open Go.RowKit
structure Bk(m:Ms)(live:List (Int×Int)):Prop where
 nd:(live.map Prod.fst).Nodup
 mem:∀x st,(x,st)∈live↔∃p,m.lv x=some p∧p.stamp=st
theorem wounded_same(t:Nat)(s:Gs)(x:Int)(p:Pt)(w:World)(h:TT w t s)(hx:R64 x)(hp:s.lv x=some p)(hwR:∀y,p.wd y=true→R64 y) :
  Calls prog 77 #[ptr t,I x] w fun e w'=>e=.returned (.tuple #[.bool p.hurt,I 0])∧w'=w:=by
 have K:=hide (partyOf_any t s x w h hx)
 rw[hp] at K
 simp only[ptv,Option.isSome_some,if_true] at K
 have ho:=h.pt x p hp
 have K1:=hide (isWounded_any p w ho.blk ho.wm hwR)
 clear h ho hp hx hwR
 go_enter func77,ntmps77
 go_wp2_with (first|(go_at_call 17;with_reducible refine(K.out).mono ?_;rintro e w' ⟨rfl,hw'⟩;have hw2:=hw'.symm;subst hw2;clear hw')|(go_at_call 83;with_reducible refine(K1.out).mono ?_;rintro e w' ⟨rfl,hw'⟩;have hw2:=hw'.symm;subst hw2;clear hw')|fail)
 go_ret2
 exact⟨rfl,rfl⟩
theorem wounded_t{w:World}{t:Nat}{s:Gs}{m:Ms}{L:List Int}{LR:List Rs}{x:Int}{pm:Pm}(h:GT w t s m L LR)(hp:m.lv x=some pm):Calls prog 77 #[ptr t,I x] w fun e w'=>e=.returned (.tuple #[.bool pm.hurt,I 0])∧w'=w:=by
 have hi:=h.iv.lv x pm hp
 obtain⟨p,hq,rfl⟩:=h.ab.of hp
 rw[Pt.m_hurt]
 exact wounded_same t s x p w h.tt hi.xr hq (fun y hy=>(hi.wd y hy).1)
end
end Go.Proofs.YtadfaiciolfgjaaGreatDoor
