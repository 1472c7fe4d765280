import Derived.PlainAid
import Derived.Test.YtadfaiciolfgjaaGreatDoorLk64
namespace Go.Proofs.YtadfaiciolfgjaaGreatDoor
open Go.Proofs.Tryz
section
open Go.RowKit
theorem fin_list(Q:Int→Prop):∀L:List Int,∃l:List Int,l.Nodup∧(∀a,a∈l↔a∈L∧Q a)∧l.length≤L.length
 | []=>⟨[],List.nodup_nil,by simp,Nat.le_refl _⟩
 | x::L=>by
  obtain⟨l,h1,h2,h3⟩:=fin_list Q L
  by_cases hx:Q x∧x∉l
  ·refine⟨x::l,List.nodup_cons.2 ⟨hx.2,h1⟩,fun a=>?_,Nat.succ_le_succ h3⟩
   rw[List.mem_cons,List.mem_cons,h2 a]
   constructor
   ·rintro(rfl|⟨k1,k2⟩)
    ·exact⟨.inl rfl,hx.1⟩
    ·exact⟨.inr k1,k2⟩
   ·rintro⟨rfl|k1,k2⟩
    ·exact .inl rfl
    ·exact .inr ⟨k1,k2⟩
  ·refine⟨l,h1,fun a=>?_,Nat.le_succ_of_le h3⟩
   rw[List.mem_cons,h2 a]
   constructor
   ·rintro⟨k1,k2⟩;exact⟨.inr k1,k2⟩
   ·rintro⟨rfl|k1,k2⟩
    ·refine(h2 a).1 ?_
     exact Decidable.byContradiction fun hn=>hx ⟨k2,hn⟩
    ·exact⟨k1,k2⟩
theorem wounders_t{w:World}{t:Nat}{s:Gs}{m:Ms}{L:List Int}{LR:List Rs}{x:Int}{pm:Pm}(h:GT w t s m L LR)(hL:L.length<2000000000000)(hp:m.lv x=some pm):∃ids:List Int,ids.Pairwise (·<·)∧(∀a,a∈ids↔pm.wd a=true)∧ids.length<2000000000000∧∀W,G w W→Calls prog 50 #[ptr t,I x] W fun e w'=>∃v,e=.returned (.tuple #[v,I 0])∧w'.ownsRow W.heap.size 3 1 v ids.length (ids.map fun z=>I z)∧G W w':=by
 have hi:=h.iv.lv x pm hp
 obtain⟨l,l1,l2,l3⟩:=fin_list (fun a=>pm.wd a=true) L
 obtain⟨p,hq,rfl⟩:=h.ab.of hp
 have hm:∀a,a∈srt l↔p.wd a=true:=fun a=>by
  rw[(srt_perm l).mem_iff,l2 a]
  exact⟨fun hh=>hh.2,fun hh=>⟨(hi.wd a hh).2,hh⟩⟩
 have hle:(srt l).length<2000000000000:=by rw[srt_len];omega
 refine⟨srt l,srt_lt l1,hm,hle,fun W gW=>?_⟩
 exact wounders_any t s x p (srt l) W (h.tt.G gW) hi.xr hq (srt_lt l1) (fun a=>by rw[hm a];exact⟨fun hh=>⟨(hi.wd a hh).1,hh⟩,fun hh=>hh.2⟩) (by omega)
theorem int_at{w:World}{lo:Nat}{va:Option Addr}{vn vc:Nat}{ls:List Int}(h:w.ownsRow lo 3 1 (.slice va vn vc) ls.length (ls.map fun z=>I z)){n:Nat}{a:Int}(ha:ls[n]?=some a):∃ga,va=some ⟨ga,0,none⟩∧w.cell? ⟨ga,n,none⟩=some (I a):=by
 have hlt:=(List.getElem?_eq_some_iff.1 ha).1
 rcases h.2 with ⟨e,e2⟩|⟨ga,cap,cur,e,-⟩
 ·omega
 ·have e3:va=some ⟨ga,0,none⟩:=by cases e;rfl
  rw[e] at h
  refine⟨ga,e3,?_⟩
  rw[h.cellAt _ (by omega),List.getElem?_map,ha];rfl
end
section
open Go.RowKit
section
variable {m m':Ms} {live:List (Int×Int)} {L:List Int} {LR:List Rs} {x:Int}
theorem Bk.same(h:Bk m live)(hs:∀y,(m'.lv y).map Pm.stamp=(m.lv y).map Pm.stamp):Bk m' live:=by
 refine⟨h.nd,fun y st=>?_⟩
 rw[h.mem y st]
 have:=hs y
 constructor
 ·rintro⟨p,hp,he⟩
  rw[hp] at this
  cases e:m'.lv y with
  | none=>rw[e] at this;cases this
  | some q=>rw[e] at this;exact⟨q,rfl,(by simpa using this:q.stamp=p.stamp).trans he⟩
 ·rintro⟨p,hp,he⟩
  rw[hp] at this
  cases e:m.lv y with
  | none=>rw[e] at this;cases this
  | some q=>rw[e] at this;exact⟨q,rfl,(by simpa using this.symm:q.stamp=p.stamp).trans he⟩
theorem grant_stamps{p:Pm}(hp:m.lv x=some p)(r:Rs)(g:Int)(a:Nat)(y:Int):((mGrant m x p r g a).lv y).map Pm.stamp=(m.lv y).map Pm.stamp:=by
 by_cases e:y=x
 ·subst e;rw[mGrant_x,hp];rfl
 ·rw[mGrant_y e]
theorem wait_stamps{p:Pm}(hp:m.lv x=some p)(r:Rs)(g:Int)(a:Nat)(y:Int):((mWait m x p r g a).lv y).map Pm.stamp=(m.lv y).map Pm.stamp:=by
 by_cases e:y=x
 ·subst e;rw[mWait_x,hp];rfl
 ·rw[mWait_y e]
  cases m.lv y with
  | none=>rfl
  | some b=>simp only[Option.map_some];rw[(hitIf_same _ x b).1]
theorem AskK.bk{p:Pm}(hp:m.lv x=some p){r:Rs}{mode k:Int}{l:List Int}{c:Int}(h:AskK m x p r mode k l c m')(hb:Bk m live):Bk m' live:=by
 rcases h with ⟨-,-,-,-,rfl⟩|⟨-,-,⟨-,-,-,rfl⟩|⟨-,⟨-,-,rfl⟩|⟨-,-,rfl⟩,-⟩⟩
 iterate 2
  ·exact hb
 ·exact hb.same (grant_stamps hp _ _ _)
 ·exact hb.same (wait_stamps hp _ _ _)
theorem EndK.bk{p:Pm}{out:List Int}(h:EndK m x p out m')(hb:Bk m live):Bk m' (noX x live):=by
 obtain⟨rs,-,-,-,-,-,-,hl,-⟩:=h
 refine⟨hb.nd.sublist (List.filter_sublist.map _),fun y st=>?_⟩
 rw[noX_mem,hb.mem y st,hl y]
 have hg:(∃p,(if y∈out then((mDel m x).lv y).map Pm.got else(mDel m x).lv y)=some p∧p.stamp=st)↔∃p,(mDel m x).lv y=some p∧p.stamp=st:=by
  by_cases e:y∈out
  ·rw[if_pos e]
   cases (mDel m x).lv y with
   | none=>simp
   | some b=>simp[Pm.got]
  ·rw[if_neg e]
 rw[hg]
 constructor
 ·rintro⟨⟨p,h1,h2⟩,h3⟩;exact⟨p,mDel_lv.2 ⟨h3,h1⟩,h2⟩
 ·rintro⟨p,h1,h2⟩;exact⟨⟨p,(mDel_lv.1 h1).2,h2⟩,(mDel_lv.1 h1).1⟩
theorem AskT.older{p:Pm}(hp:m.lv x=some p){r:Rs}{g k:Int}{l:List Int}(h:AskT m x p r g k l m'):∀y∈l,∃b b',m.lv y=some b∧b.hurt=false∧m'.lv y=some b'∧b'.hurt=true∧b'.stamp=b.stamp∧∀z,b'.wd z=true→∃c,m.lv z=some c∧c.stamp<b.stamp:=by
 intro y hy
 obtain⟨b,b',h1,h2,h3,h4⟩:=(h.2.2 y).1 hy
 have hnw:=Pm.hurt_no.1 h3
 have pa:∀q:Pm,m.lv x=some q→q.hurt=false→∀(a:Nat) z,(paM m q g ((m.qs r).drop a)).wd z=true→∃c,m.lv z=some c∧c.stamp<q.stamp:=fun q _ hq a z hz=>by
  rcases paM_inv hz with hz|⟨g',c,-,hc,hlt,-⟩
  ·rw[Pm.hurt_no.1 hq z] at hz;cases hz
  ·exact⟨c,hc,hlt⟩
 refine⟨b,b',h1,h3,h2,h4,?_⟩
 rcases h.1 with ⟨-,-,rfl⟩|⟨-,-,rfl⟩
 ·by_cases e:y=x
  ·subst e
   rw[mGrant_x] at h2
   rw[hp] at h1
   cases h1;cases h2
   exact⟨rfl,fun z hz=>pa p hp h3 _ z hz⟩
  ·rw[mGrant_y e,h1] at h2
   cases h2
   rw[h3] at h4;cases h4
 ·by_cases e:y=x
  ·subst e
   rw[mWait_x] at h2
   rw[hp] at h1
   cases h1;cases h2
   exact⟨rfl,fun z hz=>pa p hp h3 _ z hz⟩
  ·obtain⟨c,hc1,rfl⟩:=mWait_of e h2
   rw[h1] at hc1
   cases hc1
   obtain⟨e1,-,-,-,-,e6,-⟩:=hitIf_same ((paM m p g ((m.qs r).drop (turnM m r x))).hurt=false∧inW (m.hl r) (m.qs r) x g (turnM m r x) y∧p.stamp<b.stamp) x b
   refine⟨e1,fun z hz=>?_⟩
   rcases e6 z hz with hz|⟨hc,rfl⟩
   ·rw[hnw z] at hz;cases hz
   ·exact⟨p,hp,hc.2.2⟩
theorem joinI_again{a b:Int}(ha:a=0∨modeB a=true)(hb:modeB b=true):joinI (joinI a b) b=joinI a b:=by
 rcases ha with rfl|ha
 ·rcases mode_cases hb with rfl|rfl|rfl|rfl|rfl<;>decide
 ·rcases mode_cases ha with rfl|rfl|rfl|rfl|rfl<;>rcases mode_cases hb with rfl|rfl|rfl|rfl|rfl<;>decide
theorem AskK.after{p:Pm}(hI:Iv m L LR)(hp:m.lv x=some p){r:Rs}{mode k:Int}(hm:modeB mode=true){l:List Int}{c:Int}(h:AskK m x p r mode k l c m')(hg:p.goal=0):∃p',m'.lv x=some p'∧c=0∧p'.stamp=p.stamp∧((k=1∧p'.goal=0∧joinI (p'.hf r) mode=p'.hf r)∨(k=2∧joinI p'.goal mode=p'.goal∧p'.goal≠p'.hf r)):=by
 have hm0:p.hf r=0∨modeB (p.hf r)=true:=by rw[←hl_some hp r];exact hI.mode r x
 rcases h with ⟨h,-⟩|⟨-,hc,⟨h1,h2,-,rfl⟩|⟨h1,⟨-,h2,rfl⟩|⟨-,h2,rfl⟩,-⟩⟩
 ·exact absurd hg h
 ·exact⟨p,hp,hc,rfl,.inl ⟨h2,hg,h1⟩⟩
 ·refine⟨_,mGrant_x,hc,rfl,.inl ⟨h2,rfl,?_⟩⟩
  show joinI (upd p.hf r _ r) mode=upd p.hf r _ r
  rw[upd_same]
  exact joinI_again hm0 hm
 ·exact⟨_,mWait_x,hc,rfl,.inr ⟨h2,joinI_again hm0 hm,h1⟩⟩
theorem EndK.got{p:Pm}{out:List Int}(h:EndK m x p out m'):∀y∈out,y≠x∧∃b b',m.lv y=some b∧b.goal≠0∧m'.lv y=some b'∧b'.goal=0∧b'.hf b.at_=b.goal:=by
 obtain⟨rs,-,-,-,-,-,-,hl,hg⟩:=h
 intro y hy
 obtain⟨b,hb,hbg⟩:=hg y hy
 have h1:=hl y
 rw[if_pos hy,hb] at h1
 exact⟨(mDel_lv.1 hb).1,b,_,(mDel_lv.1 hb).2,hbg,h1,rfl,upd_same _ _ _⟩
theorem EndK.rest{p:Pm}{out:List Int}(h:EndK m x p out m'){y:Int}{b':Pm}(hy:m'.lv y=some b'):y≠x∧∃b,m.lv y=some b∧b'.stamp=b.stamp∧b'.wd=b.wd:=by
 obtain⟨rs,-,-,-,-,-,-,hl,-⟩:=h
 have h1:=hl y
 rw[hy] at h1
 cases e:(mDel m x).lv y with
 | none=>rw[e] at h1;split at h1<;>cases h1
 | some b=>
  rw[e] at h1
  refine⟨(mDel_lv.1 e).1,b,(mDel_lv.1 e).2,?_⟩
  split at h1
  iterate 2
   ·cases h1;exact⟨rfl,rfl⟩
end
end
section
open Go.RowKit
section
variable {w:World} {t:Nat} {s:Gs} {m:Ms} {L:List Int} {LR:List Rs} {x:Int} {pm:Pm}
theorem waiting_t(h:GT w t s m L LR)(hp:m.lv x=some pm):Calls prog 75 #[ptr t,I x] w fun e w'=>e=.returned (.tuple #[pm.at_.v,I pm.goal,I 0])∧G w w':=by
 have hi:=h.iv.lv x pm hp
 obtain⟨p,hq,rfl⟩:=h.ab.of hp
 exact waiting_any t s x p w h.tt hi.xr hq
theorem waiting_n(h:GT w t s m L LR)(hx:R64 x)(hp:m.lv x=none):Calls prog 75 #[ptr t,I x] w fun e w'=>e=.returned (.tuple #[(⟨0,ByteArray.empty,0⟩:Rs).v,I 0,I 80])∧G w w':=
 waiting_none t s x w h.tt hx (h.ab.none.2 hp)
theorem live_t(h:GT w t s m L LR){live:List (Int×Int)}(hb:Bk m live)(hl:live.length<2000000000000):Calls prog 45 #[ptr t] w fun e w'=>∃v,e=.returned v∧w'.ownsRow w.heap.size 3 1 v live.length ((srt (live.map fun a=>a.1)).map fun z=>I z)∧G w w':=by
 have hlen:(srt (live.map fun a=>a.1)).length=live.length:=by rw[srt_len,List.length_map]
 refine(live_any t s (srt (live.map fun a=>a.1)) w h.tt (srt_lt hb.nd) (fun a=>?_) (by omega)).mono ?_
 ·rw[(srt_perm _).mem_iff]
  constructor
  ·intro ha
   obtain⟨⟨y,st⟩,hy,rfl⟩:=List.mem_map.1 ha
   obtain⟨p,hp,-⟩:=(hb.mem y st).1 hy
   exact⟨(h.iv.lv y p hp).xr,fun e=>by rw[h.ab.none.1 e] at hp;cases hp⟩
  ·rintro⟨-,ha⟩
   cases e:m.lv a with
   | none=>exact absurd (h.ab.none.2 e) ha
   | some p=>exact List.mem_map.2 ⟨(a,p.stamp),(hb.mem a p.stamp).2 ⟨p,e,rfl⟩,rfl⟩
 ·rintro e w' ⟨v,rfl,hrow,hg⟩
  rw[hlen] at hrow
  exact⟨v,rfl,hrow,hg⟩
end
end
section
open Go.RowKit
section
variable {w w':World} {b t lo:Nat} {s s':Gs} {live:List (Int×Int)} {res:List Rs} {va vr:Value} {m:Ms} {L:List Int} {LR:List Rs}
end
end
section
open Go.RowKit
def W3(w:World)(b:Nat)(x y z:Value):World:=((w.setCell ⟨b,0,none⟩ x).setCell ⟨b,1,none⟩ y).setCell ⟨b,2,none⟩ z
section
variable {W0 w w':World} {b t lo:Nat} {s s':Gs} {m m':Ms} {live:List (Int×Int)} {res:List Rs} {va vr:Value} {L:List Int} {LR:List Rs}
theorem G.of_chg{D:Nat→Prop}(g:Go.Proofs.YtadfaiciolfgjaaGreatDoor.G W0 w)(c:Chg D w w')(hd:∀k,D k→W0.heap.size≤k):Go.Proofs.YtadfaiciolfgjaaGreatDoor.G W0 w':=
 ⟨c.os.trans g.os,c.tape.trans g.tape,c.output.trans g.output,Nat.le_trans g.size c.size,fun k hk=>(c.block k (Nat.lt_of_lt_of_le hk g.size) (fun e=>by have:=hd k e;omega)).trans (g.block k hk)⟩
end
end
end Go.Proofs.YtadfaiciolfgjaaGreatDoor
