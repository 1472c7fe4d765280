import Derived.Test.YtadfaiciolfgjaaGreatDoorLk11
namespace Go.Proofs.YtadfaiciolfgjaaGreatDoor
open Go.Proofs.Tryz
set_option maxHeartbeats 1000000
set_option maxRecDepth 100000
section
open Go.RowKit
theorem Blk.drewN{w:World}{g:Nat}{e:TypeId}{xs:List Value}(h:Blk w g e xs)(n:Nat):Blk (w.drewN n) g e xs:=⟨h.h⟩
theorem QSl.drewN{w:World}{v:Value}{qs:List (Int×Int)}(h:QSl w v qs)(n:Nat):QSl (w.drewN n) v qs:=h.keep (fun _ _=>rfl)
def upN(hf:Int→Int):List (Int×Int)→Nat
 | []=>0
 | q::qs=>if hf q.1=0 then 0 else upN hf qs+1
theorem upN_le(hf:Int→Int):∀qs,upN hf qs≤qs.length
 | []=>Nat.le_refl _
 | q::qs=>by
  unfold upN
  split
  ·exact Nat.zero_le _
  ·have:=upN_le hf qs;simp;omega
theorem upN_eq(hf:Int→Int):∀(qs:List (Int×Int)) (k:Nat),k≤qs.length→(∀j q,j<k→qs[j]?=some q→hf q.1≠0)→(∀q,qs[k]?=some q→hf q.1=0)→upN hf qs=k
 | [],k,hk,_,_=>by simp at hk;subst hk;rfl
 | a::qs,0,_,_,h2=>by simp[upN,h2 a (by simp)]
 | a::qs,k+1,hk,h1,h2=>by
  have ha:=h1 0 a (by omega) (by simp)
  unfold upN
  rw[if_neg ha,upN_eq hf qs k (by simpa using hk) (fun j q hj hq=>h1 (j+1) q (by omega) (by simpa using hq)) (fun q hq=>h2 q (by simpa using hq))]
def turnN(p:Pl)(x:Int):Nat:=if p.hf x=0 then p.qs.length else upN p.hf p.qs
theorem turn_any(p:Pl)(x:Int)(w:World)(hx:R64 x)(hq64:∀q∈p.qs,R64 q.1)(hlq:p.qs.length≤maxLen)(hb:Blk w p.blk 109 [.map (some p.hb),p.q])(hm:Mp (fun n:Int=>I n) 3 w p.hb (fun x=>nz (p.hf x)))(hq:QSl w p.q p.qs):Calls prog 55 #[ptr p.blk,I x] w fun e w'=>e=.returned (I (turnN p x))∧G w w':=by
 have hlk:=hm.look kyI underlying107 (zeroValue3 w) (kyI_ok.2 hx)
 simp only[nz_get] at hlk
 have hc:=hb.cell
 obtain⟨qa,qcap,hqv⟩:∃a c,p.q=.slice a p.qs.length c:=by
  rcases hq with ⟨e,e2⟩|⟨g,cap,rest,e,_⟩
  ·exact⟨none,0,by rw[e,e2];rfl⟩
  ·exact⟨_,cap,e⟩
 rw[hqv] at hc
 have HB:=hide hb
 have HM:=hide hm
 have HQ:=hide hq
 have HQV:=hide hqv
 have H64:=hide hq64
 have HLQ:=hide hlq
 clear hb hm hq hqv hq64 hlq
 by_cases h0:p.hf x=0
 ·have e:turnN p x=p.qs.length:=by simp[turnN,h0]
  rw[e]
  rw[h0] at hlk
  clear e h0
  go_enter func55,ntmps55
  go_wp2
  go_ret
  exact⟨rfl,G.refl _⟩
 ·have e:turnN p x=upN p.hf p.qs:=by simp[turnN,h0]
  rw[e]
  clear e
  generalize p.hf x=m at hlk h0
  go_enter func55,ntmps55
  go_wp2
  go_loopw [5] (fun i wr=>∃(k:Nat),i=I k∧k≤p.qs.length∧(∀j q,j<k→p.qs[j]?=some q→p.hf q.1≠0)∧Blk wr p.blk 109 [.map (some p.hb),p.q]∧Mp (fun n:Int=>I n) 3 wr p.hb (fun x=>nz (p.hf x))∧QSl wr p.q p.qs∧G w wr) (fun i _=>p.qs.length-(RowKit.intOf i).toNat)
  case atStart=>exact⟨0,rfl,Nat.zero_le _,fun j q hj _=>absurd hj (Nat.not_lt_zero j),HB.out,HM.out,HQ.out,G.refl _⟩
  case round=>
   obtain⟨k,rfl,hk,hall,hb,hm,hq,hg⟩:=hrel
   have hc:=hb.cell
   rw[HQV.out] at hc
   have HA:=hide hall;have HB2:=hide hb;have HM2:=hide hm;have HQ2:=hide hq;have HG:=hide hg
   clear hlk h0 hb hall hg
   by_cases hlt:k<p.qs.length
   ·obtain⟨q,hqk⟩:∃q,p.qs[k]?=some q:=⟨_,List.getElem?_eq_getElem hlt⟩
    have hqa':∃g,qa=some ⟨g,0,none⟩:=by
     rcases hq with ⟨e,e2⟩|⟨g,cap,rest,e,_⟩
     ·rw[e2] at hlt;simp at hlt
     ·rw[HQV.out] at e;cases e;exact⟨g,rfl⟩
    obtain⟨g,rfl⟩:=hqa'
    have hqat:=(HQV.out▸HQ2.out:QSl _ _ _).at hqk
    have hqa1:=hqat.1
    have hl:=hm.lookN kyI underlying107 zeroValue3 (kyI_ok.2 (H64.out q (List.mem_of_getElem? hqk)))
    simp only[nz_get] at hl
    have hkI:(k:Int)<(p.qs.length:Int):=by omega
    have HK:=hide hqk
    obtain⟨q1,q2⟩:=q
    simp only at hl hqa1
    clear hqat hqk hm hq
    by_cases h1:p.hf q1=0
    ·have H1:=hide h1
     rw[h1] at hl
     clear h1
     go_wp2
     go_quiet (fail)
     go_wp2
     go_ret
     refine⟨?_,HG.out.drewN _⟩
     rw[upN_eq p.hf p.qs k hk HA.out (fun q' hq'=>by rw[HK.out] at hq';cases hq';exact H1.out)]
     rfl
    ·have H1:=hide h1
     have h1f:(p.hf q1==0)=false:=by simp[h1]
     go_wp2
     go_quiet (fail)
     go_wp2
     have hkb:(k:Int)+1≤9223372036854775807:=by
      have:=HLQ.out
      have hm:maxLen≤9223372036854775807:=of_decide_eq_true (by kernel_rfl)
      omega
     have hwr:wrap64 ((k:Int)+1)=(k:Int)+1:=by unfold wrap64;omega
     go_roundw
     case rel=>
      refine⟨k+1,by rw[hwr];rfl,by omega,fun j q' hj hq'=>?_,HB2.out.drewN _,HM2.out.drewN _,HQ2.out.drewN _,HG.out.drewN _⟩
      by_cases e:j=k
      ·subst e
       rw[HK.out] at hq'
       cases hq'
       exact H1.out
      ·exact HA.out j q' (by omega) hq'
     case measure=>rw[hwr];simp[RowKit.intOf];omega
   ·have hkI:¬((k:Int)<(p.qs.length:Int)):=by omega
    clear hm hq
    go_wp2
    go_quiet (fail)
    go_wp2
    go_ret
    refine⟨?_,HG.out.drewN _⟩
    rw[upN_eq p.hf p.qs k hk HA.out (fun q' hq'=>by rw[List.getElem?_eq_none (by omega)] at hq';cases hq')]
    rfl
end
section
open Go.RowKit
theorem nz_upd{α:Type} [DecidableEq α](f:α→Int)(x:α){m:Int}(hm:m≠0)(a:α):upd (fun x=>nz (f x)) x (some (I m)) a=nz (upd f x m a):=by
 simp only[upd]
 split<;>simp[nz,hm]
def Pl.hold(q:Pl)(x m:Int):Pl:={q with hf:=upd q.hf x m}
def Pt.hold(p:Pt)(r:Rs)(m:Int):Pt:={p with hf:=upd p.hf r m}
def Pt.rest(p:Pt):Pt:={p with at_:=⟨0,ByteArray.empty,0⟩,goal:=0}
def Gs.setPl(s:Gs)(r:Rs)(q:Pl):Gs:={s with pl:=upd s.pl r (some q)}
def Gs.setPt(s:Gs)(x:Int)(p:Pt):Gs:={s with lv:=upd s.lv x (some p)}
theorem chgk(w:World)(p o:Nat)(v:Value):Chg (fun k=>k=p) w (w.setCell ⟨p,o,none⟩ v):=chg_setCell w v (.inl rfl)
theorem upd_upd{α β:Type} [DecidableEq α](g:α→β)(a:α)(u v:β):upd (upd g a u) a v=upd g a v:=by
 funext z
 by_cases e:z=a
 ·subst e;simp
 ·simp[upd_other e]
theorem Gs.setPt_setPt(s:Gs)(x:Int)(a b:Pt):(s.setPt x a).setPt x b=s.setPt x b:=by simp[Gs.setPt,upd_upd]
theorem Gs.setPl_setPl(s:Gs)(r:Rs)(a b:Pl):(s.setPl r a).setPl r b=s.setPl r b:=by simp[Gs.setPl,upd_upd]
theorem TT.setPl{w w':World}{t:Nat}{s:Gs}{r:Rs}{q q':Pl}(h:TT w t s)(hq:s.pl r=some q)(eb:q'.blk=q.blk)(hc:Chg (fun k=>s.own k=some (.pl r)∨s.own k=some (.lh r)∨s.own k=some (.qu r)) w w')(hok:PlOk w' s.own r q') :
  TT w' t (s.setPl r q')∧Ext w w' s (s.setPl r q'):=by
 have hk:∀b tg,s.own b=some tg→tg≠.pl r→tg≠.lh r→tg≠.qu r→w'.heap[b]?=w.heap[b]?:=fun b tg o n1 n2 n3=>hc.block b (h.lt b tg o) (fun f=>by
  rcases f with f|f|f<;>rw[o] at f<;>cases f
  ·exact n1 rfl
  ·exact n2 rfl
  ·exact n3 rfl)
 refine⟨⟨h.tb.keep (hk _ _ h.o1 (by simp) (by simp) (by simp)),h.lm.keep (hk _ _ h.o2 (by simp) (by simp) (by simp)),(h.pm.keep (hk _ _ h.o3 (by simp) (by simp) (by simp))).congr (fun z=>?_),fun z p hz=>?_,fun z p hz=>?_,h.o1,h.o2,h.o3,fun b tg o=>Nat.lt_of_lt_of_le (h.lt b tg o) hc.size⟩,⟨hc.mono (fun b e=>by rcases e with e|e|e<;>rw[e]<;>simp),fun _ _ o=>o,fun _ _ o=>.inl o⟩⟩
 ·by_cases e:z=r
  ·subst e;simp[Gs.setPl,upd_same,hq,eb]
  ·simp[Gs.setPl,upd_other e]
 ·exact(h.pt z p hz).keep (fun b o=>by rcases o with o|o|o<;>exact hk _ _ o (by simp) (by simp) (by simp))
 ·by_cases e:z=r
  ·subst e
   simp only[Gs.setPl,upd_same,Option.some.injEq] at hz
   subst hz
   exact hok
  ·replace hz:upd s.pl r _ z=some p:=hz
   rw[upd_other e] at hz
   exact(h.pl z p hz).keep (fun b o=>by rcases o with o|o|o<;>exact hk _ _ o (by simp[e]) (by simp[e]) (by simp[e]))
theorem TT.setPt{w w':World}{t:Nat}{s:Gs}{x:Int}{p p':Pt}(h:TT w t s)(hp:s.lv x=some p)(eb:p'.blk=p.blk)(hc:Chg (fun k=>s.own k=some (.pt x)∨s.own k=some (.ph x)∨s.own k=some (.pw x)) w w')(hok:PtOk w' s.own x p') :
  TT w' t (s.setPt x p')∧Ext w w' s (s.setPt x p'):=by
 have hk:∀b tg,s.own b=some tg→tg≠.pt x→tg≠.ph x→tg≠.pw x→w'.heap[b]?=w.heap[b]?:=fun b tg o n1 n2 n3=>hc.block b (h.lt b tg o) (fun f=>by
  rcases f with f|f|f<;>rw[o] at f<;>cases f
  ·exact n1 rfl
  ·exact n2 rfl
  ·exact n3 rfl)
 refine⟨⟨h.tb.keep (hk _ _ h.o1 (by simp) (by simp) (by simp)),(h.lm.keep (hk _ _ h.o2 (by simp) (by simp) (by simp))).congr (fun z=>?_),h.pm.keep (hk _ _ h.o3 (by simp) (by simp) (by simp)),fun z q hz=>?_,fun z q hz=>?_,h.o1,h.o2,h.o3,fun b tg o=>Nat.lt_of_lt_of_le (h.lt b tg o) hc.size⟩,⟨hc.mono (fun b e=>by rcases e with e|e|e<;>rw[e]<;>simp),fun _ _ o=>o,fun _ _ o=>.inl o⟩⟩
 ·by_cases e:z=x
  ·subst e;simp[Gs.setPt,upd_same,hp,eb]
  ·simp[Gs.setPt,upd_other e]
 ·by_cases e:z=x
  ·subst e
   simp only[Gs.setPt,upd_same,Option.some.injEq] at hz
   subst hz
   exact hok
  ·replace hz:upd s.lv x _ z=some q:=hz
   rw[upd_other e] at hz
   exact(h.pt z q hz).keep (fun b o=>by rcases o with o|o|o<;>exact hk _ _ o (by simp[e]) (by simp[e]) (by simp[e]))
 ·exact(h.pl z q hz).keep (fun b o=>by rcases o with o|o|o<;>exact hk _ _ o (by simp) (by simp) (by simp))
theorem tag_ne{own:Nat→Option Tg}{a b:Nat}{ta te:Tg}(ha:own a=some ta)(hb:own b=some te)(hn:ta≠te):a≠b:=fun e=>by
 subst e
 rw[ha] at hb
 cases hb
 exact hn rfl
theorem PtOk.ne{w:World}{own:Nat→Option Tg}{x:Int}{p:Pt}(h:PtOk w own x p):p.blk≠p.hb∧p.blk≠p.wb∧p.hb≠p.wb:=
 ⟨tag_ne h.t1 h.t2 (by simp),tag_ne h.t1 h.t3 (by simp),tag_ne h.t2 h.t3 (by simp)⟩
theorem PlOk.ne{w:World}{own:Nat→Option Tg}{r:Rs}{p:Pl}(h:PlOk w own r p):p.blk≠p.hb∧∀b,p.q.ownBlock=some b→b≠p.blk∧b≠p.hb:=
 ⟨tag_ne h.t1 h.t2 (by simp),fun b hb=>⟨tag_ne (h.t3 b hb) h.t1 (by simp),tag_ne (h.t3 b hb) h.t2 (by simp)⟩⟩
theorem TT.plHold{w w':World}{t:Nat}{s:Gs}{r:Rs}{q:Pl}{x m:Int}(h:TT w t s)(hq:s.pl r=some q)(hm0:m≠0)(hm:Mp (fun n:Int=>I n) 3 w' q.hb (upd (fun x=>nz (q.hf x)) x (some (I m))))(hc:Chg (fun k=>k=q.hb) w w') :
  TT w' t (s.setPl r (q.hold x m))∧Ext w w' s (s.setPl r (q.hold x m)):=by
 have ho:=h.pl r q hq
 refine h.setPl hq rfl (hc.mono (fun b e=>by rw[e];exact .inr (.inl ho.t2))) ⟨ho.blk.chg hc ho.ne.1,hm.congr (nz_upd q.hf x hm0),ho.q.keep (fun b e=>hc.block b (h.lt _ _ (ho.t3 b e)) (ho.ne.2 b e).2),ho.t1,ho.t2,ho.t3⟩
theorem TT.ptHold{w w':World}{t:Nat}{s:Gs}{x:Int}{p:Pt}{r:Rs}{m:Int}(h:TT w t s)(hp:s.lv x=some p)(hm0:m≠0)(hm:Mp Rs.v 33 w' p.hb (upd (fun r=>nz (p.hf r)) r (some (I m))))(hc:Chg (fun k=>k=p.hb) w w') :
  TT w' t (s.setPt x (p.hold r m))∧Ext w w' s (s.setPt x (p.hold r m)):=by
 have ho:=h.pt x p hp
 refine h.setPt hp rfl (hc.mono (fun b e=>by rw[e];exact .inr (.inl ho.t2))) ⟨ho.blk.chg hc ho.ne.1,hm.congr (nz_upd p.hf r hm0),ho.wm.chg hc (Ne.symm ho.ne.2.2),ho.t1,ho.t2,ho.t3⟩
theorem TT.ptCells{w w':World}{t:Nat}{s:Gs}{x:Int}{p p':Pt}(h:TT w t s)(hp:s.lv x=some p)(e1:p'.blk=p.blk)(e2:p'.hb=p.hb)(e3:p'.wb=p.wb)(e4:p'.hf=p.hf)(e5:p'.wd=p.wd)(hb:Blk w' p.blk 63 p'.cells)(hc:Chg (fun k=>k=p.blk) w w') :
  TT w' t (s.setPt x p')∧Ext w w' s (s.setPt x p'):=by
 have ho:=h.pt x p hp
 refine h.setPt hp e1 (hc.mono (fun b e=>by rw[e];exact .inl ho.t1)) ⟨by rw[e1];exact hb,?_,?_,by rw[e1];exact ho.t1,by rw[e2];exact ho.t2,by rw[e3];exact ho.t3⟩
 ·rw[e2,e4];exact ho.hm.chg hc (Ne.symm ho.ne.1)
 ·rw[e3,e5];exact ho.wm.chg hc (Ne.symm ho.ne.2.1)
theorem grant_any(t:Nat)(s:Gs)(x m:Int)(r:Rs)(p:Pt)(q:Pl)(w:World)(h:TT w t s)(hx:R64 x)(hr:r.ok)(hm0:m≠0)(hp:s.lv x=some p)(hq:s.pl r=some q)(L:List Int)(hL:∀z,q.hf z≠0→z∈L)(hl:L.length<maxLen)(LR:List Rs)(hLR:∀z,p.hf z≠0→z∈LR)(hlr:LR.length<maxLen) :
  Calls prog 58 #[ptr t,r.v,.agg #[I x,I m]] w fun e w'=>e=.returned (.tuple #[])∧TT w' t ((s.setPl r (q.hold x m)).setPt x (p.hold r m).rest)∧Ext w w' s ((s.setPl r (q.hold x m)).setPt x (p.hold r m).rest):=by
 have HS1:Hid ((fun W=>TT W t s∧Blk W w.heap.size 33 [I r.lv,.string r.lb,I r.id]∧Blk W (w.heap.size+1) 68 [I x,I m]∧G w W) ((((w.alloc (.cells #[I r.lv,.string r.lb,I r.id] 33)).alloc (.cells #[I x,I m] 68)).drew))):=by
  have g:=(((G.refl w).alloc (.cells #[I r.lv,.string r.lb,I r.id] 33)).alloc (.cells #[I x,I m] 68))
  have b1:=(Blk.new w [I r.lv,.string r.lb,I r.id] 33).G ((G.refl _).alloc (.cells #[I x,I m] 68))
  have b2:=Blk.new (w.alloc (.cells #[I r.lv,.string r.lb,I r.id] 33)) [I x,I m] 68
  simp only[World.size_alloc] at b2
  exact⟨h.G g.drew,b1.drew,b2.drew,g.drew⟩
 have HT:=hide h;have HX:=hide hx;have HRO:=hide hr;have HM0:=hide hm0;have HP:=hide hp;have HQ:=hide hq;have HL:=hide hL;have HLL:=hide hl;have HLR:=hide hLR;have HLRL:=hide hlr
 clear h hx hr hm0 hp hq hL hl hLR hlr
 simp only[Rs.v]
 go_enter func58,ntmps58
 go_wp2
 generalize (w.alloc (.cells #[I r.lv,.string r.lb,I r.id] 33)).alloc (.cells #[I x,I m] 68)=W0 at HS1⊢
 refine wp_region_noPanic ?_
 refine wp_region_L (S:=(fun W=>TT W t s∧Blk W w.heap.size 33 [I r.lv,.string r.lb,I r.id]∧Blk W (w.heap.size+1) 68 [I x,I m]∧G w W)) 13 (by kernel_rfl) (HS1.out) (fun hHeld=>?_)
 refine wpAnyL_take (i:=0) (v:=?_) rfl (by kernel_rfl) (by kernel_rfl) (by kernel_rfl) (by kernel_rfl) (fun _ _ _ h=>h) (Or.inl ⟨by rfl,?_⟩) hHeld ?_
 rotate_left 1
 ·(intro w hSw;obtain⟨h1,h2,h3,_⟩:=hSw;have hc:=h1.tb.cell;have hr:=h2.cell;have hq:=h3.cell;have hl:=h1.pm.look kyR underlying79 (zeroValue84 _) (kyR_ok.2 HRO.out);have hpc:=(h1.pl r q HQ.out).blk.cell;rw[HQ.out] at hl;simp only[Option.map_some,Option.getD_some,Rs.v] at hl;go_simp;try with_reducible rfl)
 try simp only[Act.put,zzA,zzB,zzD,zzE,zzF]
 refine wpAnyL_take (i:=1) (v:=?_) rfl (by kernel_rfl) (by kernel_rfl) (by kernel_rfl) (by kernel_rfl) (fun _ _ _ h=>h) (Or.inl ⟨by rfl,?_⟩) hHeld ?_
 rotate_left 1
 ·(intro w hSw;obtain⟨h1,h2,h3,_⟩:=hSw;have hc:=h1.tb.cell;have hr:=h2.cell;have hq:=h3.cell;have hl:=h1.pm.look kyR underlying79 (zeroValue84 _) (kyR_ok.2 HRO.out);have hpc:=(h1.pl r q HQ.out).blk.cell;rw[HQ.out] at hl;simp only[Option.map_some,Option.getD_some,Rs.v] at hl;go_simp;try with_reducible rfl)
 try simp only[Act.put,zzA,zzB,zzC,zzD,zzE,zzF]
 refine wpAnyL_take (i:=2) (v:=?_) rfl (by kernel_rfl) (by kernel_rfl) (by kernel_rfl) (by kernel_rfl) (fun _ _ _ h=>h) (Or.inl ⟨by rfl,?_⟩) hHeld ?_
 rotate_left 1
 ·(intro w hSw;obtain⟨h1,h2,h3,_⟩:=hSw;have hc:=h1.tb.cell;have hr:=h2.cell;have hq:=h3.cell;have hl:=h1.pm.look kyR underlying79 (zeroValue84 _) (kyR_ok.2 HRO.out);have hpc:=(h1.pl r q HQ.out).blk.cell;rw[HQ.out] at hl;simp only[Option.map_some,Option.getD_some,Rs.v] at hl;go_simp;try with_reducible rfl)
 try simp only[Act.put,zzA,zzB,zzC,zzD,zzE,zzF]
 refine wpAnyL_take (i:=3) (v:=?_) rfl (by kernel_rfl) (by kernel_rfl) (by kernel_rfl) (by kernel_rfl) (fun _ _ _ h=>h) (Or.inl ⟨by rfl,?_⟩) hHeld ?_
 rotate_left 1
 ·(intro w hSw;obtain⟨h1,h2,h3,_⟩:=hSw;have hc:=h1.tb.cell;have hr:=h2.cell;have hq:=h3.cell;have hl:=h1.pm.look kyR underlying79 (zeroValue84 _) (kyR_ok.2 HRO.out);have hpc:=(h1.pl r q HQ.out).blk.cell;rw[HQ.out] at hl;simp only[Option.map_some,Option.getD_some,Rs.v] at hl;go_simp;try with_reducible rfl)
 try simp only[Act.put,zzA,zzB,zzC,zzD,zzE,zzF]
 refine wpAnyL_take (i:=4) (v:=?_) rfl (by kernel_rfl) (by kernel_rfl) (by kernel_rfl) (by kernel_rfl) (fun _ _ _ h=>h) (Or.inl ⟨by rfl,?_⟩) hHeld ?_
 rotate_left 1
 ·(intro w hSw;obtain⟨h1,h2,h3,_⟩:=hSw;have hc:=h1.tb.cell;have hr:=h2.cell;have hq:=h3.cell;have hl:=h1.pm.look kyR underlying79 (zeroValue84 _) (kyR_ok.2 HRO.out);have hpc:=(h1.pl r q HQ.out).blk.cell;rw[HQ.out] at hl;simp only[Option.map_some,Option.getD_some,Rs.v] at hl;go_simp;try with_reducible rfl)
 try simp only[Act.put,zzA,zzB,zzC,zzD,zzE,zzF]
 refine wpAnyL_take (i:=5) (v:=?_) rfl (by kernel_rfl) (by kernel_rfl) (by kernel_rfl) (by kernel_rfl) (fun _ _ _ h=>h) (Or.inl ⟨by rfl,?_⟩) hHeld ?_
 rotate_left 1
 ·(intro w hSw;obtain⟨h1,h2,h3,_⟩:=hSw;have hc:=h1.tb.cell;have hr:=h2.cell;have hq:=h3.cell;have hl:=h1.pm.look kyR underlying79 (zeroValue84 _) (kyR_ok.2 HRO.out);have hpc:=(h1.pl r q HQ.out).blk.cell;rw[HQ.out] at hl;simp only[Option.map_some,Option.getD_some,Rs.v] at hl;go_simp;try with_reducible rfl)
 try simp only[Act.put,zzA,zzB,zzC,zzD,zzE,zzF]
 refine wpAnyL_take (i:=6) (v:=?_) rfl (by kernel_rfl) (by kernel_rfl) (by kernel_rfl) (by kernel_rfl) (fun _ _ _ h=>h) (Or.inl ⟨by rfl,?_⟩) hHeld ?_
 rotate_left 1
 ·(intro w hSw;obtain⟨h1,h2,h3,_⟩:=hSw;have hc:=h1.tb.cell;have hr:=h2.cell;have hq:=h3.cell;have hl:=h1.pm.look kyR underlying79 (zeroValue84 _) (kyR_ok.2 HRO.out);have hpc:=(h1.pl r q HQ.out).blk.cell;rw[HQ.out] at hl;simp only[Option.map_some,Option.getD_some,Rs.v] at hl;go_simp;try with_reducible rfl)
 try simp only[Act.put,zzA,zzB,zzC,zzD,zzE,zzF]
 refine wpAnyL_take (i:=7) (v:=?_) rfl (by kernel_rfl) (by kernel_rfl) (by kernel_rfl) (by kernel_rfl) (fun _ _ _ h=>h) (Or.inl ⟨by rfl,?_⟩) hHeld ?_
 rotate_left 1
 ·(intro w hSw;obtain⟨h1,h2,h3,_⟩:=hSw;have hc:=h1.tb.cell;have hr:=h2.cell;have hq:=h3.cell;have hl:=h1.pm.look kyR underlying79 (zeroValue84 _) (kyR_ok.2 HRO.out);have hpc:=(h1.pl r q HQ.out).blk.cell;rw[HQ.out] at hl;simp only[Option.map_some,Option.getD_some,Rs.v] at hl;go_simp;try with_reducible rfl)
 try simp only[Act.put,zzA,zzB,zzC,zzD,zzE,zzF]
 refine wpAnyL_take (i:=8) (v:=?_) rfl (by kernel_rfl) (by kernel_rfl) (by kernel_rfl) (by kernel_rfl) (fun _ _ _ h=>h) (Or.inl ⟨by rfl,?_⟩) hHeld ?_
 rotate_left 1
 ·(intro w hSw;obtain⟨h1,h2,h3,_⟩:=hSw;have hc:=h1.tb.cell;have hr:=h2.cell;have hq:=h3.cell;have hl:=h1.pm.look kyR underlying79 (zeroValue84 _) (kyR_ok.2 HRO.out);have hpc:=(h1.pl r q HQ.out).blk.cell;rw[HQ.out] at hl;simp only[Option.map_some,Option.getD_some,Rs.v] at hl;go_simp;try with_reducible rfl)
 try simp only[Act.put,zzA,zzB,zzC,zzD,zzE,zzF]
 refine wpAnyL_take (i:=9) (v:=?_) rfl (by kernel_rfl) (by kernel_rfl) (by kernel_rfl) (by kernel_rfl) (fun _ _ _ h=>h) (Or.inl ⟨by rfl,?_⟩) hHeld ?_
 rotate_left 1
 ·(intro w hSw;obtain⟨h1,h2,h3,_⟩:=hSw;have hc:=h1.tb.cell;have hr:=h2.cell;have hq:=h3.cell;have hl:=h1.pm.look kyR underlying79 (zeroValue84 _) (kyR_ok.2 HRO.out);have hpc:=(h1.pl r q HQ.out).blk.cell;rw[HQ.out] at hl;simp only[Option.map_some,Option.getD_some,Rs.v] at hl;go_simp;try with_reducible rfl)
 try simp only[Act.put,zzA,zzB,zzC,zzD,zzE,zzF]
 refine wpAnyL_take (i:=10) (v:=?_) rfl (by kernel_rfl) (by kernel_rfl) (by kernel_rfl) (by kernel_rfl) (fun _ _ _ h=>h) (Or.inl ⟨by rfl,?_⟩) hHeld ?_
 rotate_left 1
 ·(intro w hSw;obtain⟨h1,h2,h3,_⟩:=hSw;have hc:=h1.tb.cell;have hr:=h2.cell;have hq:=h3.cell;have hl:=h1.pm.look kyR underlying79 (zeroValue84 _) (kyR_ok.2 HRO.out);have hpc:=(h1.pl r q HQ.out).blk.cell;rw[HQ.out] at hl;simp only[Option.map_some,Option.getD_some,Rs.v] at hl;go_simp;try with_reducible rfl)
 try simp only[Act.put,zzA,zzB,zzC,zzD,zzE,zzF]
 refine wpAnyL_take (i:=11) (v:=?_) rfl (by kernel_rfl) (by kernel_rfl) (by kernel_rfl) (by kernel_rfl) (fun _ _ _ h=>h) (Or.inl ⟨by rfl,?_⟩) hHeld ?_
 rotate_left 1
 ·(intro w hSw;obtain⟨h1,h2,h3,_⟩:=hSw;have hc:=h1.tb.cell;have hr:=h2.cell;have hq:=h3.cell;have hl:=h1.pm.look kyR underlying79 (zeroValue84 _) (kyR_ok.2 HRO.out);have hpc:=(h1.pl r q HQ.out).blk.cell;rw[HQ.out] at hl;simp only[Option.map_some,Option.getD_some,Rs.v] at hl;go_simp;try with_reducible rfl)
 try simp only[Act.put,zzA,zzB,zzC,zzD,zzE,zzF]
 refine wpAnyL_take (i:=12) (v:=?_) rfl (by kernel_rfl) (by kernel_rfl) (by kernel_rfl) (by kernel_rfl) (fun _ _ _ h=>h) (Or.inl ⟨by rfl,?_⟩) hHeld ?_
 rotate_left 1
 ·(intro w hSw;obtain⟨h1,h2,h3,_⟩:=hSw;have hc:=h1.tb.cell;have hr:=h2.cell;have hq:=h3.cell;have hl:=h1.pm.look kyR underlying79 (zeroValue84 _) (kyR_ok.2 HRO.out);have hpc:=(h1.pl r q HQ.out).blk.cell;rw[HQ.out] at hl;simp only[Option.map_some,Option.getD_some,Rs.v] at hl;go_simp;try with_reducible rfl)
 try simp only[Act.put,zzA,zzB,zzC,zzD,zzE,zzF]
 refine wpAnyL_last (by kernel_rfl) rfl (by kernel_rfl) (fun K hK=>?_)
 obtain⟨h1,h2,h3,h4⟩:=hHeld
 refine wp_put _ _ _ 107 rfl (h1.pl r q HQ.out).hm rfl kyI L (fun z _ hz=>HL.out z (fun e=>hz (by simp[nz,e]))) HLL.out underlying107 x rfl (kyI_ok.2 HX.out) _ rfl (fun w5 hm5 hch5 hsz5=>?_)
 refine hK.out _ _ ?_
 clear hK K
 refine NoPanic.normal ?_
 have hqlt:=HT.out.lt _ _ (HT.out.pl r q HQ.out).t2
 obtain⟨T5,E5⟩:=h1.plHold HQ.out HM0.out hm5 hch5
 have HT5:=hide T5
 have HE5:=hide ((G.ext s h4).trans E5)
 have HB1:=hide (h2.chg hch5 (by omega))
 have HB2:=hide (h3.chg hch5 (by omega))
 clear hqlt T5 E5 h1 h2 h3 h4 hm5 hch5 hsz5 HS1
 obtain⟨s1,hs1⟩:∃s1,s1=s.setPl r (q.hold x m):=⟨_,rfl⟩
 have HP1:Hid (s1.lv x=some p):=by rw[hs1];exact HP.out
 rw[←hs1] at HT5 HE5
 have HS1:=hide hs1
 clear hs1
 have hc:=HT5.out.tb.cell
 have hq2:=HB2.out.cell
 have hl:=HT5.out.lm.lookN kyI underlying78 zeroValue55 (kyI_ok.2 HX.out)
 rw[HP1.out] at hl
 simp only[Option.map_some,Option.getD_some] at hl
 go_wp2
 go_quiet (fail)
 have HS2:Hid ((fun W=>TT W t s1∧Blk W w.heap.size 33 [I r.lv,.string r.lb,I r.id]∧Blk W (w.heap.size+1) 68 [I x,I m]∧Ext w W s s1) ((w5.drewN nq).drew)):=⟨HT5.out.keep (fun _ _ _=>rfl) (Nat.le_refl _),(HB1.out.drewN nq).drew,(HB2.out.drewN nq).drew,HE5.out.G (((G.refl w5).drewN nq).drew)⟩
 clear hl hc hq2 HT5 HE5 HB1 HB2
 go_wp2
 generalize w5.drewN nq=W6 at HS2⊢
 refine wp_region_noPanic ?_
 refine wp_region_L (S:=(fun W=>TT W t s1∧Blk W w.heap.size 33 [I r.lv,.string r.lb,I r.id]∧Blk W (w.heap.size+1) 68 [I x,I m]∧Ext w W s s1)) 7 (by kernel_rfl) (HS2.out) (fun hHeld=>?_)
 refine wpAnyL_take (i:=0) (v:=?_) rfl (by kernel_rfl) (by kernel_rfl) (by kernel_rfl) (by kernel_rfl) (fun _ _ _ h=>h) (Or.inl ⟨by rfl,?_⟩) hHeld ?_
 rotate_left 1
 ·(intro w hSw;obtain⟨h1,h2,h3,_⟩:=hSw;have hc:=h1.tb.cell;have hr:=h2.cell;have hq:=h3.cell;have hpc:=(h1.pt x p HP1.out).blk.cell;simp only[Pt.cells] at hpc;go_simp;try with_reducible rfl)
 try simp only[Act.put,zzA,zzB,zzD,zzE,zzF]
 refine wpAnyL_take (i:=1) (v:=?_) rfl (by kernel_rfl) (by kernel_rfl) (by kernel_rfl) (by kernel_rfl) (fun _ _ _ h=>h) (Or.inl ⟨by rfl,?_⟩) hHeld ?_
 rotate_left 1
 ·(intro w hSw;obtain⟨h1,h2,h3,_⟩:=hSw;have hc:=h1.tb.cell;have hr:=h2.cell;have hq:=h3.cell;have hpc:=(h1.pt x p HP1.out).blk.cell;simp only[Pt.cells] at hpc;go_simp;try with_reducible rfl)
 try simp only[Act.put,zzA,zzB,zzC,zzD,zzE,zzF]
 refine wpAnyL_take (i:=2) (v:=?_) rfl (by kernel_rfl) (by kernel_rfl) (by kernel_rfl) (by kernel_rfl) (fun _ _ _ h=>h) (Or.inl ⟨by rfl,?_⟩) hHeld ?_
 rotate_left 1
 ·(intro w hSw;obtain⟨h1,h2,h3,_⟩:=hSw;have hc:=h1.tb.cell;have hr:=h2.cell;have hq:=h3.cell;have hpc:=(h1.pt x p HP1.out).blk.cell;simp only[Pt.cells] at hpc;go_simp;try with_reducible rfl)
 try simp only[Act.put,zzA,zzB,zzC,zzD,zzE,zzF]
 refine wpAnyL_take (i:=3) (v:=?_) rfl (by kernel_rfl) (by kernel_rfl) (by kernel_rfl) (by kernel_rfl) (fun _ _ _ h=>h) (Or.inl ⟨by rfl,?_⟩) hHeld ?_
 rotate_left 1
 ·(intro w hSw;obtain⟨h1,h2,h3,_⟩:=hSw;have hc:=h1.tb.cell;have hr:=h2.cell;have hq:=h3.cell;have hpc:=(h1.pt x p HP1.out).blk.cell;simp only[Pt.cells] at hpc;go_simp;try with_reducible rfl)
 try simp only[Act.put,zzA,zzB,zzC,zzD,zzE,zzF]
 refine wpAnyL_take (i:=4) (v:=?_) rfl (by kernel_rfl) (by kernel_rfl) (by kernel_rfl) (by kernel_rfl) (fun _ _ _ h=>h) (Or.inl ⟨by rfl,?_⟩) hHeld ?_
 rotate_left 1
 ·(intro w hSw;obtain⟨h1,h2,h3,_⟩:=hSw;have hc:=h1.tb.cell;have hr:=h2.cell;have hq:=h3.cell;have hpc:=(h1.pt x p HP1.out).blk.cell;simp only[Pt.cells] at hpc;go_simp;try with_reducible rfl)
 try simp only[Act.put,zzA,zzB,zzC,zzD,zzE,zzF]
 refine wpAnyL_take (i:=5) (v:=?_) rfl (by kernel_rfl) (by kernel_rfl) (by kernel_rfl) (by kernel_rfl) (fun _ _ _ h=>h) (Or.inl ⟨by rfl,?_⟩) hHeld ?_
 rotate_left 1
 ·(intro w hSw;obtain⟨h1,h2,h3,_⟩:=hSw;have hc:=h1.tb.cell;have hr:=h2.cell;have hq:=h3.cell;have hpc:=(h1.pt x p HP1.out).blk.cell;simp only[Pt.cells] at hpc;go_simp;try with_reducible rfl)
 try simp only[Act.put,zzA,zzB,zzC,zzD,zzE,zzF]
 refine wpAnyL_take (i:=6) (v:=?_) rfl (by kernel_rfl) (by kernel_rfl) (by kernel_rfl) (by kernel_rfl) (fun _ _ _ h=>h) (Or.inl ⟨by rfl,?_⟩) hHeld ?_
 rotate_left 1
 ·(intro w hSw;obtain⟨h1,h2,h3,_⟩:=hSw;have hc:=h1.tb.cell;have hr:=h2.cell;have hq:=h3.cell;have hpc:=(h1.pt x p HP1.out).blk.cell;simp only[Pt.cells] at hpc;go_simp;try with_reducible rfl)
 try simp only[Act.put,zzA,zzB,zzC,zzD,zzE,zzF]
 refine wpAnyL_last (by kernel_rfl) rfl (by kernel_rfl) (fun K hK=>?_)
 obtain⟨h1,h2,h3,h4⟩:=hHeld
 refine wp_put _ _ _ 60 rfl (h1.pt x p HP1.out).hm rfl kyR LR (fun z _ hz=>HLR.out z (fun e=>hz (by simp[nz,e]))) HLRL.out underlying60 r rfl (kyR_ok.2 HRO.out) _ rfl (fun w7 hm7 hch7 hsz7=>?_)
 refine hK.out _ _ ?_
 clear hK K
 refine NoPanic.normal ?_
 obtain⟨T7,E7⟩:=h1.ptHold HP1.out HM0.out hm7 hch7
 have HT7:=hide T7
 have HE7:=hide (h4.trans E7)
 clear T7 E7 h1 h2 h3 h4 hm7 hch7 hsz7 HS2
 have hp7:(s1.setPt x (p.hold r m)).lv x=some (p.hold r m):=by simp[Gs.setPt]
 have HP7:=hide hp7
 have hb7:=(HT7.out.pt x _ hp7).blk
 have HB7:=hide hb7
 have hc7:=hb7.cell
 have hf7:=hb7.frozen
 simp only[Pt.cells,Pt.hold] at hc7 hf7
 clear hp7 hb7
 go_wp2
 go_end0
 have hb8:=(((HB7.out.set 2 (I 0)).set 3 (.string ByteArray.empty)).set 4 (I 0)).set 5 (I 0)
 have hch:Chg (fun k=>k=p.blk) w7 ((((w7.setCell ⟨p.blk,2,none⟩ (I 0)).setCell ⟨p.blk,3,none⟩ (.string ByteArray.empty)).setCell ⟨p.blk,4,none⟩ (I 0)).setCell ⟨p.blk,5,none⟩ (I 0)):=
  (((chgk w7 p.blk 2 _).trans (chgk _ p.blk 3 _)).trans (chgk _ p.blk 4 _)).trans (chgk _ p.blk 5 _)
 obtain⟨T8,E8⟩:=HT7.out.ptCells (p':=(p.hold r m).rest) HP7.out rfl rfl rfl rfl rfl hb8 hch
 rw[Gs.setPt_setPt,HS1.out] at T8 E8
 have E7:=HE7.out
 rw[HS1.out] at E7
 exact⟨rfl,T8,E7.trans E8⟩
end
end Go.Proofs.YtadfaiciolfgjaaGreatDoor
