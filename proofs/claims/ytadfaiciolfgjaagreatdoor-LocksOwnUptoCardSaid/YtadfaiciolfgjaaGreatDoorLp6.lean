import Derived.Test.YtadfaiciolfgjaaGreatDoorLp4
namespace Go.Proofs.YtadfaiciolfgjaaGreatDoor
open Go.Proofs.Tryz
set_option maxHeartbeats 2000000
set_option maxRecDepth 100000
section
open Go.RowKit
theorem queue_rno(b:Nat)(r:Rs)(w:World)(hr:resB r=false):Calls prog 43 #[ptr b,.agg #[I r.lv,.string r.lb,I r.id]] w fun e w'=>e=.returned (.slice none 0 0)∧G w w':=by
 have KR:=hide (res_r r (w.alloc (.cells #[I r.lv,.string r.lb,I r.id] 33)))
 rw[hr] at KR
 have hc:=(Blk.new w [I r.lv,.string r.lb,I r.id] 33).cell
 clear hr
 go_enter func43,ntmps43
 go_wp2_with (first|(go_at_call 23;with_reducible refine(KR.out).mono ?_;rintro e w' ⟨rfl,rfl⟩)|fail)
 go_ret
 exact⟨rfl,((G.refl w).alloc _).alloc _⟩
theorem holders_rno(b:Nat)(r:Rs)(w:World)(hr:resB r=false):Calls prog 41 #[ptr b,.agg #[I r.lv,.string r.lb,I r.id]] w fun e w'=>e=.returned (.slice none 0 0)∧G w w':=by
 have KR:=hide (res_r r (w.alloc (.cells #[I r.lv,.string r.lb,I r.id] 33)))
 rw[hr] at KR
 have hc:=(Blk.new w [I r.lv,.string r.lb,I r.id] 33).cell
 clear hr
 go_enter func41,ntmps41
 go_wp2_with (first|(go_at_call 23;with_reducible refine(KR.out).mono ?_;rintro e w' ⟨rfl,rfl⟩)|fail)
 go_ret
 exact⟨rfl,((G.refl w).alloc _).alloc _⟩
theorem wLt_asym(a b:Int×Int×Rs)(h:wLt a b):¬wLt b a:=by
 unfold wLt at *
 omega
section
variable {w:World} {t b c:Nat} {m:Ms} {L:List Int} {LR:List Rs} {s:Gs} {R:Rt} {D:Nat→Prop}
theorem mode_both(h:PQ w t b m L LR s R D c)(hc:c<200000000000){x:Int}(hx:R64 x){r:Rs}(hro:r.ok):∃v e2,(∀U,G w U→Calls prog 73 #[ptr t,I x,.agg #[I r.lv,.string r.lb,I r.id]] U fun e w'=>e=.returned (.tuple #[I v,I e2])∧G U w')∧(∀U,G w U→Calls prog 74 #[ptr b,I x,.agg #[I r.lv,.string r.lb,I r.id]] U fun e w'=>e=.returned (.tuple #[I v,I e2])∧G U w'):=by
 have h1:=h.lt;have h2:=h.la
 cases hp:m.lv x with
 | none=>
  refine⟨0,80,fun U g=>Mode_none t s x r U (h.G g).gt.tt hx (h.gt.ab.none.2 hp),fun U g=>?_⟩
  obtain⟨vt,vh,va,tv,hR⟩:=(h.G g).rt
  exact mode_rno hR x r (tx_no h.rm hp) (by omega)
 | some p=>
  obtain⟨q,hq,hqm⟩:=h.gt.ab.of hp
  obtain⟨i,te,hi,-,-⟩:=tx_idx h.rm hp
  refine⟨if resB r then p.hf r else 0,if resB r then 0 else 82,fun U g=>?_,fun U g=>?_⟩
  ·have h3:=mode_any t s x r U q (h.G g).gt.tt hx hro hq
   rw[show q.hf=p.hf by rw[←hqm];rfl] at h3
   exact h3
  ·obtain⟨vt,vh,va,tv,hR⟩:=(h.G g).rt
   have h3:=mode_r hR x r i hi (by omega) (by omega)
   rw[h.rm.hq.hb,hl_some hp] at h3
   exact h3
theorem waiting_both(h:PQ w t b m L LR s R D c)(hc:c<200000000000){x:Int}(hx:R64 x):∃(q:Rs) (v e2:Int),(∀U,G w U→Calls prog 75 #[ptr t,I x] U fun e w'=>e=.returned (.tuple #[.agg #[I q.lv,.string q.lb,I q.id],I v,I e2])∧G U w')∧(∀U,G w U→Calls prog 76 #[ptr b,I x] U fun e w'=>e=.returned (.tuple #[.agg #[I q.lv,.string q.lb,I q.id],I v,I e2])∧G U w'):=by
 have h1:=h.lt;have h2:=h.la
 cases hp:m.lv x with
 | none=>
  refine⟨r0,0,80,fun U g=>waiting_n (h.G g).gt hx hp,fun U g=>?_⟩
  obtain⟨vt,vh,va,tv,hR⟩:=(h.G g).rt
  exact waiting_rno hR x (tx_no h.rm hp) (by omega)
 | some p=>
  obtain⟨i,te,hi,-,-⟩:=tx_idx h.rm hp
  have hpi:=h.gt.iv.lv x p hp
  refine⟨p.at_,p.goal,0,fun U g=>waiting_t (h.G g).gt hp,fun U g=>?_⟩
  obtain⟨vt,vh,va,tv,hR⟩:=(h.G g).rt
  by_cases hg0:p.goal=0
  ·have hnq:∀e∈R.aq,(e.x==x)=false:=fun e he=>by
    cases he2:(e.x==x)with
    | false=>rfl
    | true=>
     exfalso
     have hex:e.x=x:=by simpa using he2
     refine no_req h.gt.iv hp hg0 e.r e.c ?_
     rw[←h.rm.hq.qa,←hex]
     exact queP_mem.2 ⟨e,he,rfl,rfl,rfl⟩
   rw[hg0,hpi.g0 hg0]
   exact waiting_rnone hR x i hi hnq (by omega) (by omega)
  ·have hin:(x,p.goal)∈m.qs p.at_:=(h.gt.iv.qm p.at_ x p.goal).2 ⟨p,hp,rfl,hg0,rfl⟩
   rw[←h.rm.hq.qa] at hin
   obtain⟨e,he,e1,e2,e3⟩:=queP_mem.1 hin
   rcases idxI_cases (fun e:Lk=>e.x==x) R.aq with ⟨-,h4⟩|⟨n,a,h3,h4,h5,-⟩
   ·have:=h4 e he
    simp[e2] at this
   ·have hax:a.x=x:=by simpa using h5
    have hin2:(x,a.c)∈m.qs a.r:=by
     rw[←h.rm.hq.qa,←hax]
     exact queP_mem.2 ⟨a,List.mem_of_getElem? h4,rfl,rfl,rfl⟩
    obtain⟨p2,k1,k2,-,k4⟩:=(h.gt.iv.qm a.r x a.c).1 hin2
    rw[hp] at k1
    cases k1
    have h6:=waiting_r hR x i hi n a h3 h4 (by omega) (by omega)
    rw[←k4,←k2] at h6
    exact h6
theorem wounders_both(h:PQ w t b m L LR s R D c)(hc:c<200000000000)(hL:L.length<100000000000){x:Int}(hx:R64 x):∃(ids:List Int) (e2:Int),ids.length<4100000000000∧(∀U,G w U→Calls prog 50 #[ptr t,I x] U fun e w'=>∃v,e=.returned (.tuple #[v,I e2])∧w'.ownsRow U.heap.size 3 1 v ids.length (ids.map fun z=>I z)∧G U w')∧(∀U,G w U→Calls prog 51 #[ptr b,I x] U fun e w'=>∃v,e=.returned (.tuple #[v,I e2])∧w'.ownsRow U.heap.size 3 1 v ids.length (ids.map fun z=>I z)∧G U w'):=by
 have h1:=h.lt;have h2:=h.la
 cases hp:m.lv x with
 | none=>
  refine⟨[],80,by simp,fun U g=>?_,fun U g=>?_⟩
  ·refine(wounders_none t s x U (h.G g).gt.tt hx (h.gt.ab.none.2 hp)).mono ?_
   rintro e w' ⟨rfl,g2⟩
   exact⟨_,rfl,⟨rfl,.inl ⟨rfl,rfl⟩⟩,g2⟩
  ·obtain⟨vt,vh,va,tv,hR⟩:=(h.G g).rt
   refine(wounders_rno hR x (tx_no h.rm hp) (by omega)).mono ?_
   rintro e w' ⟨rfl,rfl⟩
   exact⟨_,rfl,⟨rfl,.inl ⟨rfl,rfl⟩⟩,G.refl _⟩
 | some p=>
  obtain⟨i,te,hi,hte,htx⟩:=tx_idx h.rm hp
  obtain⟨ids,k1,k2,k3,k4⟩:=wounders_t h.gt (by omega) hp
  obtain⟨p2,l1,-,l3,l4⟩:=h.rm.tx.ok te (List.mem_of_getElem? hte)
  rw[htx,hp] at l1
  cases l1
  have he:te.ws=ids:=rise_int l3 k1 (fun a=>by rw[l4,k2])
  refine⟨ids,0,by omega,fun U g=>k4 U g,fun U g=>?_⟩
  obtain⟨vt,vh,va,tv,hR⟩:=(h.G g).rt
  have h6:=wounders_r hR x i te hi hte (by omega) (by rw[he];omega)
  rw[he] at h6
  exact h6
theorem wounded_both(h:PQ w t b m L LR s R D c)(hc:c<200000000000)(hL:L.length<100000000000){x:Int}(hx:R64 x):∃(bo:Bool) (e2:Int),(∀U,G w U→Calls prog 77 #[ptr t,I x] U fun e w'=>e=.returned (.tuple #[.bool bo,I e2])∧G U w')∧(∀U,G w U→Calls prog 78 #[ptr b,I x] U fun e w'=>e=.returned (.tuple #[.bool bo,I e2])∧G U w'):=by
 have h1:=h.lt;have h2:=h.la
 cases hp:m.lv x with
 | none=>
  refine⟨false,80,fun U g=>wounded_none t s x U (h.G g).gt.tt hx (h.gt.ab.none.2 hp),fun U g=>?_⟩
  obtain⟨vt,vh,va,tv,hR⟩:=(h.G g).rt
  refine(wounded_rno hR x (tx_no h.rm hp) (by omega)).mono ?_
  rintro e w' ⟨rfl,rfl⟩
  exact⟨rfl,G.refl _⟩
 | some p=>
  obtain⟨i,te,hi,hte,htx⟩:=tx_idx h.rm hp
  obtain⟨ids,k1,k2,k3,-⟩:=wounders_t h.gt (by omega) hp
  obtain⟨p2,l1,-,l3,l4⟩:=h.rm.tx.ok te (List.mem_of_getElem? hte)
  rw[htx,hp] at l1
  cases l1
  have he:te.ws=ids:=rise_int l3 k1 (fun a=>by rw[l4,k2])
  have hh:decide (0<te.ws.length)=p.hurt:=by
   cases hu:p.hurt with
   | true=>
    obtain⟨y,hy⟩:=Pm.hurt_iff.1 hu
    have:=List.length_pos_of_mem ((l4 y).2 hy)
    simp[this]
   | false=>
    have:te.ws=[]:=by
     cases hw:te.ws with
     | nil=>rfl
     | cons y l=>
      have h7:=(l4 y).1 (by rw[hw];simp)
      rw[Pm.hurt_no.1 hu] at h7;cases h7
    simp[this]
  refine⟨p.hurt,0,fun U g=>?_,fun U g=>?_⟩
  ·refine(wounded_t (h.G g).gt hp).mono ?_
   rintro e w' ⟨rfl,rfl⟩
   exact⟨rfl,G.refl _⟩
  ·obtain⟨vt,vh,va,tv,hR⟩:=(h.G g).rt
   have h6:=wounded_r hR x i te hi hte (by omega) (by rw[he];omega)
   rw[hh] at h6
   exact h6
theorem bk_of(h:RM R m):Bk m (R.tx.map fun e=>(e.x,e.st)):=by
 refine⟨by rw[List.map_map];exact h.tx.nd,fun x st=>?_⟩
 constructor
 ·intro hh
  obtain⟨e,he,e2⟩:=List.mem_map.1 hh
  cases e2
  obtain⟨p,k1,k2,-⟩:=h.tx.ok e he
  exact⟨p,k1,k2⟩
 ·rintro⟨p,hp,hs⟩
  obtain⟨e,he,hex⟩:=h.tx.all x p hp
  obtain⟨q,k1,k2,-⟩:=h.tx.ok e he
  rw[hex,hp] at k1
  cases k1
  exact List.mem_map.2 ⟨e,he,by rw[hex,←k2,hs]⟩
theorem liv_same(h:RM R m):srt ((R.tx.map fun e=>(e.x,e.st)).map fun a=>a.1)=livP R:=by
 refine rise_int (srt_lt (bk_of h).nd) (putsP_up _) (fun a=>?_)
 rw[(srt_perm _).mem_iff,livP,putsP_mem,List.map_map]
 exact Iff.rfl
theorem live_both(h:PQ w t b m L LR s R D c)(hc:c<200000000000):∃ids:List Int,ids.length<4100000000000∧(∀U,G w U→Calls prog 45 #[ptr t] U fun e w'=>∃v,e=.returned v∧w'.ownsRow U.heap.size 3 1 v ids.length (ids.map fun z=>I z)∧G U w')∧(∀U,G w U→Calls prog 46 #[ptr b] U fun e w'=>∃v,e=.returned v∧w'.ownsRow U.heap.size 3 1 v ids.length (ids.map fun z=>I z)∧G U w'):=by
 have h1:=h.lt;have h2:=h.la
 have hs:=liv_same h.rm
 have hlen:(livP R).length=R.tx.length:=by rw[←hs,srt_len,List.length_map,List.length_map]
 refine⟨livP R,by omega,fun U g=>?_,fun U g=>?_⟩
 ·have h3:=live_t (h.G g).gt (bk_of h.rm) (by rw[List.length_map];omega)
  rw[hs,List.length_map,←hlen] at h3
  exact h3
 ·obtain⟨vt,vh,va,tv,hR⟩:=(h.G g).rt
  exact live_r hR (by omega)
theorem no_res(h:PQ w t b m L LR s R D c){r:Rs}(hb:resB r=false):(∀a,m.hl r a=0)∧m.qs r=[]:=by
 have hnp:¬ResP r:=fun hh=>by rw[(resB_iff r).2 hh] at hb;cases hb
 refine⟨fun a=>Decidable.byContradiction fun hh=>?_,?_⟩
 ·obtain⟨p,hp,hf⟩:=hl_live hh
  exact hnp ((h.gt.iv.lv a p hp).hf r hf).2.2.2
 ·cases hq:m.qs r with
  | nil=>rfl
  | cons o l=>
   obtain⟨p,hp,hg,hg0,ha⟩:=(h.gt.iv.qm r o.1 o.2).1 (by rw[hq];simp)
   have:=((h.gt.iv.lv _ p hp).g1 (by rw[hg];exact hg0)).2.2.2
   rw[ha] at this
   exact absurd this hnp
theorem queue_both(h:PQ w t b m L LR s R D c)(hc:c<200000000000)(hL:L.length<100000000000){r:Rs}(hro:r.ok):∃l:List (Int×Int),l.length<4100000000000∧(∀U,G w U→Calls prog 42 #[ptr t,.agg #[I r.lv,.string r.lb,I r.id]] U fun e w'=>∃v,e=.returned v∧w'.ownsRow U.heap.size 68 2 v l.length (qc l)∧G U w')∧(∀U,G w U→Calls prog 43 #[ptr b,.agg #[I r.lv,.string r.lb,I r.id]] U fun e w'=>∃v,e=.returned v∧w'.ownsRow U.heap.size 68 2 v l.length (qc l)∧G U w'):=by
 have h1:=h.lt;have h2:=h.la
 have hql:=qs_len h.gt r
 refine⟨m.qs r,by omega,fun U g=>queue_t (h.G g).gt hro (by omega),fun U g=>?_⟩
 obtain⟨vt,vh,va,tv,hR⟩:=(h.G g).rt
 cases hb:resB r with
 | true=>
  have h3:=queue_r hR r hb (by omega)
  rw[h.rm.hq.qa] at h3
  exact h3
 | false=>
  rw[(no_res h hb).2]
  refine(queue_rno b r U hb).mono ?_
  rintro e w' ⟨rfl,g2⟩
  exact⟨_,rfl,⟨rfl,.inl ⟨rfl,rfl⟩⟩,g2⟩
theorem hld_of(h:RM R m)(r:Rs):HdP m r (hldP r R.hd):=by
 have hm:∀a,a∈hidP r R.hd↔m.hl r a≠0:=fun a=>by
  unfold hidP
  rw[putsP_mem]
  constructor
  ·intro hh
   obtain⟨e,he,rfl⟩:=List.mem_map.1 hh
   obtain⟨he1,he2⟩:=List.mem_filter.1 he
   have her:e.r=r:=by simpa using he2
   obtain⟨k1,k2⟩:=h.hq.h1 e he1
   rw[her] at k1
   rw[←k1];exact k2
  ·intro hh
   obtain⟨e,he,k1,k2⟩:=h.hq.h2 r a hh
   exact List.mem_map.2 ⟨e,List.mem_filter.2 ⟨he,by simp[k1]⟩,k2⟩
 refine⟨fun a c=>?_,?_⟩
 ·unfold hldP
  constructor
  ·intro hh
   obtain⟨y,hy,e⟩:=List.mem_map.1 hh
   cases e
   rw[h.hq.hb]
   exact⟨rfl,(hm _).1 hy⟩
  ·rintro⟨rfl,hh⟩
   exact List.mem_map.2 ⟨a,(hm a).2 hh,by rw[h.hq.hb]⟩
 ·unfold hldP
  rw[List.map_map]
  have:(Prod.fst∘fun a=>(a,hbI a r R.hd))=id:=rfl
  rw[this,List.map_id]
  exact putsP_up _
theorem hdP_one{r:Rs}{l1 l2:List (Int×Int)}(h1:HdP m r l1)(h2:HdP m r l2):l1=l2:=
 rise_one (R:=fun a b:Int×Int=>a.1<b.1) (fun a b h=>by omega) l1 l2 (List.pairwise_map.1 h1.ord) (List.pairwise_map.1 h2.ord) (fun a=>by rw[show a=(a.1,a.2)from rfl,h1.mem,h2.mem])
theorem holders_both(h:PQ w t b m L LR s R D c)(hc:c<200000000000)(hL:L.length<100000000000){r:Rs}(hro:r.ok):∃l:List (Int×Int),l.length<4100000000000∧(∀U,G w U→Calls prog 40 #[ptr t,.agg #[I r.lv,.string r.lb,I r.id]] U fun e w'=>∃v,e=.returned v∧w'.ownsRow U.heap.size 68 2 v l.length (qc l)∧G U w')∧(∀U,G w U→Calls prog 41 #[ptr b,.agg #[I r.lv,.string r.lb,I r.id]] U fun e w'=>∃v,e=.returned v∧w'.ownsRow U.heap.size 68 2 v l.length (qc l)∧G U w'):=by
 have h1:=h.lt;have h2:=h.la
 have hlen:(hldP r R.hd).length≤R.hd.length:=by unfold hldP;rw[List.length_map];exact hidP_len _ _
 refine⟨hldP r R.hd,by omega,fun U g=>?_,fun U g=>?_⟩
 ·refine(holders_t (h.G g).gt hro (by omega)).mono ?_
  rintro e w' ⟨v,hs,rfl,k1,k2,k3,-⟩
  rw[hdP_one k1 (hld_of h.rm r)] at k2
  exact⟨v,rfl,k2,k3⟩
 ·obtain⟨vt,vh,va,tv,hR⟩:=(h.G g).rt
  cases hb:resB r with
  | true=>exact holders_r hR r hb (by omega)
  | false=>
   have hnil:hldP r R.hd=[]:=hdP_one (hld_of h.rm r) ⟨fun a c=>⟨fun hh=>(by cases hh),fun hh=>by
    rw[(no_res h hb).1 a] at hh
    exact absurd hh.1 hh.2⟩,List.Pairwise.nil⟩
   rw[hnil]
   refine(holders_rno b r U hb).mono ?_
   rintro e w' ⟨rfl,g2⟩
   exact⟨_,rfl,⟨rfl,.inl ⟨rfl,rfl⟩⟩,g2⟩
theorem wai_of(h:PQ w t b m L LR s R D c):∀(ids:List Int),ids.Pairwise (·<·)→(∀x∈ids,∃p,m.lv x=some p)→∀n,n≤ids.length→WtP m (ids.take n) (waiP R (ids.take n)):=fun ids hup hlv n=>by
 induction n with
 | zero=>intro _;exact WtP.nil m
 | succ n ih=>
  intro hn
  obtain⟨x,hx⟩:∃x,ids[n]?=some x:=⟨_,List.getElem?_eq_getElem (by omega)⟩
  obtain⟨p,hp⟩:=hlv x (List.mem_of_getElem? hx)
  have ih:=ih (by omega)
  obtain⟨i,te,hi,hte,htx⟩:=tx_idx h.rm hp
  obtain⟨p2,l1,-,l3,l4⟩:=h.rm.tx.ok te (List.mem_of_getElem? hte)
  rw[htx,hp] at l1
  cases l1
  rw[waiP_snoc R hx]
  rcases idxI_cases (fun e:Lk=>e.x==x) R.aq with ⟨-,h4⟩|⟨k,q,h3,h4,h5,h6⟩
  ·rw[waiX_no h4,List.append_nil]
   refine ih.skip hx hp (.inl (Decidable.byContradiction fun hg=>?_))
   have hin:(x,p.goal)∈m.qs p.at_:=(h.gt.iv.qm p.at_ x p.goal).2 ⟨p,hp,rfl,hg,rfl⟩
   rw[←h.rm.hq.qa] at hin
   obtain⟨e,he,-,e2,-⟩:=queP_mem.1 hin
   have:=h4 e he
   simp[e2] at this
  ·have hqx:q.x=x:=by simpa using h5
   rcases idxI_cases (fun e:Tx=>e.x==x) R.tx with ⟨-,m2⟩|⟨i2,t2,m1,m2,m3,m4⟩
   ·have:=m2 te (List.mem_of_getElem? hte)
    simp[htx] at this
   have hii:i2=i:=by rw[hi] at m1;omega
   subst hii
   rw[hte] at m2
   cases m2
   rw[waiX_at h4 hqx h6 hte htx m4]
   have hat:=h.rm.hq.at h4
   rw[hqx] at hat
   obtain⟨p3,n1,n2,n3,n4⟩:=(h.gt.iv.qm q.r x q.c).1 (List.mem_of_getElem? hat)
   rw[hp] at n1
   cases n1
   by_cases hw:te.ws=[]
   ·rw[if_pos hw,←n4]
    have hun:p.hurt=false:=Pm.hurt_no.2 (fun z=>by
     cases hz:p.wd z with
     | false=>rfl
     | true=>have:=(l4 z).2 hz;rw[hw] at this;cases this)
    refine ih.add hup hx hp (by rw[n2];exact n3) hun (inwP_up R k q) (fun y=>?_)
    have hwy:=h.rm.hq.way R.tx h4 (h.gt.iv.qn _) y
    rw[hqx] at hwy
    rw[hwy]
    constructor
    ·intro hh
     exact⟨_,by rw[n4,n2];exact hat,by rw[n4,n2];exact hh⟩
    ·rintro⟨i9,k1,k2⟩
     rw[n4,n2] at k1 k2
     have:=nodup_at (h.gt.iv.qn q.r) k1 hat
     rw[←this];exact k2
   ·rw[if_neg hw,List.append_nil]
    refine ih.skip hx hp (.inr ?_)
    obtain⟨z,hz⟩:=List.exists_mem_of_ne_nil _ hw
    exact Pm.hurt_iff.2 ⟨z,(l4 z).1 hz⟩
theorem wtP_one{ids:List Int}{l1 l2:List (Int×Int×Rs)}(h1:WtP m ids l1)(h2:WtP m ids l2):l1=l2:=rise_one wLt_asym l1 l2 h1.ord h2.ord (fun a=>by rw[h1.mem,h2.mem])
theorem waits_both(h:PQ w t b m L LR s R D c)(hc:c*L.length<2000000000000)(hc2:c<200000000000)(hL:L.length<100000000000):∃l:List (Int×Int×Rs),l.length<2000000000000∧(∀U,G w U→Calls prog 48 #[ptr t] U fun e w'=>∃v,e=.returned v∧w'.ownsRow U.heap.size 101 5 v l.length (gc l)∧G U w')∧(∀U,G w U→Calls prog 49 #[ptr b] U fun e w'=>∃v,e=.returned v∧w'.ownsRow U.heap.size 101 5 v l.length (gc l)∧G U w'):=by
 have h1:=h.lt;have h2:=h.la
 have hs:=liv_same h.rm
 have hw:WtP m (livP R) (waiP R (livP R)):=by
  have h3:=wai_of h (livP R) (putsP_up _) (fun x hx=>by
   obtain⟨e,he,rfl⟩:=List.mem_map.1 ((putsP_mem (R.tx.map Tx.x) x).1 hx)
   obtain⟨p,k1,-⟩:=h.rm.tx.ok e he
   exact⟨p,k1⟩) (livP R).length (Nat.le_refl _)
  rw[List.take_length] at h3
  exact h3
 have hB:∀n q,R.aq[n]?=some q→(inwP R n q).length≤L.length:=fun n q hq=>nodup_sub_le0 _ L (rise_nodup (inwP_up R n q)) (fun y hy=>by
  have h3:=(h.rm.hq.way R.tx hq (h.gt.iv.qn _) y).1 hy
  obtain⟨-,p,hp⟩:=h.gt.iv.way (fun j g' hj hj2=>by have:=nodup_at (h.gt.iv.qn _) (h.rm.hq.at hq) hj2;omega) h3
  exact(h.gt.iv.lv y p hp).xl)
 have hmul:R.tx.length*L.length<2000000000000:=Nat.lt_of_le_of_lt (Nat.mul_le_mul_right _ h1) hc
 have hll:(livP R).length≤R.tx.length:=by
  have:=putsP_len (R.tx.map Tx.x)
  rw[List.length_map] at this
  exact this
 have hlen:=waiP_len hB (livP R)
 have hlen2:(livP R).length*L.length≤R.tx.length*L.length:=Nat.mul_le_mul_right _ hll
 refine⟨waiP R (livP R),by omega,fun U g=>?_,fun U g=>?_⟩
 ·refine(waits_t (h.G g).gt (bk_of h.rm) (by rw[List.length_map];omega) (by omega) (by rw[List.length_map];exact hmul)).mono ?_
  rintro e w' ⟨v,wl,rfl,k1,k2,k3,-⟩
  rw[hs] at k1
  rw[wtP_one k1 hw] at k2
  exact⟨v,rfl,k2,k3⟩
 ·obtain⟨vt,vh,va,tv,hR⟩:=(h.G g).rt
  exact waits_r hR L.length hB hmul (by omega)
end
end
section
open Go.RowKit
theorem tells_mode{w:World}{tw t b j c:Nat}{m:Ms}{L:List Int}{LR:List Rs}{s:Gs}{R:Rt}{D:Nat→Prop}(h:PQ w t b m L LR s R D c)(who x st md:Int)(r:Rs)(hj:j<2)(hw:bits BinOp.and IntKind.i64 who 1=(j:Int))(k1:w.cell? ⟨tw,j,none⟩=some (ptr t))(k2:w.cell? ⟨tw,2+j,none⟩=some (ptr b))(htw:tw<w.heap.size)(hx:R64 x)(hxl:x∈L)(hr:r∈LR)(hro:r.ok)(hL:L.length<100000000000)(hLR:LR.length<2000000000000)(hc:c<200000000000):Calls prog 38 #[ptr tw,.agg #[I 4,I who,I x,I st,I r.lv,.string r.lb,I r.id,I md]] w fun e w'=>e=.returned (.bool true)∧G w w':=by
 have HG1:Hid (G w (w.alloc (.cells #[I 4,I who,I x,I st,I r.lv,.string r.lb,I r.id,I md] 35))):=(G.refl w).alloc _
 have HB1:Hid (Blk (w.alloc (.cells #[I 4,I who,I x,I st,I r.lv,.string r.lb,I r.id,I md] 35)) w.heap.size 35 [I 4,I who,I x,I st,I r.lv,.string r.lb,I r.id,I md]):=Blk.new w _ 35
 have hbx:=HB1.out.cell
 have q1:(w.alloc (.cells #[I 4,I who,I x,I st,I r.lv,.string r.lb,I r.id,I md] 35)).cell? ⟨tw,j,none⟩=some (ptr t):=(HG1.out.cell htw).trans k1
 have q2:(w.alloc (.cells #[I 4,I who,I x,I st,I r.lv,.string r.lb,I r.id,I md] 35)).cell? ⟨tw,2+j,none⟩=some (ptr b):=(HG1.out.cell htw).trans k2
 have hjI:(j:Int)<2:=by omega
 have hj0:(0:Int)≤(j:Int):=by omega
 have HH:=hide h;have HX:=hide hx;have HXL:=hide hxl;have HR:=hide hr;have HRO:=hide hro;have HL:=hide hL;have HLR:=hide hLR;have HC:=hide hc;have HTW:=hide htw;have HK1:=hide k1;have HK2:=hide k2
 clear h hx hxl hr hro hL hLR hc k1 k2 hj
 go_enter func38,ntmps38
 go_wp2_with fail
 go_quiet (fail)
 go_wp2_with fail
 go_quiet (fail)
 generalize hV:(((w.alloc (.cells #[I 4,I who,I x,I st,I r.lv,.string r.lb,I r.id,I md] 35))).drewN _).drewN _=V
 have HV:Hid (G w V):=by rw[←hV];exact(HG1.out.drewN _).drewN _
 have HBV:Hid (Blk V w.heap.size 35 [I 4,I who,I x,I st,I r.lv,.string r.lb,I r.id,I md]):=by rw[←hV];exact(HB1.out.drewN _).drewN _
 clear hV hbx q1 q2 HG1 HB1 hw htw
 obtain⟨bx,hbxe⟩:∃bx,bx=w.heap.size:=⟨_,rfl⟩
 have HBE:=hide hbxe
 rw[←hbxe] at HBV⊢
 clear hbxe
 have HBN:Hid (¬PB s D bx):=fun hh=>by have h1:=HH.out.dl hh;have h2:=HBE.out;omega
 have c0:=HBV.out.cell
 have HPV:=hide (HH.out.G HV.out)
 obtain⟨v,e2,K1,K2⟩:=mode_both HPV.out HC.out HX.out HRO.out
 have KA:=hide (K1 V (G.refl _));have KB:=hide K2
 clear K1 K2
 go_wp2_with (first|(go_at_call 73;(with_reducible refine(KA.out).mono ?_);rintro e w3 ⟨rfl,g3⟩;refine Hid.out ?_)|fail)
 unfold Hid
 have KD:=hide (KB.out w3 g3)
 have c3:=(HBV.out.G g3).cell
 have HG3:=hide g3
 clear c0 g3 KA KB
 go_wp2_with (first|(go_at_call 74;(with_reducible refine(KD.out).mono ?_);rintro e w4 ⟨rfl,g4⟩)|fail)
 go_ret
 exact⟨rfl,HV.out.trans (HG3.out.trans g4)⟩
theorem tells_wounded{w:World}{tw t b j c:Nat}{m:Ms}{L:List Int}{LR:List Rs}{s:Gs}{R:Rt}{D:Nat→Prop}(h:PQ w t b m L LR s R D c)(who x st md:Int)(r:Rs)(hj:j<2)(hw:bits BinOp.and IntKind.i64 who 1=(j:Int))(k1:w.cell? ⟨tw,j,none⟩=some (ptr t))(k2:w.cell? ⟨tw,2+j,none⟩=some (ptr b))(htw:tw<w.heap.size)(hx:R64 x)(hxl:x∈L)(hr:r∈LR)(hro:r.ok)(hL:L.length<100000000000)(hLR:LR.length<2000000000000)(hc:c<200000000000):Calls prog 38 #[ptr tw,.agg #[I 7,I who,I x,I st,I r.lv,.string r.lb,I r.id,I md]] w fun e w'=>e=.returned (.bool true)∧G w w':=by
 have HG1:Hid (G w (w.alloc (.cells #[I 7,I who,I x,I st,I r.lv,.string r.lb,I r.id,I md] 35))):=(G.refl w).alloc _
 have HB1:Hid (Blk (w.alloc (.cells #[I 7,I who,I x,I st,I r.lv,.string r.lb,I r.id,I md] 35)) w.heap.size 35 [I 7,I who,I x,I st,I r.lv,.string r.lb,I r.id,I md]):=Blk.new w _ 35
 have hbx:=HB1.out.cell
 have q1:(w.alloc (.cells #[I 7,I who,I x,I st,I r.lv,.string r.lb,I r.id,I md] 35)).cell? ⟨tw,j,none⟩=some (ptr t):=(HG1.out.cell htw).trans k1
 have q2:(w.alloc (.cells #[I 7,I who,I x,I st,I r.lv,.string r.lb,I r.id,I md] 35)).cell? ⟨tw,2+j,none⟩=some (ptr b):=(HG1.out.cell htw).trans k2
 have hjI:(j:Int)<2:=by omega
 have hj0:(0:Int)≤(j:Int):=by omega
 have HH:=hide h;have HX:=hide hx;have HXL:=hide hxl;have HR:=hide hr;have HRO:=hide hro;have HL:=hide hL;have HLR:=hide hLR;have HC:=hide hc;have HTW:=hide htw;have HK1:=hide k1;have HK2:=hide k2
 clear h hx hxl hr hro hL hLR hc k1 k2 hj
 go_enter func38,ntmps38
 go_wp2_with fail
 go_quiet (fail)
 go_wp2_with fail
 go_quiet (fail)
 generalize hV:(((w.alloc (.cells #[I 7,I who,I x,I st,I r.lv,.string r.lb,I r.id,I md] 35))).drewN _).drewN _=V
 have HV:Hid (G w V):=by rw[←hV];exact(HG1.out.drewN _).drewN _
 have HBV:Hid (Blk V w.heap.size 35 [I 7,I who,I x,I st,I r.lv,.string r.lb,I r.id,I md]):=by rw[←hV];exact(HB1.out.drewN _).drewN _
 clear hV hbx q1 q2 HG1 HB1 hw htw
 obtain⟨bx,hbxe⟩:∃bx,bx=w.heap.size:=⟨_,rfl⟩
 have HBE:=hide hbxe
 rw[←hbxe] at HBV⊢
 clear hbxe
 have HBN:Hid (¬PB s D bx):=fun hh=>by have h1:=HH.out.dl hh;have h2:=HBE.out;omega
 have c0:=HBV.out.cell
 have HPV:=hide (HH.out.G HV.out)
 obtain⟨v,e2,K1,K2⟩:=wounded_both HPV.out HC.out HL.out HX.out
 have KA:=hide (K1 V (G.refl _));have KB:=hide K2
 clear K1 K2
 go_wp2_with (first|(go_at_call 77;(with_reducible refine(KA.out).mono ?_);rintro e w3 ⟨rfl,g3⟩;refine Hid.out ?_)|fail)
 unfold Hid
 have KD:=hide (KB.out w3 g3)
 have c3:=(HBV.out.G g3).cell
 have HG3:=hide g3
 clear c0 g3 KA KB
 go_wp2_with (first|(go_at_call 78;(with_reducible refine(KD.out).mono ?_);rintro e w4 ⟨rfl,g4⟩)|fail)
 go_ret
 exact⟨rfl,HV.out.trans (HG3.out.trans g4)⟩
theorem tells_waiting{w:World}{tw t b j c:Nat}{m:Ms}{L:List Int}{LR:List Rs}{s:Gs}{R:Rt}{D:Nat→Prop}(h:PQ w t b m L LR s R D c)(who x st md:Int)(r:Rs)(hj:j<2)(hw:bits BinOp.and IntKind.i64 who 1=(j:Int))(k1:w.cell? ⟨tw,j,none⟩=some (ptr t))(k2:w.cell? ⟨tw,2+j,none⟩=some (ptr b))(htw:tw<w.heap.size)(hx:R64 x)(hxl:x∈L)(hr:r∈LR)(hro:r.ok)(hL:L.length<100000000000)(hLR:LR.length<2000000000000)(hc:c<200000000000):Calls prog 38 #[ptr tw,.agg #[I 5,I who,I x,I st,I r.lv,.string r.lb,I r.id,I md]] w fun e w'=>e=.returned (.bool true)∧G w w':=by
 have HG1:Hid (G w (w.alloc (.cells #[I 5,I who,I x,I st,I r.lv,.string r.lb,I r.id,I md] 35))):=(G.refl w).alloc _
 have HB1:Hid (Blk (w.alloc (.cells #[I 5,I who,I x,I st,I r.lv,.string r.lb,I r.id,I md] 35)) w.heap.size 35 [I 5,I who,I x,I st,I r.lv,.string r.lb,I r.id,I md]):=Blk.new w _ 35
 have hbx:=HB1.out.cell
 have q1:(w.alloc (.cells #[I 5,I who,I x,I st,I r.lv,.string r.lb,I r.id,I md] 35)).cell? ⟨tw,j,none⟩=some (ptr t):=(HG1.out.cell htw).trans k1
 have q2:(w.alloc (.cells #[I 5,I who,I x,I st,I r.lv,.string r.lb,I r.id,I md] 35)).cell? ⟨tw,2+j,none⟩=some (ptr b):=(HG1.out.cell htw).trans k2
 have hjI:(j:Int)<2:=by omega
 have hj0:(0:Int)≤(j:Int):=by omega
 have HH:=hide h;have HX:=hide hx;have HXL:=hide hxl;have HR:=hide hr;have HRO:=hide hro;have HL:=hide hL;have HLR:=hide hLR;have HC:=hide hc;have HTW:=hide htw;have HK1:=hide k1;have HK2:=hide k2
 clear h hx hxl hr hro hL hLR hc k1 k2 hj
 go_enter func38,ntmps38
 go_wp2_with fail
 go_quiet (fail)
 go_wp2_with fail
 go_quiet (fail)
 generalize hV:(((w.alloc (.cells #[I 5,I who,I x,I st,I r.lv,.string r.lb,I r.id,I md] 35))).drewN _).drewN _=V
 have HV:Hid (G w V):=by rw[←hV];exact(HG1.out.drewN _).drewN _
 have HBV:Hid (Blk V w.heap.size 35 [I 5,I who,I x,I st,I r.lv,.string r.lb,I r.id,I md]):=by rw[←hV];exact(HB1.out.drewN _).drewN _
 clear hV hbx q1 q2 HG1 HB1 hw htw
 obtain⟨bx,hbxe⟩:∃bx,bx=w.heap.size:=⟨_,rfl⟩
 have HBE:=hide hbxe
 rw[←hbxe] at HBV⊢
 clear hbxe
 have HBN:Hid (¬PB s D bx):=fun hh=>by have h1:=HH.out.dl hh;have h2:=HBE.out;omega
 have c0:=HBV.out.cell
 have HPV:=hide (HH.out.G HV.out)
 obtain⟨q,v,e2,K1,K2⟩:=waiting_both HPV.out HC.out HX.out
 have KA:=hide (K1 V (G.refl _));have KB:=hide K2
 clear K1 K2
 go_wp2_with (first|(go_at_call 75;(with_reducible refine(KA.out).mono ?_);rintro e w3 ⟨rfl,g3⟩;refine Hid.out ?_)|fail)
 unfold Hid
 have gA:G V (w3.alloc (.cells #[I q.lv,.string q.lb,I q.id] 33)):=g3.alloc _
 have KD:=hide (KB.out _ gA)
 have c3:=(HBV.out.G gA).cell
 have HGA:=hide gA
 have HB4:=hide (Blk.new w3 [I q.lv,.string q.lb,I q.id] 33)
 clear c0 g3 gA KA KB
 go_wp2_with (first|(go_at_call 76;(with_reducible refine(KD.out).mono ?_);rintro e w5 ⟨rfl,g5⟩;refine Hid.out ?_)|fail)
 unfold Hid
 have b1:=((HB4.out.G g5).G ((G.refl w5).alloc (.cells #[I q.lv,.string q.lb,I q.id] 33))).cell
 have b2:=(Blk.new w5 [I q.lv,.string q.lb,I q.id] 33).cell
 have HG6:Hid (G w (w5.alloc (.cells #[I q.lv,.string q.lb,I q.id] 33))):=HV.out.trans (HGA.out.trans (g5.alloc _))
 clear g5 KD c3
 go_wp2_with fail
 go_ret
 exact⟨rfl,HG6.out⟩
theorem tells_wounders{w:World}{tw t b j c:Nat}{m:Ms}{L:List Int}{LR:List Rs}{s:Gs}{R:Rt}{D:Nat→Prop}(h:PQ w t b m L LR s R D c)(who x st md:Int)(r:Rs)(hj:j<2)(hw:bits BinOp.and IntKind.i64 who 1=(j:Int))(k1:w.cell? ⟨tw,j,none⟩=some (ptr t))(k2:w.cell? ⟨tw,2+j,none⟩=some (ptr b))(htw:tw<w.heap.size)(hx:R64 x)(hxl:x∈L)(hr:r∈LR)(hro:r.ok)(hL:L.length<100000000000)(hLR:LR.length<2000000000000)(hc:c<200000000000):Calls prog 38 #[ptr tw,.agg #[I 6,I who,I x,I st,I r.lv,.string r.lb,I r.id,I md]] w fun e w'=>e=.returned (.bool true)∧G w w':=by
 have HG1:Hid (G w (w.alloc (.cells #[I 6,I who,I x,I st,I r.lv,.string r.lb,I r.id,I md] 35))):=(G.refl w).alloc _
 have HB1:Hid (Blk (w.alloc (.cells #[I 6,I who,I x,I st,I r.lv,.string r.lb,I r.id,I md] 35)) w.heap.size 35 [I 6,I who,I x,I st,I r.lv,.string r.lb,I r.id,I md]):=Blk.new w _ 35
 have hbx:=HB1.out.cell
 have q1:(w.alloc (.cells #[I 6,I who,I x,I st,I r.lv,.string r.lb,I r.id,I md] 35)).cell? ⟨tw,j,none⟩=some (ptr t):=(HG1.out.cell htw).trans k1
 have q2:(w.alloc (.cells #[I 6,I who,I x,I st,I r.lv,.string r.lb,I r.id,I md] 35)).cell? ⟨tw,2+j,none⟩=some (ptr b):=(HG1.out.cell htw).trans k2
 have hjI:(j:Int)<2:=by omega
 have hj0:(0:Int)≤(j:Int):=by omega
 have HH:=hide h;have HX:=hide hx;have HXL:=hide hxl;have HR:=hide hr;have HRO:=hide hro;have HL:=hide hL;have HLR:=hide hLR;have HC:=hide hc;have HTW:=hide htw;have HK1:=hide k1;have HK2:=hide k2
 clear h hx hxl hr hro hL hLR hc k1 k2 hj
 go_enter func38,ntmps38
 go_wp2_with fail
 go_quiet (fail)
 go_wp2_with fail
 go_quiet (fail)
 generalize hV:(((w.alloc (.cells #[I 6,I who,I x,I st,I r.lv,.string r.lb,I r.id,I md] 35))).drewN _).drewN _=V
 have HV:Hid (G w V):=by rw[←hV];exact(HG1.out.drewN _).drewN _
 have HBV:Hid (Blk V w.heap.size 35 [I 6,I who,I x,I st,I r.lv,.string r.lb,I r.id,I md]):=by rw[←hV];exact(HB1.out.drewN _).drewN _
 clear hV hbx q1 q2 HG1 HB1 hw htw
 obtain⟨bx,hbxe⟩:∃bx,bx=w.heap.size:=⟨_,rfl⟩
 have HBE:=hide hbxe
 rw[←hbxe] at HBV⊢
 clear hbxe
 have HBN:Hid (¬PB s D bx):=fun hh=>by have h1:=HH.out.dl hh;have h2:=HBE.out;omega
 have c0:=HBV.out.cell
 have HPV:=hide (HH.out.G HV.out)
 obtain⟨ids,e2,hil,K1,K2⟩:=wounders_both HPV.out HC.out HL.out HX.out
 have KA:=hide (K1 V (G.refl _));have KB:=hide K2;have HIL:=hide hil
 clear K1 K2 hil
 go_wp2_with (first|(go_at_call 50;(with_reducible refine(KA.out).mono ?_);rintro e w3 ⟨u3,rfl,o3,g3⟩;refine Hid.out ?_)|fail)
 unfold Hid
 have KD:=hide (KB.out w3 g3)
 have c3:=(HBV.out.G g3).cell
 have HG3:=hide g3;have HO3:=hide o3
 clear c0 g3 o3 KA KB
 go_wp2_with (first|(go_at_call 51;(with_reducible refine(KD.out).mono ?_);rintro e w4 ⟨u4,rfl,o4,g4⟩;refine Hid.out ?_)|fail)
 unfold Hid
 have KI:=hide (ints_same ids u3 u4 _ _ w4 HIL.out (own_G HO3.out g4) o4)
 have HG4:=hide g4
 clear g4 o4 KD c3
 go_wp2_with (first|(go_at_call 44;(with_reducible refine(KI.out).mono ?_);rintro e w5 ⟨rfl,g5⟩)|fail)
 go_ret
 exact⟨rfl,HV.out.trans (HG3.out.trans (HG4.out.trans g5))⟩
end
end Go.Proofs.YtadfaiciolfgjaaGreatDoor
