import Derived.Test.YtoefbpldmlebdaaGreatDoorLr19
namespace Go.Proofs.YtoefbpldmlebdaaGreatDoor
open Go.Proofs.Tryz
set_option maxHeartbeats 2000000
set_option maxRecDepth 100000
section
open Go.RowKit
section
variable {m:Ms} {L:List Int} {LR:List Rs} {r:Rs}
theorem srvM_end{f:Nat}{a:Nat}{out:List Int}(h:(m.qs r)[a]?=none):srvM r f m a out=(m,out):=by
 cases f with
 | zero=>rfl
 | succ f=>simp only[srvM,h]
theorem srvM_idle(h:BlA m r (m.qs r).length):∀(f a:Nat) (out:List Int),srvM r f m a out=(m,out)
 | 0,a,out=>rfl
 | f+1,a,out=>by
  cases hq:(m.qs r)[a]? with
  | none=>exact srvM_end hq
  | some o=>
   obtain⟨y,g⟩:=o
   rw[srvM_blk hq (h a y g (List.getElem?_eq_some_iff.1 hq).1 hq)]
   exact srvM_idle h f (a+1) out
theorem endF_idle{t:Ms×List Int}(h:BlA t.1 r (t.1.qs r).length):endF t r=t:=by
 unfold endF
 rw[srvM_idle h]
 simp
theorem srvM_other{r':Rs}(e:r'≠r):∀(f:Nat) (m:Ms) (a:Nat) (out:List Int),(srvM r f m a out).1.qs r'=m.qs r'∧(srvM r f m a out).1.hl r'=m.hl r'
 | 0,m,a,out=>⟨rfl,rfl⟩
 | f+1,m,a,out=>by
  cases hq:(m.qs r)[a]? with
  | none=>rw[srvM_end hq];exact⟨rfl,rfl⟩
  | some o=>
   obtain⟨y,g⟩:=o
   by_cases hb:∃z,inW (m.hl r) (m.qs r) y g a z
   ·rw[srvM_blk hq hb];exact srvM_other e f m (a+1) out
   ·cases hp:m.lv y with
    | none=>
     have:srvM r (f+1) m a out=(m,out):=by
      simp only[srvM,hq,hp]
      exact @if_neg _ (Classical.propDecidable _) hb _ _ _
     rw[this];exact⟨rfl,rfl⟩
    | some p=>
     rw[srvM_get hq hb hp]
     obtain⟨h1,h2⟩:=srvM_other e f (mServe m y p r g a) a (out++[y])
     exact⟨by rw[h1,mServe_qo e],by rw[h2,mServe_ho hp e]⟩
theorem endF_other{r':Rs}(e:r'≠r)(t:Ms×List Int):(endF t r).1.qs r'=t.1.qs r'∧(endF t r).1.hl r'=t.1.hl r':=srvM_other e _ _ _ _
theorem bla_same{m m':Ms}{a:Nat}(h1:m'.qs r=m.qs r)(h2:m'.hl r=m.hl r)(h:BlA m r a):BlA m' r a:=fun i x g hi hq=>by
 rw[h1] at hq⊢
 rw[h2]
 exact h i x g hi hq
theorem fold_skip(P:Rs→Bool):∀(l:List Rs) (t:Ms×List Int),l.Nodup→(∀r∈l,P r=false→BlA t.1 r (t.1.qs r).length)→l.foldl endF t=(l.filter P).foldl endF t
 | [],t,_,_=>rfl
 | r::l,t,hn,h=>by
  obtain⟨n1,n2⟩:=List.nodup_cons.1 hn
  have hk:∀r'∈l,P r'=false→BlA (endF t r).1 r' ((endF t r).1.qs r').length:=fun r' hr' hp=>by
   have e:r'≠r:=fun e=>n1 (by rw[←e];exact hr')
   obtain⟨h1,h2⟩:=endF_other e t
   rw[h1]
   exact bla_same h1 h2 (h r' (List.mem_cons_of_mem _ hr') hp)
  show l.foldl endF (endF t r)=_
  cases hp:P r with
  | true=>
   rw[List.filter_cons_of_pos hp]
   exact fold_skip P l (endF t r) n2 hk
  | false=>
   rw[List.filter_cons_of_neg (by simp[hp]),endF_idle (h r (List.mem_cons_self) hp)]
   exact fold_skip P l t n2 (fun r' hr' hp'=>h r' (List.mem_cons_of_mem _ hr') hp')
theorem fold_two{l1 l2:List Rs}(h1:l1.Pairwise rLt)(h2:l2.Pairwise rLt){t:Ms×List Int}(k1:∀r,r∉l1→BlA t.1 r (t.1.qs r).length)(k2:∀r,r∉l2→BlA t.1 r (t.1.qs r).length):l1.foldl endF t=l2.foldl endF t:=by
 have nd:∀{l:List Rs},l.Pairwise rLt→l.Nodup:=fun h=>h.imp (fun hh e=>by subst e;exact rLt_irrefl _ hh)
 rw[fold_skip (fun r=>decide (r∈l2)) l1 t (nd h1) (fun r _ hp=>k2 r (by simpa using hp)),fold_skip (fun r=>decide (r∈l1)) l2 t (nd h2) (fun r _ hp=>k1 r (by simpa using hp))]
 congr 1
 refine rise_one (fun a b h=>rLt_asym h) _ _ (h1.sublist List.filter_sublist) (h2.sublist List.filter_sublist) (fun a=>?_)
 rw[List.mem_filter,List.mem_filter]
 simp[and_comm]
end
def EJ(L:List Int)(LR:List Rs)(N:Nat)(t0:Ms×List Int)(rs:List Rs)(i n:Nat)(hd aq:List Lk)(got:List Int):Prop:=
 ∃(mc:Ms) (out:List Int) (f:Nat),HQ hd aq mc.hl mc.qs∧Iw mc L LR∧got=((rs.take i).foldl endF t0).2++out∧
  (∀r,rs[i]?=some r→srvM r f mc (queP r (aq.take n)).length out=srvM r (((rs.take i).foldl endF t0).1.qs r).length ((rs.take i).foldl endF t0).1 0 []∧(mc.qs r).length≤(queP r (aq.take n)).length+f)∧
  (rs[i]?=none→mc=((rs.take i).foldl endF t0).1∧out=[])∧hd.length+aq.length≤N∧got.length+aq.length≤N
theorem que_take{l:List Lk}{n:Nat}{q:Lk}(h:l[n]?=some q)(r:Rs):queP r (l.take (n+1))=if q.r=r then queP r (l.take n)++[(q.x,q.c)] else queP r (l.take n):=by
 rw[take_lk h,queP_snoc]
theorem gj_end{L:List Int}{LR:List Rs}{N:Nat}(hN:N<400000000000)(t0:Ms×List Int)(rs:List Rs)(tx:List Tx):GJ tx rs (EJ L LR N t0 rs):=by
 refine⟨fun i n hd aq got hj=>?_,fun i hd aq got hi hj=>?_,fun i n hd aq got r q hj hr hq hne=>?_,fun i n hd aq got r q hj hr hq he hw=>?_,fun i n hd aq got r q hj hr hq he hw=>?_⟩
 ·obtain⟨mc,out,f,-,-,-,-,-,h6,h7⟩:=hj
  omega
 ·obtain⟨mc,out,f,h1,h2,h3,h4,-,h6,h7⟩:=hj
  obtain⟨r,hr⟩:∃r,rs[i]?=some r:=⟨_,List.getElem?_eq_getElem hi⟩
  obtain⟨h8,-⟩:=h4 r hr
  rw[List.take_length,h1.qa,srvM_end (List.getElem?_eq_none (Nat.le_refl _))] at h8
  have hT:(rs.take (i+1)).foldl endF t0=(mc,got):=by
   rw[List.take_add_one,hr,List.foldl_append]
   show((srvM r (((rs.take i).foldl endF t0).1.qs r).length ((rs.take i).foldl endF t0).1 0 []).1,((rs.take i).foldl endF t0).2++(srvM r (((rs.take i).foldl endF t0).1.qs r).length ((rs.take i).foldl endF t0).1 0 []).2)=_
   rw[←h8,h3]
  refine⟨mc,[],((rs[i+1]?).map fun r=>(mc.qs r).length).getD 0,h1,h2,by rw[hT];simp,fun r' hr'=>?_,fun _=>⟨by rw[hT],rfl⟩,h6,h7⟩
  rw[hr',hT,List.take_zero]
  exact⟨rfl,by simp⟩
 ·obtain⟨mc,out,f,h1,h2,h3,h4,h5,h6,h7⟩:=hj
  refine⟨mc,out,f,h1,h2,h3,fun r' hr'=>?_,h5,h6,h7⟩
  rw[hr] at hr'
  cases hr'
  rw[que_take hq,if_neg hne]
  exact h4 r hr
 ·obtain⟨mc,out,f,h1,h2,h3,h4,h5,h6,h7⟩:=hj
  obtain⟨h8,h9⟩:=h4 r hr
  subst he
  have hat:=h1.at hq
  have hal:=(List.getElem?_eq_some_iff.1 hat).1
  obtain⟨f',rfl⟩:∃f',f=f'+1:=⟨f-1,by omega⟩
  have hb:∃z,inW (mc.hl q.r) (mc.qs q.r) q.x q.c (queP q.r (aq.take n)).length z:=by
   obtain⟨z,hz⟩:=List.exists_mem_of_ne_nil _ hw
   exact⟨z,(h1.way tx hq (h2.qn _) z).1 hz⟩
  rw[srvM_blk hat hb] at h8
  refine⟨mc,out,f',h1,h2,h3,fun r' hr'=>?_,fun hh=>?_,h6,h7⟩
  ·rw[hr] at hr'
   cases hr'
   rw[que_take hq,if_pos rfl,List.length_append,List.length_singleton]
   exact⟨h8,by omega⟩
  ·rw[hr] at hh;cases hh
 ·obtain⟨mc,out,f,h1,h2,h3,h4,h5,h6,h7⟩:=hj
  obtain⟨h8,h9⟩:=h4 r hr
  subst he
  have hat:=h1.at hq
  have hal:=(List.getElem?_eq_some_iff.1 hat).1
  have hnl:=(List.getElem?_eq_some_iff.1 hq).1
  obtain⟨f',rfl⟩:∃f',f=f'+1:=⟨f-1,by omega⟩
  have hb:¬∃z,inW (mc.hl q.r) (mc.qs q.r) q.x q.c (queP q.r (aq.take n)).length z:=by
   rintro⟨z,hz⟩
   have:=(h1.way tx hq (h2.qn _) z).2 hz
   rw[hw] at this
   cases this
  obtain⟨p,hp,hpg,hg0,-⟩:=(h2.qm q.r q.x q.c).1 (List.mem_of_getElem? hat)
  rw[srvM_get hat hb hp] at h8
  have hcl:(cutP n aq).length=aq.length-1:=cut_len1 hnl
  have hhl:=hol_len q.x q.r q.c hd
  have htk:(cutP n aq).take n=aq.take n:=by
   unfold cutP
   rw[List.take_append_of_le_length (by rw[List.length_take];omega),List.take_take,Nat.min_self]
  refine⟨mServe mc q.x p q.r q.c (queP q.r (aq.take n)).length,out++[q.x],f',?_,iw_serve h2 hat hp hb,by rw[h3,List.append_assoc],fun r' hr'=>?_,fun hh=>?_,by omega,by rw[List.length_append,List.length_singleton];omega⟩
  ·have hcut:=h1.cut hq
   refine hcut.hold hg0 (fun g hg=>?_) ?_ (fun r' y hne=>?_)
   ·rw[upd_same] at hg
    exact((cut_mem hat (h2.qn _) q.x g).1 hg).2 rfl
   ·rw[mServe_hl hp,upd_same]
   ·by_cases e:r'=q.r
    ·subst e
     rw[mServe_hl hp,upd_other (fun e=>hne ⟨e,rfl⟩)]
    ·rw[mServe_ho hp e]
  ·rw[hr] at hr'
   cases hr'
   rw[htk]
   refine⟨h8,?_⟩
   rw[mServe_q,cut_len hal]
   omega
  ·rw[hr] at hh;cases hh
section
variable {m:Ms} {L:List Int} {LR:List Rs} {x:Int} {p:Pm} {R:Rt}
theorem ej_start{N:Nat}{t0:Ms×List Int}(h0:t0.2=[]){rs:List Rs}{hd aq:List Lk}(hq:HQ hd aq t0.1.hl t0.1.qs)(hw:Iw t0.1 L LR)(hN:hd.length+aq.length≤N):EJ L LR N t0 rs 0 0 hd aq []:=by
 refine⟨t0.1,[],((rs[0]?).map fun r=>(t0.1.qs r).length).getD 0,hq,hw,by rw[List.take_zero];show []=t0.2++[];rw[h0];rfl,fun r hr=>?_,fun _=>⟨by rw[List.take_zero];rfl,rfl⟩,hN,by simp;omega⟩
 rw[hr,List.take_zero,List.take_zero]
 exact⟨rfl,by simp⟩
theorem ej_fin{N:Nat}{t0:Ms×List Int}{rs:List Rs}{hd aq:List Lk}{got:List Int}(h:EJ L LR N t0 rs rs.length 0 hd aq got):HQ hd aq (rs.foldl endF t0).1.hl (rs.foldl endF t0).1.qs∧got=(rs.foldl endF t0).2∧hd.length+aq.length≤N:=by
 obtain⟨mc,out,f,h1,-,h3,-,h5,h6,-⟩:=h
 obtain⟨h8,h9⟩:=h5 (List.getElem?_eq_none (Nat.le_refl _))
 rw[List.take_length] at h3 h8
 rw[h9,List.append_nil] at h3
 rw[h8] at h1
 exact⟨h1,h3,h6⟩
def endR(R:Rt)(x:Int)(k:Nat):Rt:=⟨R.tx.take k++R.tx.drop (k+1),R.hd.filter (fun e=>e.x != x),match R.aq.findIdx? (fun e=>e.x==x)with|some n=>cutP n R.aq|none=>R.aq⟩
theorem end_hq(hm:RM R m)(h:Iv m L LR)(k:Nat):HQ (endR R x k).hd (endR R x k).aq (mDel m x).hl (mDel m x).qs:=by
 have hhl:(mDel m x).hl=fun r=>upd (m.hl r) x 0:=funext fun r=>mDel_hl r
 rw[hhl]
 show HQ (R.hd.filter _) (match R.aq.findIdx? (fun e=>e.x==x)with|some n=>cutP n R.aq|none=>R.aq) _ _
 cases hf:R.aq.findIdx? (fun e=>e.x==x)with
 | none=>
  rw[List.findIdx?_eq_none_iff] at hf
  have hno:∀r g,(x,g)∉m.qs r:=fun r g hg=>by
   obtain⟨i,hi⟩:=List.mem_iff_getElem?.1 hg
   exact hm.hq.none_at hf r i g hi
  have hqs:(mDel m x).qs=m.qs:=funext fun r=>noX_none (hno r)
  rw[hqs]
  exact hm.hq.del x hno
 | some n=>
  obtain⟨h1,h2,-⟩:=List.findIdx?_eq_some_iff_getElem.1 hf
  have hq:R.aq[n]?=some (R.aq[n]):=List.getElem?_eq_getElem h1
  have hqx:(R.aq[n]).x=x:=by simpa using h2
  have hat:=hm.hq.at hq
  rw[hqx] at hat
  have hqs:(mDel m x).qs=upd m.qs (R.aq[n]).r (cutQ (m.qs (R.aq[n]).r) (queP (R.aq[n]).r (R.aq.take n)).length):=funext fun r=>by
   by_cases e:r=(R.aq[n]).r
   ·rw[e,upd_same]
    exact noX_cut (h.qn _) hat
   ·rw[upd_other e]
    refine noX_none (fun g hg=>?_)
    obtain⟨p1,k1,-,-,k4⟩:=(h.qm _ _ _).1 hg
    obtain⟨p2,l1,-,-,l4⟩:=(h.qm _ _ _).1 (List.mem_of_getElem? hat)
    rw[k1] at l1
    cases l1
    exact e (k4.symm.trans l4)
  rw[hqs]
  refine(hm.hq.cut hq).del x (fun r g hg=>?_)
  rw[←hqs] at hg
  exact(noX_mem.1 hg).2 rfl
theorem end_tx(hm:RM R m){k:Nat}{e:Tx}(hk:R.tx[k]?=some e)(he:e.x=x):TXq (endR R x k).tx (mDel m x).lv:=by
 have hsp:R.tx=R.tx.take k++e::R.tx.drop (k+1):=by
  obtain⟨h1,h2⟩:=List.getElem?_eq_some_iff.1 hk
  rw[←h2,←List.drop_eq_getElem_cons h1,List.take_append_drop]
 have hnd:=hm.tx.nd
 rw[hsp,List.map_append,List.map_cons,List.nodup_append] at hnd
 obtain⟨n1,n2,n3⟩:=hnd
 obtain⟨n4,n5⟩:=List.nodup_cons.1 n2
 have hmem:∀a,a∈(endR R x k).tx→a∈R.tx∧a.x≠x:=fun a ha=>by
  rcases List.mem_append.1 (show a∈R.tx.take k++R.tx.drop (k+1)from ha)with ha|ha
  ·exact⟨List.mem_of_mem_take ha,fun hx=>n3 a.x (List.mem_map.2 ⟨a,ha,rfl⟩) e.x (List.mem_cons_self) (by rw[hx,he])⟩
  ·exact⟨List.mem_of_mem_drop ha,fun hx=>n4 (List.mem_map.2 ⟨a,ha,by rw[hx,he]⟩)⟩
 refine⟨?_,fun y p hp=>?_,fun a ha=>?_⟩
 ·show((R.tx.take k++R.tx.drop (k+1)).map Tx.x).Nodup
  rw[List.map_append,List.nodup_append]
  exact⟨n1,n5,fun a ha b hb=>n3 a ha b (List.mem_cons_of_mem _ hb)⟩
 ·obtain⟨hy,hp⟩:=mDel_lv.1 hp
  obtain⟨a,ha,hax⟩:=hm.tx.all y p hp
  rw[hsp] at ha
  refine⟨a,?_,hax⟩
  rcases List.mem_append.1 ha with ha|ha
  ·exact List.mem_append_left _ ha
  ·rcases List.mem_cons.1 ha with rfl|ha
   ·exact absurd (hax.symm.trans he) hy
   ·exact List.mem_append_right _ ha
 ·obtain⟨h1,h2⟩:=hmem a ha
  obtain⟨p,k1,k2,k3,k4⟩:=hm.tx.ok a h1
  exact⟨p,mDel_lv.2 ⟨h2,k1⟩,k2,k3,k4⟩
theorem end_same(hm:RM R m)(h:Iv m L LR)(hp:m.lv x=some p){rs:List Rs}(hrm:∀r,r∈rs↔p.hf r≠0∨(p.goal≠0∧r=p.at_))(hrs:rs.Pairwise rLt)(k:Nat):(resP (endR R x k).aq).foldl endF (mDel m x,[])=endM m x rs:=by
 have hq:=end_hq (x:=x) hm h k
 obtain⟨h1,-,h3⟩:=resP_all (endR R x k).aq
 refine fold_two h1 hrs (fun r hr=>?_) (fun r hr=>?_)
 ·have:(mDel m x).qs r=[]:=by
   rw[←hq.qa]
   unfold queP
   rw[List.map_eq_nil_iff,List.filter_eq_nil_iff]
   intro e he hh
   exact hr ((h3 r).2 ⟨e,he,by simpa using hh⟩)
  show BlA (mDel m x) r ((mDel m x).qs r).length
  rw[this]
  exact fun i _ _ hi=>absurd hi (Nat.not_lt_zero i)
 ·have hno:¬(p.hf r≠0∨(p.goal≠0∧r=p.at_)):=fun hh=>hr ((hrm r).2 hh)
  refine bla_del h ?_ (fun g hg=>?_) _
  ·rw[hl_some hp]
   exact Decidable.byContradiction (fun hh=>hno (.inl hh))
  ·obtain⟨p1,k1,k2,k3,k4⟩:=(h.qm r x g).1 hg
   rw[hp] at k1
   cases k1
   exact hno (.inr ⟨by rw[k2];exact k3,k4.symm⟩)
end
end
section
open Go.RowKit
theorem end_rnone{w:World}{b:Nat}{R:Rt}{D:Nat→Prop}(h:RT w b R D)(x:Int)(hn:∀e∈R.tx,(e.x==x)=false)(hl:R.tx.length<400000000000):Calls prog 52 #[ptr b,I x] w fun e w'=>e=.returned (.tuple #[.slice none 0 0,.slice none 0 0,I 80])∧G w w':=by
 obtain⟨vt,vh,va,tv,hR⟩:=h
 have KP:=hide (place_r hR x (by omega))
 rw[idxI_none hn] at KP
 clear hR hn hl
 go_enter func52,ntmps52
 go_wp2_with (first|(go_at_call 61;with_reducible refine(KP.out).mono ?_;rintro e w' ⟨rfl,rfl⟩)|fail)
 exact bodyPost_ret (v:=.tuple #[.slice none 0 0,.slice none 0 0,.int .i64 80]) (by simp[results,results52,go_sem]) rfl ⟨rfl,G.refl _⟩
theorem end_kg{R R1:Rt}{m:Ms}{L:List Int}{LR:List Rs}{x:Int}{b k:Nat}(hm:RM R m)(hI:Iv m L LR)(hl:R.hd.length+R.aq.length<300000000000)(h1:R1=endR R x k)(hel:R1.hd.length+R1.aq.length≤R.hd.length+R.aq.length):∀W D',RT W b R1 D'→Calls prog 90 #[ptr b] W (GrP W D' b R1.tx (resP R1.aq) (EJ L LR (R.hd.length+R.aq.length) (mDel m x,[]) (resP R1.aq))):=fun W D' hT=>by
 obtain⟨vt,vh,va,tv,hV⟩:=hT
 have hq:HQ R1.hd R1.aq (mDel m x).hl (mDel m x).qs:=by rw[h1];exact end_hq hm hI k
 exact grants_r hV (EJ L LR (R.hd.length+R.aq.length) (mDel m x,[]) (resP R1.aq)) (gj_end (by omega) (mDel m x,[]) (resP R1.aq) R1.tx) (ej_start (t0:=(mDel m x,[])) rfl hq (iw_del hI) hel) (by omega)
theorem end_kf{tx1:List Tx}{aq1:List Lk}{m m':Ms}{L:List Int}{LR:List Rs}{x:Int}{b N:Nat}{out:List Int}(hI2:Iv m' L LR)(hL:L.length<100000000000)(hsame:(resP aq1).foldl endF (mDel m x,[])=(m',out))(hTX:TXq tx1 m'.lv)(htl:tx1.length<300000000000)(hN:N<300000000000):∀hd7 aq7 got,EJ L LR N (mDel m x,[]) (resP aq1) (resP aq1).length 0 hd7 aq7 got→got=out∧∀W D',RT W b ⟨tx1,hd7,aq7⟩ D'→Calls prog 87 #[ptr b] W (WdP W D' b ⟨tx1,hd7,aq7⟩ (SJ m' m' tx1)):=fun hd7 aq7 got hj=>by
 obtain⟨f1,f2,f3⟩:=ej_fin hj
 rw[hsame] at f1 f2
 refine⟨f2,fun W D' hT=>?_⟩
 obtain⟨vt,vh,va,tv,hV⟩:=hT
 exact wounds_r hV (SJ m' m' tx1) (wj (R:=⟨tx1,hd7,aq7⟩) hTX f1 (swp_same hI2) hI2 hI2 hL) (SJ.start (swp_same hI2) hTX) (show tx1.length<400000000000∧hd7.length<400000000000∧aq7.length<400000000000 by omega)
theorem end_fi{tx1:List Tx}{aq1:List Lk}{m m':Ms}{L:List Int}{LR:List Rs}{x:Int}{N t:Nat}{out:List Int}(hI2:Iv m' L LR)(hsame:(resP aq1).foldl endF (mDel m x,[])=(m',out))(hTX:TXq tx1 m'.lv)(htl:tx1.length≤t):∀hd7 aq7 got,EJ L LR N (mDel m x,[]) (resP aq1) (resP aq1).length 0 hd7 aq7 got→∀TX OUT last,SJ m' m' tx1 last TX OUT→(∀a∈TX,¬last<a.st)→OUT=[]∧RM ⟨TX,hd7,aq7⟩ m'∧TX.length≤t∧hd7.length+aq7.length≤N:=fun hd7 aq7 got hj TX OUT last hj8 hmax=>by
 obtain⟨f1,-,f3⟩:=ej_fin hj
 rw[hsame] at f1
 obtain⟨g1,-,g3⟩:=wj_fin (R:=⟨tx1,hd7,aq7⟩) hTX f1 (swp_same hI2) (fun z c hz=>⟨c,hz⟩) hj8 hmax
 refine⟨?_,g1,?_,f3⟩
 ·cases OUT with
  | nil=>rfl
  | cons y l=>
   obtain⟨c,c',k1,k2,k3,k4⟩:=(g3 y).1 (List.mem_cons_self)
   rw[k1] at k2
   cases k2
   rw[k3] at k4;cases k4
 ·have h9:=congrArg List.length hj8.ids
  rw[List.length_map,List.length_map] at h9
  omega
theorem endR_len{R:Rt}{x:Int}{k:Nat}:(endR R x k).hd.length+(endR R x k).aq.length≤R.hd.length+R.aq.length∧(endR R x k).tx.length≤R.tx.length:=by
 have h9:(endR R x k).hd.length≤R.hd.length:=List.length_filter_le _ _
 have h10:(endR R x k).aq.length≤R.aq.length:=by
  show(match R.aq.findIdx? (fun e:Lk=>e.x==x)with|some n=>cutP n R.aq|none=>R.aq).length≤_
  cases R.aq.findIdx? (fun e:Lk=>e.x==x)with
  | none=>exact Nat.le_refl _
  | some n=>
   show(cutP n R.aq).length≤_
   unfold cutP
   rw[List.length_append,List.length_take,List.length_drop];omega
 refine⟨by omega,?_⟩
 show(R.tx.take k++R.tx.drop (k+1)).length≤_
 rw[List.length_append,List.length_take,List.length_drop];omega
theorem endR_no{R R1:Rt}{x:Int}{k:Nat}(hq2:∀a∈R.aq,(a.x==x)=false)(h:R1=endR R x k):R1=⟨R.tx.take k++R.tx.drop (k+1),R.hd.filter (fun e=>e.x != x),R.aq⟩:=by
 have:R.aq.findIdx? (fun e=>e.x==x)=none:=List.findIdx?_eq_none_iff.2 hq2
 rw[h]
 unfold endR
 rw[this]
theorem endR_yes{R R1:Rt}{x:Int}{k n:Nat}{q:Lk}(hq2:R.aq[n]?=some q)(hq3:(q.x==x)=true)(hq4:∀j b,j<n→R.aq[j]?=some b→(b.x==x)=false)(h:R1=endR R x k):R1=⟨R.tx.take k++R.tx.drop (k+1),R.hd.filter (fun e=>e.x != x),cutP n R.aq⟩:=by
 have:R.aq.findIdx? (fun e=>e.x==x)=some n:=by
  rw[List.findIdx?_eq_some_iff_getElem]
  obtain⟨k1,k2⟩:=List.getElem?_eq_some_iff.1 hq2
  refine⟨k1,by rw[k2];exact hq3,fun j hj=>?_⟩
  rw[hq4 j _ hj (List.getElem?_eq_getElem (by omega))]
  simp
 rw[h]
 unfold endR
 rw[this]
theorem end_txq{R:Rt}{m m':Ms}{x:Int}{k:Nat}{out:List Int}{te:Tx}(hm:RM R m)(hte:R.tx[k]?=some te)(htex:te.x=x)(hlv:∀z,m'.lv z=if z∈out then((mDel m x).lv z).map Pm.got else(mDel m x).lv z):TXq (endR R x k).tx m'.lv:=by
 refine(end_tx hm hte htex).same (fun z q hz=>?_) (fun z q hz=>?_)
 ·rw[hlv z,hz]
  by_cases h9:z∈out
  ·rw[if_pos h9];exact⟨_,rfl,rfl,rfl⟩
  ·rw[if_neg h9];exact⟨_,rfl,rfl,rfl⟩
 ·rw[hlv z] at hz
  cases h9:(mDel m x).lv z with
  | none=>
   rw[h9] at hz
   by_cases h10:z∈out
   ·rw[if_pos h10] at hz;cases hz
   ·rw[if_neg h10] at hz;cases hz
  | some c=>exact⟨c,rfl⟩
def EnP(w:World)(D:Nat→Prop)(b:Nat)(out:List Int)(m':Ms)(t a:Nat)(e:Ending)(w':World):Prop:=∃u v,e=.returned (.tuple #[u,v,I 0])∧w'.ownsRow w.heap.size 3 1 u out.length (out.map fun z=>I z)∧w'.ownsRow w.heap.size 3 1 v ([]:List Int).length (([]:List Int).map fun z=>I z)∧RX w w' b D m' t a
theorem end_r1{w:World}{b:Nat}{R:Rt}{D:Nat→Prop}{vh va:Value}{tv:List (Tx×Value)}{ga cap:Nat}(h:RV w b R D (.slice (some ⟨ga,0,none⟩) tv.length cap) vh va tv)(x:Int)(k:Nat)(hk:k<tv.length)(hcap:tv.length≤cap)(hi:idxI (fun e:Tx=>e.x==x) R.tx=(k:Int)){m m':Ms}{L:List Int}{LR:List Rs}{p:Pm}{out:List Int}(hm:RM R m)(hI:Iv m L LR)(hp:m.lv x=some p)(hE:EndK m x p out m')(hI2:Iv m' L LR)(hL:L.length<100000000000)(hl:R.tx.length<300000000000∧R.hd.length+R.aq.length<300000000000):Calls prog 52 #[ptr b,I x] w (EnP w D b out m' R.tx.length (R.hd.length+R.aq.length)):=by
 have HLL:=hide hl
 have hl3:tv.length<300000000000:=by have:=h.tl;omega
 obtain⟨te,hte⟩:∃te,R.tx[k]?=some te:=⟨_,List.getElem?_eq_getElem (by have:=h.tl;omega)⟩
 have htex:te.x=x:=by
  rcases idxI_cases (fun e:Tx=>e.x==x) R.tx with ⟨h9,-⟩|⟨i9,a9,h9,h10,h11,-⟩
  ·rw[hi] at h9;omega
  ·have:i9=k:=by rw[hi] at h9;omega
   subst this
   rw[hte] at h10
   cases h10
   simpa using h11
 obtain⟨rs,-,hrm,hrs,hend,-,-,hlv,-⟩:=hE
 obtain⟨R1,hR1⟩:∃R1,R1=endR R x k:=⟨_,rfl⟩
 have hsame:(resP R1.aq).foldl endF (mDel m x,[])=(m',out):=by
  rw[hR1,←hend]
  exact end_same hm hI hp hrm hrs k
 have hTX:TXq R1.tx m'.lv:=by
  rw[hR1]
  exact end_txq hm hte htex hlv
 have hel:R1.hd.length+R1.aq.length≤R.hd.length+R.aq.length:=by
  rw[hR1]
  exact endR_len.1
 have hetl:R1.tx.length≤R.tx.length:=by
  rw[hR1]
  exact endR_len.2
 have HKG:Hid (∀W D',RT W b R1 D'→Calls prog 90 #[ptr b] W (GrP W D' b R1.tx (resP R1.aq) (EJ L LR (R.hd.length+R.aq.length) (mDel m x,[]) (resP R1.aq)))):=end_kg hm hI hl.2 hR1 hel
 have HKF:Hid (∀hd7 aq7 got,EJ L LR (R.hd.length+R.aq.length) (mDel m x,[]) (resP R1.aq) (resP R1.aq).length 0 hd7 aq7 got→got=out∧∀W D',RT W b ⟨R1.tx,hd7,aq7⟩ D'→Calls prog 87 #[ptr b] W (WdP W D' b ⟨R1.tx,hd7,aq7⟩ (SJ m' m' R1.tx))):=end_kf hI2 hL hsame hTX (Nat.lt_of_le_of_lt hetl hl.1) hl.2
 have HFI:Hid (∀hd7 aq7 got,EJ L LR (R.hd.length+R.aq.length) (mDel m x,[]) (resP R1.aq) (resP R1.aq).length 0 hd7 aq7 got→∀TX OUT last,SJ m' m' R1.tx last TX OUT→(∀a∈TX,¬last<a.st)→OUT=[]∧RM ⟨TX,hd7,aq7⟩ m'∧TX.length≤R.tx.length∧hd7.length+aq7.length≤R.hd.length+R.aq.length):=end_fi hI2 hsame hTX hetl
 have HR1:=hide hR1
 clear hR1 hsame hTX hel hetl hrm hrs hend hlv hte htex
 have KP:=hide (place_r h x (by omega))
 rw[hi] at KP
 have hcells:∀W,G w W→∀j u,(txc tv)[j]?=some u→W.cell? ⟨ga,j,none⟩=some u:=fun W hW j u hj=>by
  have h2:=(h.G hW).rt
  have hjl:=(List.getElem?_eq_some_iff.1 hj).1
  rw[show(txc tv).length=tv.length*3 from flat_len txC 3 tx_len tv] at hjl
  rw[h2.cellAt j hjl];exact hj
 have hones:∀u∈txc tv,u.oneCell'=true:=fun u hu=>by
  obtain⟨a,ha,hu⟩:=List.mem_flatMap.1 hu
  obtain⟨wa,wc,hw⟩:=row_form (h.rw_ a ha)
  simp[txC,hw] at hu
  rcases hu with rfl|rfl|rfl<;>rfl
 have hk0:¬(k:Int)<0:=by omega
 have hk00:(0:Int)≤(k:Int):=by omega
 have hkc:(k:Int)≤(cap:Int):=by omega
 have hkl:(k:Int)≤(tv.length:Int):=by omega
 have hwk:wrap64 ((k:Int)+1)=(k:Int)+1:=by unfold wrap64;omega
 have hk1:(k:Int)+1≤(tv.length:Int):=by omega
 have hk2:(k:Int)+1≤(cap:Int):=by omega
 have hlc:(tv.length:Int)≤(cap:Int):=by omega
 clear hi hm hI hp hI2 hL hl
 by_cases hcn:cap=k+1
 ·subst hcn
  obtain⟨v1,w1,r1,r2,r3,r4⟩:=app_tx w w.heap.size (.slice none 0 0) [] (tv.take k) ⟨rfl,.inl ⟨rfl,rfl⟩⟩ ⟨ga,0,none⟩ k (k+1) (by rw[List.length_take];omega) (fun j u hj=>by
   rw[Addr.add_mid,Nat.zero_add]
   refine hcells w (G.refl w) j u ?_
   have e:=txc_app (tv.take k) (tv.drop k)
   rw[List.take_append_drop] at e
   rw[e,List.getElem?_append_left (List.getElem?_eq_some_iff.1 hj).1];exact hj) (fun u hu=>hones u (by
   obtain⟨a,ha,hu⟩:=List.mem_flatMap.1 hu
   exact List.mem_flatMap.2 ⟨a,List.mem_of_mem_take ha,hu⟩)) (by rw[List.length_take,List.length_nil];omega) (Nat.le_refl _)
  have g1:G w w1:=grown_G (G.refl w) r3 (fun k hk=>by cases hk)
  rw[List.nil_append] at r2
  obtain⟨v2,w2,s1,s2,s3,s4⟩:=app_tx w1 w.heap.size v1 (tv.take k) (tv.drop (k+1)) r2 ⟨ga,0,none⟩ 0 0 (by rw[List.length_drop];try omega) (fun j u hj=>by
   rw[List.drop_of_length_le (by omega)] at hj;cases hj) (fun u hu=>hones u (by
   obtain⟨a,ha,hu⟩:=List.mem_flatMap.1 hu
   exact List.mem_flatMap.2 ⟨a,List.mem_of_mem_drop ha,hu⟩)) (by rw[List.length_take,List.length_drop];omega) g1.size
  have g2:G w w2:=grown_G g1 s3 (fun k hk=>(World.ownsRow.lt r2 k hk).1)
  obtain⟨p1,p2,p3⟩:=h.putT g2.chg (own_lo s2 (Nat.zero_le _)) (fun k hk=>.inr (World.ownsRow.lt s2 k hk).1) (fun e he=>by
   rcases List.mem_append.1 he with he|he
   ·exact .inl (List.mem_of_mem_take he)
   ·exact .inl (List.mem_of_mem_drop he))
  have hmp:(tv.take k++tv.drop (k+1)).map Prod.fst=R.tx.take k++R.tx.drop (k+1):=by rw[List.map_append,List.map_take,List.map_drop,h.tm]
  rw[hmp] at p1
  obtain⟨x1,y1,hv1⟩:=row_form r2
  obtain⟨n1,hn1⟩:∃n1,n1=(tv.take k).length:=⟨_,rfl⟩
  rw[←hn1] at hv1
  subst hv1
  obtain⟨x2,y2,hv2⟩:=row_form s2
  obtain⟨n2,hn2⟩:∃n2,n2=(tv.take k++tv.drop (k+1)).length:=⟨_,rfl⟩
  rw[←hn2] at hv2
  subst hv2
  have hbc:=h.blk.cell
  have hb1:=(h.blk.G g1).cell
  have hb2:=(h.blk.G g2).cell
  have hz2:=(h.blk.G g2).frozen
  have HA:=hide r1;have HB:=hide s1
  have HP1:=hide p1;have HP2:=hide (And.intro p2 p3)
  clear r1 r2 r3 r4 s1 s2 s3 s4 hcells hones h hn1 hn2 p1 p2 p3 g1 g2 hmp
  go_enter func52,ntmps52
  go_wp2_with (first|(go_at_call 61;with_reducible refine(KP.out).mono ?_;rintro e w' ⟨rfl,e9⟩;subst w')|(at_builtin;refine wpList_append_run rfl _ _ 102 rfl _ _ rfl rfl HA.out ?_;refine Hid.out ?_)|fail)
  unfold Hid
  go_wp2_with (first|(at_builtin;refine wpList_append_run rfl _ _ 102 rfl _ _ rfl rfl HB.out ?_)|fail)
  obtain⟨w3,hw3⟩:∃w3,w3=w2.setCell ⟨b,0,none⟩ (.slice x2 n2 y2):=⟨_,rfl⟩
  rw[←hw3] at HP1 HP2⊢
  obtain⟨D3,hD3⟩:∃D3:Nat→Prop,D3=fun k=>D k∨(Value.slice x2 n2 y2).ownBlock=some k:=⟨_,rfl⟩
  replace HP1:Hid (RV w3 b ⟨R.tx.take k++R.tx.drop (k+1),R.hd,R.aq⟩ D3 (.slice x2 n2 y2) vh va (tv.take k++tv.drop (k+1))):=by rw[hD3];exact HP1.out
  replace HP2:Hid (Chg D w w3∧∀k,D3 k→D k∨w.heap.size≤k):=by rw[hD3];exact HP2.out
  clear hw3 hD3 hb1 hb2 hz2 hbc HA HB KP
  obtain⟨ra,rcap,rfl⟩:=row_form HP1.out.rh
  go_loopw [9,10] (fun ov iv wr=>∃n:Nat,n≤R.hd.length∧iv=I (n:Int)∧wr.ownsRow w3.heap.size 107 6 ov ((R.hd.take n).filter fun e=>e.x != x).length (lkc ((R.hd.take n).filter fun e=>e.x != x))∧G w3 wr) (fun _ iv _=>R.hd.length-(RowKit.intOf iv).toNat)
  case atStart=>exact⟨0,Nat.zero_le _,rfl,⟨rfl,.inl ⟨rfl,rfl⟩⟩,G.refl _⟩
  case round=>
   obtain⟨n,hn,rfl,how,hgw⟩:=hrel
   have hll:=HLL.out
   have hR:=HP1.out.G hgw
   have hbc:=hR.blk.cell
   by_cases hlt:n<R.hd.length
   ·obtain⟨⟨ex,r,ec,eu⟩,he⟩:∃a,R.hd[n]?=some a:=⟨_,List.getElem?_eq_getElem hlt⟩
    obtain⟨gh,hgh,kc⟩:=row_cell lk_len hR.rh he
    subst hgh
    have k0:wr.cell? ⟨gh,n*6,none⟩=some (I ex):=kc 0 (by omega)
    have k1:wr.cell? ⟨gh,n*6+1,none⟩=some (I r.lv):=kc 1 (by omega)
    have k2:wr.cell? ⟨gh,n*6+2,none⟩=some (.string r.lb):=kc 2 (by omega)
    have k3:wr.cell? ⟨gh,n*6+3,none⟩=some (I r.id):=kc 3 (by omega)
    have k4:wr.cell? ⟨gh,n*6+4,none⟩=some (I ec):=kc 4 (by omega)
    have k5:wr.cell? ⟨gh,n*6+5,none⟩=some (.bool eu):=kc 5 (by omega)
    have hnI:(n:Int)<(R.hd.length:Int):=by omega
    have hwn:wrap64 ((n:Int)+1)=(n:Int)+1:=by unfold wrap64;omega
    have HWN:=hide hwn;have HLT:=hide hlt;have HGW:=hide hgw;have HOW:=hide how
    have hfl:(R.hd.take (n+1)).filter (fun e=>e.x != x)=(R.hd.take n).filter (fun e=>e.x != x)++(if ex=x then [] else [⟨ex,r,ec,eu⟩]):=by
     rw[take_lk he,List.filter_append]
     congr 1
     by_cases h9:ex=x
     ·rw[if_pos h9,List.filter_cons_of_neg (by simp[h9])];rfl
     ·rw[if_neg h9,List.filter_cons_of_pos (by simp[h9])];rfl
    have hflen:((R.hd.take n).filter (fun e=>e.x != x)).length≤R.hd.length:=Nat.le_trans (List.length_filter_le _ _) (by rw[List.length_take];omega)
    by_cases e1:ex=x
    ·rw[if_pos e1,List.append_nil] at hfl
     have HF:=hide hfl
     rw[e1] at k0
     have d1:(x != x)=false:=by simp
     clear hn hlt he hwn kc hll hgw hR how hfl hflen e1
     go_wp2_with fail
     exact⟨⟨n+1,HLT.out,by rw[HWN.out];exact rl1 n,by rw[HF.out];exact HOW.out,HGW.out⟩,by rw[HWN.out];exact ms_end HLT.out⟩
    ·rw[if_neg e1] at hfl
     have HF:=hide hfl
     have d1:(ex != x)=true:=by simp[e1]
     have d2:(ex==x)=false:=by simp[e1]
     have d3:decide (ex=x)=false:=by simp[e1]
     obtain⟨v9,w9,r1,r2,r3,-⟩:=app_lk (wr.alloc (.cells #[I ex,I r.lv,.string r.lb,I r.id,I ec,.bool eu] 107)) w3.heap.size _ _ [⟨ex,r,ec,eu⟩] (own_G how ((G.refl wr).alloc _)) ⟨wr.heap.size,0,none⟩ 1 1 rfl (fun j u hj=>by
      have:=(Blk.new wr [I ex,I r.lv,.string r.lb,I r.id,I ec,.bool eu] 107).cell j
      rw[Addr.add_mid,Nat.zero_add,this]
      exact hj) (by rw[List.length_singleton];omega) ((hgw.alloc _).size)
     have HG9:Hid (G w3 w9):=grown_G (hgw.alloc _) r3 (fun k hk=>(World.ownsRow.lt how k hk).1)
     have HA9:=hide r1;have HR9:=hide r2
     clear hn hlt he hwn kc hll hgw hR how hfl hflen e1 r1 r2 r3
     go_wp2_with (first|(at_builtin;refine wpList_append_run rfl _ _ 103 rfl _ _ rfl rfl HA9.out ?_)|fail)
     exact⟨⟨n+1,HLT.out,by rw[HWN.out];exact rl1 n,by rw[HF.out];exact HR9.out,HG9.out⟩,by rw[HWN.out];exact ms_end HLT.out⟩
   ·have hne:n=R.hd.length:=by omega
    subst hne
    have hnI:¬((R.hd.length:Int)<(R.hd.length:Int)):=by omega
    rw[List.take_length] at how
    obtain⟨p1,p2,p3⟩:=HP1.out.putH hgw.chg (own_lo how (Nat.zero_le _)) (fun k hk=>.inr (World.ownsRow.lt how k hk).1)
    obtain⟨oa,oc,hov⟩:=row_form how
    obtain⟨on,hon⟩:∃on,on=(R.hd.filter fun e=>e.x != x).length:=⟨_,rfl⟩
    rw[←hon] at hov
    subst hov
    have hz:=hR.blk.frozen
    obtain⟨c5,n5⟩:=chg_next HP2.out.1 HP2.out.2 p2 p3
    obtain⟨D5,hD5⟩:∃D5:Nat→Prop,D5=fun k=>D3 k∨(Value.slice oa on oc).ownBlock=some k:=⟨_,rfl⟩
    rw[←hD5] at p1
    replace n5:∀k,D5 k→D k∨w.heap.size≤k:=by rw[hD5];exact n5
    have HR5:=hide p1;have HC5:=hide c5;have HN5:=hide n5
    have KQ:=hide (request_r p1 x (show R.aq.length<2000000000000 by omega))
    have hfl:(R.hd.filter fun e=>e.x != x).length≤R.hd.length:=List.length_filter_le _ _
    have HFL:=hide hfl
    clear hn hlt hll hgw hR how p1 p2 p3 hon hD5 c5 n5 HP1 HP2 hfl
    rcases idxI_cases (fun e:Lk=>e.x==x) R.aq with ⟨hq1,hq2⟩|⟨n,q,hq1,hq2,hq3,hq4⟩
    ·replace KQ:Hid (Calls prog 60 #[ptr b,I x] (wr.setCell ⟨b,1,none⟩ (.slice oa on oc)) fun e w'=>e=.returned (I (-1))∧w'=wr.setCell ⟨b,1,none⟩ (.slice oa on oc)):=by have h9:=KQ.out;rw[show idxI (fun e:Lk=>e.x==x) (⟨R.tx.take k++R.tx.drop (k+1),R.hd.filter (fun e=>e.x != x),R.aq⟩:Rt).aq = -1 from hq1] at h9;exact h9
     have HEA:=hide (endR_no hq2 HR1.out)
     have KG:=HKG.out _ D5 (by rw[HEA.out];exact⟨_,_,_,_,HR5.out⟩)
     have HKG2:=hide KG
     clear hq1 hq2 KG
     go_wp2_with (first|(go_at_call 60;with_reducible refine(KQ.out).mono ?_;rintro e w' ⟨rfl,rfl⟩)|(go_at_call 90;(with_reducible refine(HKG2.out).mono ?_);rintro e w7 ⟨v7,hd7,aq7,got,D7,rfl,hj7,o7,rt7,c7,n7,nd7⟩;refine Hid.out ?_)|fail)
     unfold Hid
     obtain⟨c77,n77⟩:=chg_next HC5.out HN5.out c7 n7
     obtain⟨e1,e2⟩:=HKF.out hd7 aq7 got hj7
     have HKW:=hide (e2 w7 D7 rt7)
     have HC7:=hide c77;have HN7:=hide n77
     have HO7:=hide (own_chg (own_lo o7 HC5.out.size) (Chg.refl D7 w7) nd7);have HND7:=hide nd7
     have HE1:=hide e1
     clear c7 n7 c77 n77 o7 nd7 e2 e1 HKG2
     go_wp2_with (first|(go_at_call 87;(with_reducible refine(HKW.out).mono ?_);rintro e w8 ⟨v8,OUT,TX,last,D8,rfl,hj8,hmax,o8,rt8,c8,n8,nd8⟩)|fail)
     obtain⟨c88,n88⟩:=chg_next HC7.out HN7.out c8 n8
     have hfin:=HFI.out hd7 aq7 got hj7 TX OUT last hj8 (fun a ha=>by have:=hmax a ha;omega)
     exact bodyPost_ret (v:=.tuple #[v7,v8,.int .i64 0]) (by simp[results,results52,go_sem]) rfl ⟨v7,v8,rfl,by rw[←HE1.out];exact own_chg HO7.out c8 HND7.out,by have h9:=o8;rw[hfin.1] at h9;exact own_lo h9 HC7.out.size,⟨_,D8,rt8,hfin.2.1,c88,n88,hfin.2.2.1,hfin.2.2.2⟩⟩
    ·replace KQ:Hid (Calls prog 60 #[ptr b,I x] (wr.setCell ⟨b,1,none⟩ (.slice oa on oc)) fun e w'=>e=.returned (I (n:Int))∧w'=wr.setCell ⟨b,1,none⟩ (.slice oa on oc)):=by have h9:=KQ.out;rw[show idxI (fun e:Lk=>e.x==x) (⟨R.tx.take k++R.tx.drop (k+1),R.hd.filter (fun e=>e.x != x),R.aq⟩:Rt).aq=(n:Int)from hq1] at h9;exact h9
     have hn0:(0:Int)≤(n:Int):=by omega
     have hnl:=(List.getElem?_eq_some_iff.1 hq2).1
     have HEA:=hide (endR_yes hq2 hq3 hq4 HR1.out)
     have KL:=hide (leave_r HR5.out n (show n<R.aq.length from hnl) (show R.aq.length<400000000000 by have:=HLL.out;omega))
     clear hq1 hq2 hq3 hq4 hnl
     go_wp2_with (first|(go_at_call 60;with_reducible refine(KQ.out).mono ?_;rintro e w' ⟨rfl,rfl⟩)|(go_at_call 88;with_reducible refine(KL.out).mono ?_;rintro e w6 ⟨rfl,h6⟩;refine Hid.out ?_)|fail)
     unfold Hid
     obtain⟨D6,rt6,c6,n6⟩:=h6
     rw[←HEA.out] at rt6
     obtain⟨c66,n66⟩:=chg_next HC5.out HN5.out c6 n6
     have HKG2:=hide (HKG.out _ D6 rt6)
     have HC5:=hide c66
     have HN5:=hide n66
     clear c6 n6 rt6 KL KQ c66 n66
     go_wp2_with (first|(go_at_call 90;(with_reducible refine(HKG2.out).mono ?_);rintro e w7 ⟨v7,hd7,aq7,got,D7,rfl,hj7,o7,rt7,c7,n7,nd7⟩;refine Hid.out ?_)|fail)
     unfold Hid
     obtain⟨c77,n77⟩:=chg_next HC5.out HN5.out c7 n7
     obtain⟨e1,e2⟩:=HKF.out hd7 aq7 got hj7
     have HKW:=hide (e2 w7 D7 rt7)
     have HC7:=hide c77;have HN7:=hide n77
     have HO7:=hide (own_chg (own_lo o7 HC5.out.size) (Chg.refl D7 w7) nd7);have HND7:=hide nd7
     have HE1:=hide e1
     clear c7 n7 c77 n77 o7 nd7 e2 e1 HKG2
     go_wp2_with (first|(go_at_call 87;(with_reducible refine(HKW.out).mono ?_);rintro e w8 ⟨v8,OUT,TX,last,D8,rfl,hj8,hmax,o8,rt8,c8,n8,nd8⟩)|fail)
     obtain⟨c88,n88⟩:=chg_next HC7.out HN7.out c8 n8
     have hfin:=HFI.out hd7 aq7 got hj7 TX OUT last hj8 (fun a ha=>by have:=hmax a ha;omega)
     exact bodyPost_ret (v:=.tuple #[v7,v8,.int .i64 0]) (by simp[results,results52,go_sem]) rfl ⟨v7,v8,rfl,by rw[←HE1.out];exact own_chg HO7.out c8 HND7.out,by have h9:=o8;rw[hfin.1] at h9;exact own_lo h9 HC7.out.size,⟨_,D8,rt8,hfin.2.1,c88,n88,hfin.2.2.1,hfin.2.2.2⟩⟩
 ·obtain⟨v1,w1,r1,r2,r3,r4⟩:=app_tx w w.heap.size (.slice none 0 0) [] (tv.take k) ⟨rfl,.inl ⟨rfl,rfl⟩⟩ ⟨ga,0,none⟩ k cap (by rw[List.length_take];omega) (fun j u hj=>by
   rw[Addr.add_mid,Nat.zero_add]
   refine hcells w (G.refl w) j u ?_
   have e:=txc_app (tv.take k) (tv.drop k)
   rw[List.take_append_drop] at e
   rw[e,List.getElem?_append_left (List.getElem?_eq_some_iff.1 hj).1];exact hj) (fun u hu=>hones u (by
   obtain⟨a,ha,hu⟩:=List.mem_flatMap.1 hu
   exact List.mem_flatMap.2 ⟨a,List.mem_of_mem_take ha,hu⟩)) (by rw[List.length_take,List.length_nil];omega) (Nat.le_refl _)
  have g1:G w w1:=grown_G (G.refl w) r3 (fun k hk=>by cases hk)
  rw[List.nil_append] at r2
  obtain⟨v2,w2,s1,s2,s3,s4⟩:=app_tx w1 w.heap.size v1 (tv.take k) (tv.drop (k+1)) r2 ⟨ga,(k+1)*3,none⟩ (tv.length-(k+1)) (cap-(k+1)) (by rw[List.length_drop];try omega) (fun j u hj=>by
   rw[Addr.add_mid]
   refine hcells w1 g1 _ u ?_
   have e:=txc_app (tv.take (k+1)) (tv.drop (k+1))
   rw[List.take_append_drop] at e
   have hlt:(txc (tv.take (k+1))).length=(k+1)*3:=by
    rw[show(txc (tv.take (k+1))).length=(tv.take (k+1)).length*3 from flat_len txC 3 tx_len _,List.length_take,Nat.min_eq_left (by omega)]
   rw[e,List.getElem?_append_right (by omega),hlt,Nat.add_sub_cancel_left];exact hj) (fun u hu=>hones u (by
   obtain⟨a,ha,hu⟩:=List.mem_flatMap.1 hu
   exact List.mem_flatMap.2 ⟨a,List.mem_of_mem_drop ha,hu⟩)) (by rw[List.length_take,List.length_drop];omega) g1.size
  have g2:G w w2:=grown_G g1 s3 (fun k hk=>(World.ownsRow.lt r2 k hk).1)
  obtain⟨p1,p2,p3⟩:=h.putT g2.chg (own_lo s2 (Nat.zero_le _)) (fun k hk=>.inr (World.ownsRow.lt s2 k hk).1) (fun e he=>by
   rcases List.mem_append.1 he with he|he
   ·exact .inl (List.mem_of_mem_take he)
   ·exact .inl (List.mem_of_mem_drop he))
  have hmp:(tv.take k++tv.drop (k+1)).map Prod.fst=R.tx.take k++R.tx.drop (k+1):=by rw[List.map_append,List.map_take,List.map_drop,h.tm]
  rw[hmp] at p1
  obtain⟨x1,y1,hv1⟩:=row_form r2
  obtain⟨n1,hn1⟩:∃n1,n1=(tv.take k).length:=⟨_,rfl⟩
  rw[←hn1] at hv1
  subst hv1
  obtain⟨x2,y2,hv2⟩:=row_form s2
  obtain⟨n2,hn2⟩:∃n2,n2=(tv.take k++tv.drop (k+1)).length:=⟨_,rfl⟩
  rw[←hn2] at hv2
  subst hv2
  have hbc:=h.blk.cell
  have hb1:=(h.blk.G g1).cell
  have hb2:=(h.blk.G g2).cell
  have hz2:=(h.blk.G g2).frozen
  have HA:=hide r1;have HB:=hide s1
  have HP1:=hide p1;have HP2:=hide (And.intro p2 p3)
  clear r1 r2 r3 r4 s1 s2 s3 s4 hcells hones h hn1 hn2 p1 p2 p3 g1 g2 hmp
  go_enter func52,ntmps52
  go_wp2_with (first|(go_at_call 61;with_reducible refine(KP.out).mono ?_;rintro e w' ⟨rfl,e9⟩;subst w')|(at_builtin;refine wpList_append_run rfl _ _ 102 rfl _ _ rfl rfl HA.out ?_;refine Hid.out ?_)|fail)
  unfold Hid
  go_wp2_with (first|(at_builtin;refine wpList_append_run rfl _ _ 102 rfl _ _ rfl rfl HB.out ?_)|fail)
  obtain⟨w3,hw3⟩:∃w3,w3=w2.setCell ⟨b,0,none⟩ (.slice x2 n2 y2):=⟨_,rfl⟩
  rw[←hw3] at HP1 HP2⊢
  obtain⟨D3,hD3⟩:∃D3:Nat→Prop,D3=fun k=>D k∨(Value.slice x2 n2 y2).ownBlock=some k:=⟨_,rfl⟩
  replace HP1:Hid (RV w3 b ⟨R.tx.take k++R.tx.drop (k+1),R.hd,R.aq⟩ D3 (.slice x2 n2 y2) vh va (tv.take k++tv.drop (k+1))):=by rw[hD3];exact HP1.out
  replace HP2:Hid (Chg D w w3∧∀k,D3 k→D k∨w.heap.size≤k):=by rw[hD3];exact HP2.out
  clear hw3 hD3 hb1 hb2 hz2 hbc HA HB KP
  obtain⟨ra,rcap,rfl⟩:=row_form HP1.out.rh
  go_loopw [9,10] (fun ov iv wr=>∃n:Nat,n≤R.hd.length∧iv=I (n:Int)∧wr.ownsRow w3.heap.size 107 6 ov ((R.hd.take n).filter fun e=>e.x != x).length (lkc ((R.hd.take n).filter fun e=>e.x != x))∧G w3 wr) (fun _ iv _=>R.hd.length-(RowKit.intOf iv).toNat)
  case atStart=>exact⟨0,Nat.zero_le _,rfl,⟨rfl,.inl ⟨rfl,rfl⟩⟩,G.refl _⟩
  case round=>
   obtain⟨n,hn,rfl,how,hgw⟩:=hrel
   have hll:=HLL.out
   have hR:=HP1.out.G hgw
   have hbc:=hR.blk.cell
   by_cases hlt:n<R.hd.length
   ·obtain⟨⟨ex,r,ec,eu⟩,he⟩:∃a,R.hd[n]?=some a:=⟨_,List.getElem?_eq_getElem hlt⟩
    obtain⟨gh,hgh,kc⟩:=row_cell lk_len hR.rh he
    subst hgh
    have k0:wr.cell? ⟨gh,n*6,none⟩=some (I ex):=kc 0 (by omega)
    have k1:wr.cell? ⟨gh,n*6+1,none⟩=some (I r.lv):=kc 1 (by omega)
    have k2:wr.cell? ⟨gh,n*6+2,none⟩=some (.string r.lb):=kc 2 (by omega)
    have k3:wr.cell? ⟨gh,n*6+3,none⟩=some (I r.id):=kc 3 (by omega)
    have k4:wr.cell? ⟨gh,n*6+4,none⟩=some (I ec):=kc 4 (by omega)
    have k5:wr.cell? ⟨gh,n*6+5,none⟩=some (.bool eu):=kc 5 (by omega)
    have hnI:(n:Int)<(R.hd.length:Int):=by omega
    have hwn:wrap64 ((n:Int)+1)=(n:Int)+1:=by unfold wrap64;omega
    have HWN:=hide hwn;have HLT:=hide hlt;have HGW:=hide hgw;have HOW:=hide how
    have hfl:(R.hd.take (n+1)).filter (fun e=>e.x != x)=(R.hd.take n).filter (fun e=>e.x != x)++(if ex=x then [] else [⟨ex,r,ec,eu⟩]):=by
     rw[take_lk he,List.filter_append]
     congr 1
     by_cases h9:ex=x
     ·rw[if_pos h9,List.filter_cons_of_neg (by simp[h9])];rfl
     ·rw[if_neg h9,List.filter_cons_of_pos (by simp[h9])];rfl
    have hflen:((R.hd.take n).filter (fun e=>e.x != x)).length≤R.hd.length:=Nat.le_trans (List.length_filter_le _ _) (by rw[List.length_take];omega)
    by_cases e1:ex=x
    ·rw[if_pos e1,List.append_nil] at hfl
     have HF:=hide hfl
     rw[e1] at k0
     have d1:(x != x)=false:=by simp
     clear hn hlt he hwn kc hll hgw hR how hfl hflen e1
     go_wp2_with fail
     exact⟨⟨n+1,HLT.out,by rw[HWN.out];exact rl1 n,by rw[HF.out];exact HOW.out,HGW.out⟩,by rw[HWN.out];exact ms_end HLT.out⟩
    ·rw[if_neg e1] at hfl
     have HF:=hide hfl
     have d1:(ex != x)=true:=by simp[e1]
     have d2:(ex==x)=false:=by simp[e1]
     have d3:decide (ex=x)=false:=by simp[e1]
     obtain⟨v9,w9,r1,r2,r3,-⟩:=app_lk (wr.alloc (.cells #[I ex,I r.lv,.string r.lb,I r.id,I ec,.bool eu] 107)) w3.heap.size _ _ [⟨ex,r,ec,eu⟩] (own_G how ((G.refl wr).alloc _)) ⟨wr.heap.size,0,none⟩ 1 1 rfl (fun j u hj=>by
      have:=(Blk.new wr [I ex,I r.lv,.string r.lb,I r.id,I ec,.bool eu] 107).cell j
      rw[Addr.add_mid,Nat.zero_add,this]
      exact hj) (by rw[List.length_singleton];omega) ((hgw.alloc _).size)
     have HG9:Hid (G w3 w9):=grown_G (hgw.alloc _) r3 (fun k hk=>(World.ownsRow.lt how k hk).1)
     have HA9:=hide r1;have HR9:=hide r2
     clear hn hlt he hwn kc hll hgw hR how hfl hflen e1 r1 r2 r3
     go_wp2_with (first|(at_builtin;refine wpList_append_run rfl _ _ 103 rfl _ _ rfl rfl HA9.out ?_)|fail)
     exact⟨⟨n+1,HLT.out,by rw[HWN.out];exact rl1 n,by rw[HF.out];exact HR9.out,HG9.out⟩,by rw[HWN.out];exact ms_end HLT.out⟩
   ·have hne:n=R.hd.length:=by omega
    subst hne
    have hnI:¬((R.hd.length:Int)<(R.hd.length:Int)):=by omega
    rw[List.take_length] at how
    obtain⟨p1,p2,p3⟩:=HP1.out.putH hgw.chg (own_lo how (Nat.zero_le _)) (fun k hk=>.inr (World.ownsRow.lt how k hk).1)
    obtain⟨oa,oc,hov⟩:=row_form how
    obtain⟨on,hon⟩:∃on,on=(R.hd.filter fun e=>e.x != x).length:=⟨_,rfl⟩
    rw[←hon] at hov
    subst hov
    have hz:=hR.blk.frozen
    obtain⟨c5,n5⟩:=chg_next HP2.out.1 HP2.out.2 p2 p3
    obtain⟨D5,hD5⟩:∃D5:Nat→Prop,D5=fun k=>D3 k∨(Value.slice oa on oc).ownBlock=some k:=⟨_,rfl⟩
    rw[←hD5] at p1
    replace n5:∀k,D5 k→D k∨w.heap.size≤k:=by rw[hD5];exact n5
    have HR5:=hide p1;have HC5:=hide c5;have HN5:=hide n5
    have KQ:=hide (request_r p1 x (show R.aq.length<2000000000000 by omega))
    have hfl:(R.hd.filter fun e=>e.x != x).length≤R.hd.length:=List.length_filter_le _ _
    have HFL:=hide hfl
    clear hn hlt hll hgw hR how p1 p2 p3 hon hD5 c5 n5 HP1 HP2 hfl
    rcases idxI_cases (fun e:Lk=>e.x==x) R.aq with ⟨hq1,hq2⟩|⟨n,q,hq1,hq2,hq3,hq4⟩
    ·replace KQ:Hid (Calls prog 60 #[ptr b,I x] (wr.setCell ⟨b,1,none⟩ (.slice oa on oc)) fun e w'=>e=.returned (I (-1))∧w'=wr.setCell ⟨b,1,none⟩ (.slice oa on oc)):=by have h9:=KQ.out;rw[show idxI (fun e:Lk=>e.x==x) (⟨R.tx.take k++R.tx.drop (k+1),R.hd.filter (fun e=>e.x != x),R.aq⟩:Rt).aq = -1 from hq1] at h9;exact h9
     have HEA:=hide (endR_no hq2 HR1.out)
     have KG:=HKG.out _ D5 (by rw[HEA.out];exact⟨_,_,_,_,HR5.out⟩)
     have HKG2:=hide KG
     clear hq1 hq2 KG
     go_wp2_with (first|(go_at_call 60;with_reducible refine(KQ.out).mono ?_;rintro e w' ⟨rfl,rfl⟩)|(go_at_call 90;(with_reducible refine(HKG2.out).mono ?_);rintro e w7 ⟨v7,hd7,aq7,got,D7,rfl,hj7,o7,rt7,c7,n7,nd7⟩;refine Hid.out ?_)|fail)
     unfold Hid
     obtain⟨c77,n77⟩:=chg_next HC5.out HN5.out c7 n7
     obtain⟨e1,e2⟩:=HKF.out hd7 aq7 got hj7
     have HKW:=hide (e2 w7 D7 rt7)
     have HC7:=hide c77;have HN7:=hide n77
     have HO7:=hide (own_chg (own_lo o7 HC5.out.size) (Chg.refl D7 w7) nd7);have HND7:=hide nd7
     have HE1:=hide e1
     clear c7 n7 c77 n77 o7 nd7 e2 e1 HKG2
     go_wp2_with (first|(go_at_call 87;(with_reducible refine(HKW.out).mono ?_);rintro e w8 ⟨v8,OUT,TX,last,D8,rfl,hj8,hmax,o8,rt8,c8,n8,nd8⟩)|fail)
     obtain⟨c88,n88⟩:=chg_next HC7.out HN7.out c8 n8
     have hfin:=HFI.out hd7 aq7 got hj7 TX OUT last hj8 (fun a ha=>by have:=hmax a ha;omega)
     exact bodyPost_ret (v:=.tuple #[v7,v8,.int .i64 0]) (by simp[results,results52,go_sem]) rfl ⟨v7,v8,rfl,by rw[←HE1.out];exact own_chg HO7.out c8 HND7.out,by have h9:=o8;rw[hfin.1] at h9;exact own_lo h9 HC7.out.size,⟨_,D8,rt8,hfin.2.1,c88,n88,hfin.2.2.1,hfin.2.2.2⟩⟩
    ·replace KQ:Hid (Calls prog 60 #[ptr b,I x] (wr.setCell ⟨b,1,none⟩ (.slice oa on oc)) fun e w'=>e=.returned (I (n:Int))∧w'=wr.setCell ⟨b,1,none⟩ (.slice oa on oc)):=by have h9:=KQ.out;rw[show idxI (fun e:Lk=>e.x==x) (⟨R.tx.take k++R.tx.drop (k+1),R.hd.filter (fun e=>e.x != x),R.aq⟩:Rt).aq=(n:Int)from hq1] at h9;exact h9
     have hn0:(0:Int)≤(n:Int):=by omega
     have hnl:=(List.getElem?_eq_some_iff.1 hq2).1
     have HEA:=hide (endR_yes hq2 hq3 hq4 HR1.out)
     have KL:=hide (leave_r HR5.out n (show n<R.aq.length from hnl) (show R.aq.length<400000000000 by have:=HLL.out;omega))
     clear hq1 hq2 hq3 hq4 hnl
     go_wp2_with (first|(go_at_call 60;with_reducible refine(KQ.out).mono ?_;rintro e w' ⟨rfl,rfl⟩)|(go_at_call 88;with_reducible refine(KL.out).mono ?_;rintro e w6 ⟨rfl,h6⟩;refine Hid.out ?_)|fail)
     unfold Hid
     obtain⟨D6,rt6,c6,n6⟩:=h6
     rw[←HEA.out] at rt6
     obtain⟨c66,n66⟩:=chg_next HC5.out HN5.out c6 n6
     have HKG2:=hide (HKG.out _ D6 rt6)
     have HC5:=hide c66
     have HN5:=hide n66
     clear c6 n6 rt6 KL KQ c66 n66
     go_wp2_with (first|(go_at_call 90;(with_reducible refine(HKG2.out).mono ?_);rintro e w7 ⟨v7,hd7,aq7,got,D7,rfl,hj7,o7,rt7,c7,n7,nd7⟩;refine Hid.out ?_)|fail)
     unfold Hid
     obtain⟨c77,n77⟩:=chg_next HC5.out HN5.out c7 n7
     obtain⟨e1,e2⟩:=HKF.out hd7 aq7 got hj7
     have HKW:=hide (e2 w7 D7 rt7)
     have HC7:=hide c77;have HN7:=hide n77
     have HO7:=hide (own_chg (own_lo o7 HC5.out.size) (Chg.refl D7 w7) nd7);have HND7:=hide nd7
     have HE1:=hide e1
     clear c7 n7 c77 n77 o7 nd7 e2 e1 HKG2
     go_wp2_with (first|(go_at_call 87;(with_reducible refine(HKW.out).mono ?_);rintro e w8 ⟨v8,OUT,TX,last,D8,rfl,hj8,hmax,o8,rt8,c8,n8,nd8⟩)|fail)
     obtain⟨c88,n88⟩:=chg_next HC7.out HN7.out c8 n8
     have hfin:=HFI.out hd7 aq7 got hj7 TX OUT last hj8 (fun a ha=>by have:=hmax a ha;omega)
     exact bodyPost_ret (v:=.tuple #[v7,v8,.int .i64 0]) (by simp[results,results52,go_sem]) rfl ⟨v7,v8,rfl,by rw[←HE1.out];exact own_chg HO7.out c8 HND7.out,by have h9:=o8;rw[hfin.1] at h9;exact own_lo h9 HC7.out.size,⟨_,D8,rt8,hfin.2.1,c88,n88,hfin.2.2.1,hfin.2.2.2⟩⟩
end
section
open Go.RowKit
def takT(tx:List Tx)(x st:Int):Prop:=∃e∈tx,e.x=x∨e.st=st
def BgP(w:World)(D:Nat→Prop)(b:Nat)(R:Rt)(x st:Int)(e:Ending)(w':World):Prop:=(takT R.tx x st∧e=.returned (I 80)∧w'=w)∨(¬takT R.tx x st∧e=.returned (I 0)∧Rst w D b ⟨R.tx++[⟨x,st,[]⟩],R.hd,R.aq⟩ w')
theorem begin_rarg(b:Nat)(x st:Int)(w:World)(hx:x<1∨st<1):Calls prog 50 #[ptr b,I x,I st] w fun e w'=>e=.returned (I 1)∧w'=w:=by
 by_cases h1:x<1
 ·clear hx
  go_enter func50,ntmps50
  go_wp2
  go_ret
  exact⟨rfl,rfl⟩
 ·have h2:st<1:=by omega
  have d1:decide (x<1)=false:=by simp;omega
  clear hx
  go_enter func50,ntmps50
  go_wp2
  go_ret
  exact⟨rfl,rfl⟩
theorem begin_r{w:World}{b:Nat}{R:Rt}{D:Nat→Prop}{vt vh va:Value}{tv:List (Tx×Value)}(h:RV w b R D vt vh va tv)(x st:Int)(hx:1≤x)(hs:1≤st)(hl:R.tx.length<400000000000):Calls prog 50 #[ptr b,I x,I st] w (BgP w D b R x st):=by
 obtain⟨ra,rcap,rfl⟩:=row_form h.rt
 have hbc:=h.blk.cell
 have hx1:¬x<1:=by omega
 have hs1:¬st<1:=by omega
 have H:=hide h;have HL:=hide hl
 clear h hl hx hs
 go_enter func50,ntmps50
 go_wp2_with fail
 go_loopw [7] (fun iv wr=>∃n:Nat,n≤tv.length∧iv=I (n:Int)∧wr=w∧∀(j:Nat) (e:Tx),j<n→R.tx[j]?=some e→¬(e.x=x∨e.st=st)) (fun iv _=>tv.length-(RowKit.intOf iv).toNat)
 case atStart=>exact⟨0,Nat.zero_le _,rfl,rfl,fun j e hj _=>by omega⟩
 case round=>
  obtain⟨n,hn,rfl,hwr,hno⟩:=hrel
  subst hwr
  have hll:=HL.out
  have htl:=H.out.tl
  by_cases hlt:n<tv.length
  ·obtain⟨⟨e,ev⟩,he⟩:∃a,tv[n]?=some a:=⟨_,List.getElem?_eq_getElem hlt⟩
   obtain⟨ga,hga,kc⟩:=row_cell tx_len H.out.rt he
   subst hga
   have k0:wr.cell? ⟨ga,n*3,none⟩=some (I e.x):=kc 0 (by omega)
   have k1:wr.cell? ⟨ga,n*3+1,none⟩=some (I e.st):=kc 1 (by omega)
   have hnI:(n:Int)<(tv.length:Int):=by omega
   have hwn:wrap64 ((n:Int)+1)=(n:Int)+1:=by unfold wrap64;omega
   have HWN:=hide hwn;have HLT:=hide hlt;have HE:=hide (at_fst H.out.tm he);have HNO:=hide hno
   clear hn hno hlt he hwn kc hll htl
   by_cases e1:e.x=x
   ·have HT:Hid (takT R.tx x st):=⟨e,List.mem_of_getElem? HE.out,.inl e1⟩
    rw[e1] at k0
    clear e1
    go_wp2
    go_ret
    exact .inl ⟨HT.out,rfl,rfl⟩
   ·have d1:(e.x==x)=false:=by simp[e1]
    have d2:decide (e.x=x)=false:=by simp[e1]
    by_cases e2:e.st=st
    ·have HT:Hid (takT R.tx x st):=⟨e,List.mem_of_getElem? HE.out,.inr e2⟩
     rw[e2] at k1
     clear e2
     go_wp2
     go_ret
     exact .inl ⟨HT.out,rfl,rfl⟩
    ·have d3:(e.st==st)=false:=by simp[e2]
     have d4:decide (e.st=st)=false:=by simp[e2]
     have HD1:Hid (¬(e.x=x∨e.st=st)):=fun hh=>hh.elim e1 e2
     go_wp2
     refine⟨⟨n+1,HLT.out,by rw[HWN.out];exact rl1 n,by first|rfl|trivial,fun j c hj hc=>?_⟩,by rw[HWN.out];exact ms_end HLT.out⟩
     by_cases ej:j=n
     ·subst ej
      rw[HE.out] at hc
      cases hc
      exact HD1.out
     ·exact HNO.out j c (by omega) hc
  ·have hne:n=tv.length:=by omega
   subst hne
   have hnI:¬((tv.length:Int)<(tv.length:Int)):=by omega
   have HT:Hid (¬takT R.tx x st):=by
    rintro⟨e,he,h2⟩
    obtain⟨j,hj⟩:=List.mem_iff_getElem?.1 he
    exact hno j e (by have:=(List.getElem?_eq_some_iff.1 hj).1;omega) hj h2
   have hb0:=H.out.blk.frozen
   obtain⟨v9,w9,r1,r2,r3,r4⟩:=app_tx (wr.alloc (.cells #[I x,I st,.slice none 0 0] 111)) 0 (.slice ra tv.length rcap) tv [(⟨x,st,[]⟩,.slice none 0 0)] (own_G H.out.rt ((G.refl wr).alloc _)) ⟨wr.heap.size,0,none⟩ 1 1 rfl (fun j u hj=>by
    have:=(Blk.new wr [I x,I st,.slice none 0 0] 111).cell j
    rw[Addr.add_mid,Nat.zero_add,this]
    exact hj) (fun u hu=>by simp[txc,txC] at hu;rcases hu with rfl|rfl|rfl<;>rfl) (by simp;omega) (Nat.zero_le _)
   have gA:G wr (wr.alloc (.cells #[I x,I st,.slice none 0 0] 111)):=(G.refl wr).alloc _
   have hcg:Chg (fun k=>(Value.slice ra tv.length rcap).ownBlock=some k) wr w9:=gA.chg.trans ⟨r3.os,r3.tape,r3.output,r3.size,fun k hk hn=>r3.block k hk (fun e=>hn e.symm)⟩
   obtain⟨p1,p2,p3⟩:=H.out.putT hcg r2 (fun k hk=>by
    rcases r4 with e|e
    ·rw[e] at hk;exact .inl hk
    ·rw[e] at hk;cases hk;exact .inr gA.size) (fun e he=>by
    rcases List.mem_append.1 he with he|he
    ·exact .inl he
    ·simp at he;subst he;exact .inr ⟨rfl,rfl⟩)
   have hb9:=(H.out.blk.chg hcg (own_ne H.out.rt H.out.blk (by decide))).cell
   have hz9:=(H.out.blk.chg hcg (own_ne H.out.rt H.out.blk (by decide))).frozen
   have HP:Hid (Rst wr D b ⟨R.tx++[⟨x,st,[]⟩],R.hd,R.aq⟩ (w9.setCell ⟨b,0,none⟩ v9)):=by
    have:=H.out.ends p1 p2 p3
    rw[List.map_append,H.out.tm] at this
    exact this
   obtain⟨a9,c9,hv9⟩:=row_form r2
   obtain⟨n9,hn9⟩:∃n9,n9=(tv++[((⟨x,st,[]⟩:Tx),Value.slice none 0 0)]).length:=⟨_,rfl⟩
   rw[←hn9] at hv9
   subst hv9
   have HA:=hide r1
   clear hn9
   clear hn hlt hno hll htl r1 r2 r3 r4 hcg p1 p2 p3 gA hb0
   go_wp2_with (first|(at_builtin;refine wpList_append_run rfl _ _ 102 rfl _ _ rfl rfl HA.out ?_)|fail)
   go_ret
   exact .inr ⟨HT.out,rfl,HP.out⟩
end
end Go.Proofs.YtoefbpldmlebdaaGreatDoor
