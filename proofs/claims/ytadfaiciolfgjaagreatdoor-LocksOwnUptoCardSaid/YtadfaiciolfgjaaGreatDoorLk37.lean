import Derived.Deep.MidRow
import Derived.Test.YtadfaiciolfgjaaGreatDoorLk33
import Derived.Test.YtadfaiciolfgjaaGreatDoorLk23
namespace Go.Proofs.YtadfaiciolfgjaaGreatDoor
open Go.Proofs.Tryz
set_option maxHeartbeats 1000000
set_option maxRecDepth 100000
section
open Go.RowKit Go.Shelf
theorem pred_call(x:Int)(B:Nat)(W:World)(hB:Blk W B 3 [I x])(q:Int×Int):Calls prog 68 #[.agg #[I q.1,I q.2],ptr B] W fun e w'=>e=.returned (.bool (decide (q.1=x)))∧G W w':=by
 exact(pred_txn x B W hB W q (G.refl W)).mono fun e w' h=>h
theorem idx_at(qs:List (Int×Int))(g cap k:Nat)(x:Int)(B:Nat)(w:World)(hq:QSl w (.slice (some ⟨g,0,none⟩) qs.length cap) qs)(hg:g<w.heap.size)(hB:Blk w B 3 [I x])(hk:k<qs.length)(hx:∀q,qs[k]?=some q→q.1=x)(hno:∀j q,j<k→qs[j]?=some q→q.1≠x)(hlen:qs.length≤maxLen):Calls prog 100 #[.slice (some ⟨g,0,none⟩) qs.length cap,.func (.func 68) #[] #[ptr B]] w fun e w'=>e=.returned (I (k:Int))∧G w w':=by
 have hm:maxLen≤9223372036854775807:=of_decide_eq_true (by kernel_rfl)
 have hcon:=AnyQ.slices_IndexFunc Tryz.idxHeld 2 isAgg68 sizeOf68 encH (fun _=>rfl) (fun q=>decide (q.1=x)) 68 #[ptr B] (enters_of func68 (by kernel_rfl) rfl) g 0 qs.length cap qs w (pred_txn x B w hB) (Nat.le_refl _) (by omega) hg (fun j hj i u hi=>by
  obtain⟨q,hqj⟩:∃q,qs[j]?=some q:=⟨_,List.getElem?_eq_getElem hj⟩
  have e:qs[j]! = q:=by simp[hqj]
  rw[e] at hi
  have h2:=hq.at hqj
  rw[Nat.zero_add]
  match i,hi with
  | 0,hi=>simp[encH] at hi;rw[←hi];exact h2.1
  | 1,hi=>simp[encH] at hi;rw[←hi];exact h2.2
  | i+2,hi=>simp[encH] at hi)
 rw[Lib.idxBy_hit _ qs qs.length k _ hk (Nat.le_refl _) (by
  obtain⟨q,hqj⟩:∃q,qs[k]?=some q:=⟨_,List.getElem?_eq_getElem hk⟩
  have e:qs[k]! = q:=by simp[hqj]
  rw[e]
  exact decide_eq_true (hx q hqj)) (fun j hj=>by
  obtain⟨q,hqj⟩:∃q,qs[j]?=some q:=⟨_,List.getElem?_eq_getElem (Nat.lt_trans hj hk)⟩
  have e:qs[j]! = q:=by simp[hqj]
  rw[e]
  exact decide_eq_false (hno j q hj hqj))] at hcon
 change Calls prog 100 _ _ _ at hcon
 exact hcon.mono fun e w' h=>h
def mvQ(qs:List (Int×Int))(k j:Nat):List (Int×Int):=qs.take k++(qs.drop (k+1)).take (j-1-k)++qs.drop (j-1)
theorem mvQ_0(qs:List (Int×Int))(k:Nat):mvQ qs k (k+1)=qs:=by
 unfold mvQ
 rw[show k+1-1-k=0 by omega,List.take_zero,List.append_nil,Nat.add_sub_cancel,List.take_append_drop]
theorem mvQ_len{qs:List (Int×Int)}{k j:Nat}(h1:k<j)(h2:j≤qs.length):(mvQ qs k j).length=qs.length:=by
 unfold mvQ
 rw[List.length_append,List.length_append,List.length_take,List.length_take,List.length_drop,List.length_drop]
 omega
theorem mvQ_at{qs:List (Int×Int)}{k j i:Nat}(h1:k<j)(h2:j≤qs.length)(hi:j≤i+1):(mvQ qs k j)[i]?=qs[i]?:=by
 unfold mvQ
 have hl:(qs.take k++(qs.drop (k+1)).take (j-1-k)).length=j-1:=by
  rw[List.length_append,List.length_take,List.length_take,List.length_drop]
  omega
 rw[List.getElem?_append_right (by omega),hl,List.getElem?_drop,show j-1+(i-(j-1))=i by omega]
theorem mvQ_step{qs:List (Int×Int)}{k j:Nat}{q:Int×Int}(h1:k<j)(h2:qs[j]?=some q):(mvQ qs k j).set (j-1) q=mvQ qs k (j+1):=by
 have h3:j<qs.length:=(List.getElem?_eq_some_iff.1 h2).1
 have hl:(qs.take k++(qs.drop (k+1)).take (j-1-k)).length=j-1:=by
  rw[List.length_append,List.length_take,List.length_take,List.length_drop]
  omega
 have hd:qs.drop (j-1)=qs[j-1]'(by omega)::qs.drop j:=by
  rw[List.drop_eq_getElem_cons (by omega),show j-1+1=j by omega]
 have ht:(qs.drop (k+1)).take (j+1-1-k)=(qs.drop (k+1)).take (j-1-k)++[q]:=by
  rw[show j+1-1-k=(j-1-k)+1 by omega,List.take_add_one,List.getElem?_drop,show k+1+(j-1-k)=j by omega,h2]
  rfl
 unfold mvQ
 rw[List.set_append_right _ _ (by omega),hl,Nat.sub_self,hd,ht,Nat.add_sub_cancel]
 simp
theorem mvQ_end{qs:List (Int×Int)}{k:Nat}(h:k<qs.length):mvQ qs k qs.length=cutQ qs k++qs.drop (qs.length-1):=by
 have e:(qs.drop (k+1)).take (qs.length-1-k)=qs.drop (k+1):=List.take_of_length_le (by rw[List.length_drop];omega)
 unfold mvQ cutQ
 rw[e]
theorem qc_set(qs:List (Int×Int))(rest:List Value):∀(i:Nat) (q:Int×Int),i<qs.length→(qc qs++rest).take (i*2)++[I q.1,I q.2]++(qc qs++rest).drop (i*2+2)=qc (qs.set i q)++rest:=by
 induction qs with
 | nil=>intro i q h;simp at h
 | cons p qs ih=>
  intro i q h
  cases i with
  | zero=>rfl
  | succ i=>
   have:=ih i q (by simpa using h)
   have e1:qc (p::qs)=I p.1::I p.2::qc qs:=rfl
   have e2:qc ((p::qs).set (i+1) q)=I p.1::I p.2::qc (qs.set i q):=rfl
   rw[e1,e2,show(i+1)*2=i*2+2 by omega]
   simpa using this
theorem ms_del{n i:Nat}(h:i+1<n):n-((i:Int)+1+1).toNat<n-((i:Int)+1).toNat:=by omega
theorem rl1(i:Nat):Value.int .i64 ((i:Int)+1)=Value.int .i64 ((i+1:Nat):Int):=by rw[Int.natCast_succ]
theorem rl2(i:Nat):Value.int .i64 ((i:Int)+1+1)=Value.int .i64 (((i+1:Nat):Int)+1):=by rw[Int.natCast_succ]
theorem size_th:(prog.info? 68).map (·.size)=some 2:=by kernel_rfl
theorem all_th(a b:Int):(#[I a,I b]:Array Value).all (·.oneCell')=true:=all_oneCell_toArray (cs:=[I a,I b]) (fun v hv=>by simp at hv;rcases hv with rfl|rfl<;>rfl)
theorem del_one(qs:List (Int×Int))(v:Value)(k:Nat)(x:Int)(B:Nat)(w:World)(hq:QSl w v qs)(hB:Blk w B 3 [I x])(hk:k<qs.length)(hx:∀q,qs[k]?=some q→q.1=x)(hno:∀j q,j≠k→qs[j]?=some q→q.1≠x)(hlen:qs.length≤17592186044416) :
  Calls prog 67 #[v,.func (.func 68) #[] #[ptr B]] w fun e w'=>∃v',e=.returned v'∧QSl w' v' (cutQ qs k)∧Chg (fun b=>v.ownBlock=some b) w w'∧v'.ownBlock=v.ownBlock:=by
 rcases hq with ⟨rfl,rfl⟩|⟨g,cap,rest,rfl,hb,hcap,hmax⟩
 ·simp at hk
 have hmx:(17592186044416:Nat)≤maxLen:=of_decide_eq_true (by kernel_rfl)
 have hgB:g≠B:=hb.ne hB (by decide)
 have hcl:qs.length≤cap:=by omega
 have KI:=hide (idx_at qs g cap k x B w (.inr ⟨g,cap,rest,rfl,hb,hcap,hmax⟩) hb.lt hB hk hx (fun j q hj=>hno j q (by omega)) (by omega))
 have HB0:=hide hb
 have HBB:=hide hB
 have HNO:=hide hno
 have HN:Hid (qs.length≤17592186044416):=hlen
 have HMX:=hide hmax
 have HCP:=hide hcap
 have HCL:=hide hcl
 have HGB:=hide hgB
 have HKL:=hide hk
 have hkI:¬((k:Int) = -1):=by omega
 have hw1:wrap64 ((k:Int)+1)=(k:Int)+1:=by unfold wrap64;omega
 clear hb hB hx hno hmx hcap hmax hgB hcl hlen
 go_enter func67,ntmps67
 go_wp2_with (first|(go_at_call 100;with_reducible refine(KI.out).mono ?_;rintro e w1 ⟨rfl,hg1⟩;have HG1:=hide hg1;clear hg1)|fail)
 have hkB:((k:Int)==-1)=false:=beq_eq_false_iff_ne.2 hkI
 rw[hw1,hkB]
 go_loopw [5,6,7] (fun a c _ W=>∃i:Nat,k≤i∧i+1≤qs.length∧a=.int .i64 (i:Int)∧c=.int .i64 ((i:Int)+1)∧Blk W g 68 (qc (mvQ qs k (i+1))++rest)∧Chg (fun b=>b=g) w W) (fun _ c _ _=>qs.length-(RowKit.intOf c).toNat)
 case atStart=>exact⟨k,Nat.le_refl _,HKL.out,rfl,rfl,by rw[mvQ_0];exact HB0.out.G HG1.out,HG1.out.chg⟩
 case round=>
  obtain⟨i,hki,hin,rfl,rfl,hbw,hcw⟩:=hrel
  have HKJ:Hid (k<i+1):=Nat.lt_succ_of_le hki
  have HBW:=hide hbw
  have HCW:=hide hcw
  have HIN:=hide hin
  clear hbw hcw HG1 KI hki
  by_cases hlt:i+1<qs.length
  ·have hltI:(i:Int)+1<(qs.length:Int):=by omega
   obtain⟨q,hqj⟩:∃q,qs[i+1]?=some q:=⟨_,List.getElem?_eq_getElem hlt⟩
   have hR:wr.rangeAt g ((i+1)*2) [I q.1,I q.2]:=fun y u hi=>by
    have hm:=mvQ_at HKJ.out hin (i:=i+1) (by omega)
    rw[hqj] at hm
    have h2:=qc_at (mvQ qs k (i+1)) rest (i+1) q.1 q.2 hm
    rw[HBW.out.cell]
    match y,hi with
    | 0,hi=>simp at hi;rw[←hi];exact h2.1
    | 1,hi=>simp at hi;rw[←hi];exact h2.2
    | y+2,hi=>simp at hi
   have HRR:=hide hR
   have HQJ:=hide hqj
   have hgN:=HBW.out.lt
   have hne:¬q.1=x:=HNO.out (i+1) q (by have:=HKJ.out;omega) hqj
   have gA:G wr (wr.alloc (.cells #[I q.1,I q.2] 68)):=(G.refl wr).alloc _
   have HBA:=hide (HBW.out.G gA)
   have HCA:=hide (HCW.out.trans (gA.chg (F:=fun b=>b=g)))
   have HBX:=hide (Blk.new wr [I q.1,I q.2] 68)
   have hbb:Blk (wr.alloc (.cells #[I q.1,I q.2] 68)) B 3 [I x]:=(HBB.out.chg HCW.out (Ne.symm HGB.out)).G gA
   have KP:=hide (pred_call x B _ hbb q)
   rw[decide_eq_false hne] at KP
   have hnw:¬g=wr.heap.size:=by omega
   have f1:((i:Int)+1).toNat=i+1:=by omega
   have f2:(0:Int)≤(i:Int)+1:=by omega
   have f3:wrap64 ((i:Int)+1+1)=(i:Int)+1+1:=by have:=HN.out;unfold wrap64;omega
   have f4:wrap64 ((i:Int)+1)=(i:Int)+1:=by have:=HN.out;unfold wrap64;omega
   have f5:(i:Int)<(qs.length:Int):=by omega
   clear gA hbb hR hne hqj
   go_wp2_with (first
    | (refine wpList_load_mid rfl 68 _ rfl g ((i+1)*2) rfl [I q.1,I q.2] _ HRR.out underlying68 rfl size_th ?_)
    | (go_at_call 68;with_reducible refine(KP.out).mono ?_;rintro e w3 ⟨rfl,hg3⟩;have hx3:=(HBX.out.G hg3).cell;have HB3:=hide (HBA.out.G hg3);have HC3:=hide (HCA.out.trans (hg3.chg (F:=fun b=>b=g)));have HTH:=hide (HB3.out.there (i*2) 2 (by rw[List.length_append,qc_len,mvQ_len HKJ.out hin];omega));clear hg3)
    | (refine wpList_store_mid rfl 68 _ _ rfl g (i*2) #[I q.1,I q.2] rfl rfl HTH.out size_th (all_th _ _) ?_)
    | fail)
   have hb4:=Blk.sets [I q.1,I q.2] HB3.out (i*2) (by rw[List.length_append,qc_len,mvQ_len HKJ.out hin];simp only[List.length_cons,List.length_nil];omega)
   rw[show([I q.1,I q.2]:List Value).length=2 from rfl,qc_set (mvQ qs k (i+1)) rest i q (by rw[mvQ_len HKJ.out hin];omega)] at hb4
   have hst:=mvQ_step HKJ.out HQJ.out
   rw[Nat.add_sub_cancel] at hst
   rw[hst] at hb4
   have HB4:=hide hb4
   clear hb4 hst
   have HC4:=hide (HC3.out.trans (chg_sets g [I q.1,I q.2] (i*2) w3))
   have hki2:=Nat.le_of_lt HKJ.out
   refine⟨⟨i+1,hki2,hlt,?_,?_,HB4.out,HC4.out⟩,?_⟩
   ·rw[f4];exact rl1 i
   ·rw[f3];exact rl2 i
   ·rw[f3]
    exact ms_del hlt
  ·have hltI:¬((i:Int)+1<(qs.length:Int)):=by omega
   have hie:qs.length=i+1:=by omega
   have hb1:=HBW.out
   rw[←hie,mvQ_end HKL.out,qc_app] at hb1
   have hd2:(qc (qs.drop (qs.length-1))).length=2:=by rw[qc_len,List.length_drop];omega
   have hcu:(qc (cutQ qs k)).length=i*2:=by rw[qc_len,cutQ_len HKL.out];omega
   have hl:i*2+2≤(qc (cutQ qs k)++qc (qs.drop (qs.length-1))++rest).length:=by rw[List.length_append,List.length_append,hd2,hcu];omega
   have cs:∀o,o<(qc (cutQ qs k)++qc (qs.drop (qs.length-1))++rest).length→(wr.cell? ⟨g,o,none⟩).isSome=true:=fun o ho=>by
    rw[hb1.cell,List.getElem?_eq_getElem ho]
    rfl
   have hclr:∀ty c,(Builtin.clear_ #[91] ty #[.slice (some ⟨g,i*2,none⟩) 1 c]).run prog wr=.ok (.tuple #[]) (wr.setCells g (i*2) [I 0,I 0]):=fun ty c=>run_clear_one wr ty g _ _ (cs _ (by omega)) (cs _ (by omega)) (hb1.frozen _) (hb1.frozen _)
   have hb2:=Blk.sets [I 0,I 0] hb1 (i*2) (by simpa using hl)
   have e3:(qc (cutQ qs k)++qc (qs.drop (qs.length-1))++rest).take (i*2)++[I 0,I 0]++(qc (cutQ qs k)++qc (qs.drop (qs.length-1))++rest).drop (i*2+([I 0,I 0]:List Value).length)=qc (cutQ qs k)++(I 0::I 0::rest):=by
    rw[List.append_assoc (qc (cutQ qs k)),←hcu,List.take_append_of_le_length (Nat.le_refl _),List.take_length,List.drop_append,List.drop_of_length_le (by omega),List.drop_append,List.drop_of_length_le (by rw[hd2];simp)]
    simp[hd2]
   rw[e3] at hb2
   have hQ:QSl (wr.setCells g (i*2) [I 0,I 0]) (.slice (some ⟨g,0,none⟩) i cap) (cutQ qs k):=.inr ⟨g,cap,I 0::I 0::rest,by rw[cutQ_len HKL.out,hie];rfl,hb2,by rw[cutQ_len HKL.out];have:=HCP.out;simp only[List.length_cons];omega,HMX.out⟩
   have HQ:=hide hQ
   have HCC:=hide (HCW.out.trans (chg_sets g [I 0,I 0] (i*2) wr))
   have HCLR:=hide hclr
   have f1:¬(cap=i):=by have:=HCL.out;omega
   have f2:qs.length-i=1:=by omega
   have f3:(i:Int)≤(qs.length:Int):=by omega
   have f4:¬((cap:Int)<(i:Int)):=by have:=HCL.out;omega
   clear hb1 hd2 hcu hl cs hclr hb2 e3 hQ hie
   go_wp2_with fail
   rw[HCLR.out]
   go_wp2
   go_ret
   exact⟨_,rfl,HQ.out,HCC.out.mono (fun b hb=>by rw[hb];rfl),rfl⟩
end
section
open Go.RowKit
theorem qsl_form{w:World}{v:Value}{qs:List (Int×Int)}(h:QSl w v qs):∃a n c,v=.slice a n c:=by
 rcases h with ⟨rfl,-⟩|⟨g,cap,rest,rfl,-⟩
 iterate 2
  ·exact⟨_,_,_,rfl⟩
theorem leave_req(t:Nat)(s:Gs)(x:Int)(r:Rs)(q:Pl)(w:World)(h:TT w t s)(hx:R64 x)(hq:s.pl r=some q)(k:Nat)(hk:k<q.qs.length)(hat:∀o,q.qs[k]?=some o→o.1=x)(hno:∀j o,j≠k→q.qs[j]?=some o→o.1≠x)(hlen:q.qs.length≤17592186044416) :
  Calls prog 34 #[ptr q.blk,I x] w fun e w'=>e=.returned (.tuple #[])∧∃v',TT w' t (s.setPl r {q.hold x 0 with q:=v',qs:=cutQ q.qs k})∧Ext w w' s (s.setPl r {q.hold x 0 with q:=v',qs:=cutQ q.qs k}):=by
 have HS:Hid ((fun W=>TT W t s∧Blk W w.heap.size 3 [I x]∧G w W) ((w.alloc (.cells #[I x] 3)).drew)):=by
  have g:=(G.refl w).alloc (.cells #[I x] 3)
  exact⟨h.G g.drew,(Blk.new w [I x] 3).drew,g.drew⟩
 have HT:=hide h;have HX:=hide hx;have HQ:=hide hq;have HNO:=hide hno;have HLEN:=hide hlen;have HKK:=hide hk;have HAT:=hide hat
 clear h hx hq hno hlen hk hat
 go_enter func34,ntmps34
 go_wp2
 generalize w.alloc (.cells #[I x] 3)=W0 at HS⊢
 obtain⟨h1,h2,h3⟩:=HS.out
 have hqn:w.heap.size≠q.hb:=by
  have:=HT.out.lt _ _ (HT.out.pl r q HQ.out).t2
  omega
 refine wp_region_noPanic ?_
 refine wp_region_held_drew (S:=(fun W=>Blk W q.blk 109 [.map (some q.hb),q.q]∧Blk W w.heap.size 3 [I x])) (by kernel_rfl) (⟨(h1.pl r q HQ.out).blk,h2⟩) (fun hHeld=>?_)
 refine wpAnyH_take (i:=0) (v:=?_) rfl (by kernel_rfl) (by kernel_rfl) (by kernel_rfl) (fun _ _ _ h=>h) (Or.inl ⟨by rfl,?_⟩) hHeld ?_
 rotate_left 1
 ·(intro w hSw;obtain⟨h1,h2⟩:=hSw;have hc:=h1.cell;have hx:=h2.cell;go_simp;try with_reducible rfl)
 try simp only[Act.put,zzA,zzB,zzD,zzE,zzF]
 refine wpAnyH_take (i:=1) (v:=?_) rfl (by kernel_rfl) (by kernel_rfl) (by kernel_rfl) (fun _ _ _ h=>h) (Or.inl ⟨by rfl,?_⟩) hHeld ?_
 rotate_left 1
 ·(intro w hSw;obtain⟨h1,h2⟩:=hSw;have hc:=h1.cell;have hx:=h2.cell;go_simp;try with_reducible rfl)
 try simp only[Act.put,zzA,zzB,zzC,zzD,zzE,zzF]
 refine wpAnyH_take (i:=2) (v:=?_) rfl (by kernel_rfl) (by kernel_rfl) (by kernel_rfl) (fun _ _ _ h=>h) (Or.inl ⟨by rfl,?_⟩) hHeld ?_
 rotate_left 1
 ·(intro w hSw;obtain⟨h1,h2⟩:=hSw;have hc:=h1.cell;have hx:=h2.cell;go_simp;try with_reducible rfl)
 try simp only[Act.put,zzA,zzB,zzC,zzD,zzE,zzF]
 refine wpAnyH_take (i:=3) (v:=?_) rfl (by kernel_rfl) (by kernel_rfl) (by kernel_rfl) (fun _ _ _ h=>h) (Or.inl ⟨by rfl,?_⟩) hHeld ?_
 rotate_left 1
 ·(intro w hSw;obtain⟨h1,h2⟩:=hSw;have hc:=h1.cell;have hx:=h2.cell;go_simp;try with_reducible rfl)
 try simp only[Act.put,zzA,zzB,zzC,zzD,zzE,zzF]
 refine wpAnyH_take (i:=4) (v:=?_) rfl (by kernel_rfl) (by kernel_rfl) (by kernel_rfl) (fun _ _ _ h=>h) (Or.inl ⟨by rfl,?_⟩) hHeld ?_
 rotate_left 1
 ·(intro w hSw;obtain⟨h1,h2⟩:=hSw;have hc:=h1.cell;have hx:=h2.cell;go_simp;try with_reducible rfl)
 try simp only[Act.put,zzA,zzB,zzC,zzD,zzE,zzF]
 refine wpAnyH_ready (rs:=[5]) (by kernel_rfl) (by simp) (AllReadyH.cons rfl (fun K hK=>?_) AllReadyH.nil)
 clear hHeld
 refine wp_del _ _ 107 rfl (h1.pl r q HQ.out).hm rfl kyI underlying107 x rfl (kyI_ok.2 HX.out) (fun w5 hm5 hch5 hsz5=>?_)
 refine hK.out _ _ (⟨(h1.pl r q HQ.out).blk.chg hch5 (h1.pl r q HQ.out).ne.1,h2.chg hch5 hqn⟩) (fun hHeld=>?_)
 clear hK K
 try simp only[Act.put,zzA,zzB,zzC]
 refine wpAnyH_done (by kernel_rfl) ?_ _
 refine NoPanic.normal ?_
 clear hqn
 have ho:=h1.pl r q HQ.out
 have hqlt:=HT.out.lt _ _ (HT.out.pl r q HQ.out).t2
 obtain⟨T5,E5⟩:=h1.setPl (q':=q.hold x 0) HQ.out rfl (hch5.mono (fun b e=>by rw[e];exact .inr (.inl ho.t2))) ⟨ho.blk.chg hch5 ho.ne.1,hm5.congr (nz_upd0 q.hf x),ho.q.keep (fun b e=>hch5.block b (h1.lt _ _ (ho.t3 b e)) (ho.ne.2 b e).2),ho.t1,ho.t2,ho.t3⟩
 have HB5:=hide (h2.chg hch5 (by omega))
 have HT5:=hide T5
 have HE5:=hide ((G.ext s h3).trans E5)
 clear hqlt T5 E5 ho h1 h2 h3 hm5 hch5 hsz5 HS
 have hq5:(s.setPl r (q.hold x 0)).pl r=some (q.hold x 0):=by simp[Gs.setPl]
 have HQ5:=hide hq5
 have ho5:=HT5.out.pl r _ hq5
 have hb5:Blk w5 q.blk 109 [.map (some q.hb),q.q]:=ho5.blk
 have hqq:QSl w5 q.q q.qs:=ho5.q
 have KD:=hide (del_one q.qs q.q k x w.heap.size w5 hqq HB5.out HKK.out HAT.out HNO.out HLEN.out)
 have hc5:=hb5.cell
 have HBB:=hide hb5
 clear hq5 ho5 hb5 hqq
 obtain⟨qa,qn,qcap,hqv⟩:∃a n c,q.q=.slice a n c:=by
  rcases(HT.out.pl r q HQ.out).q with ⟨e,_⟩|⟨g,cap,rest,e,_⟩
  iterate 2
   ·exact⟨_,_,_,e⟩
 rw[hqv] at hc5 KD HBB
 have HQV:=hide hqv
 clear hqv
 have hne5:¬(Value.slice qa qn qcap).ownBlock=some q.blk:=fun e=>((HT5.out.pl r _ HQ5.out).ne.2 _ (by show q.q.ownBlock=_;rw[HQV.out];exact e)).1 rfl
 go_wp2_with (first|(go_at_call 67;refine KD.out.mono ?_;rintro e w6 ⟨v6,rfl,hQ6,hC6,hO6⟩;obtain⟨va,vn,vc,rfl⟩:=qsl_form hQ6;have hb6:=HBB.out.chg hC6 hne5;have hc6:=hb6.cell;have hf6:=hb6.frozen;have HQ6:=hide hQ6;have HC6:=hide hC6;have HO6:=hide hO6;clear hQ6 hC6 hO6)|fail)
 go_end0
 have hC7:Chg (fun k=>(q.hold x 0).q.ownBlock=some k) w5 w6:=by
  show Chg (fun k=>q.q.ownBlock=some k) w5 w6
  rw[HQV.out];exact HC6.out
 obtain⟨T7,E7⟩:=HT5.out.queueS HQ5.out HQ6.out hC7 (by show _=q.q.ownBlock;rw[HQV.out];exact HO6.out)
 rw[Gs.setPl_setPl] at T7 E7
 exact⟨rfl,_,T7,HE5.out.trans E7⟩
end
section
open Go.RowKit
def Gs.delPl(s:Gs)(r:Rs):Gs:={s with pl:=upd s.pl r none}
theorem TT.delPl{w w':World}{t:Nat}{s:Gs}{r:Rs}(h:TT w t s)(hm:Mp Rs.v 33 w' s.pb (upd (fun r=>(s.pl r).map fun p=>ptr p.blk) r none))(hc:Chg (fun k=>k=s.pb) w w'):TT w' t (s.delPl r)∧Ext w w' s (s.delPl r):=by
 have hk:∀b tg,s.own b=some tg→tg≠.ps→w'.heap[b]?=w.heap[b]?:=fun b tg o n=>hc.block b (h.lt b tg o) (fun e=>by
  rw[e,h.o3] at o
  exact n (Option.some.inj o).symm)
 refine⟨⟨h.tb.keep (hk _ _ h.o1 (by simp)),h.lm.keep (hk _ _ h.o2 (by simp)),hm.congr (fun z=>?_),fun z p hz=>?_,fun z p hz=>?_,h.o1,h.o2,h.o3,fun b tg o=>Nat.lt_of_lt_of_le (h.lt b tg o) hc.size⟩,⟨hc.mono (fun b e=>by rw[e,h.o3];simp),fun _ _ o=>o,fun _ _ o=>.inl o⟩⟩
 ·by_cases e:z=r
  ·subst e;simp[Gs.delPl,upd_same]
  ·simp[Gs.delPl,upd_other e]
 ·exact(h.pt z p hz).keep (fun b o=>by rcases o with o|o|o<;>exact hk _ _ o (by simp))
 ·by_cases e:z=r
  ·subst e;simp[Gs.delPl,upd_same] at hz
  ·replace hz:upd s.pl r none z=some p:=hz
   rw[upd_other e] at hz
   exact(h.pl z p hz).keep (fun b o=>by rcases o with o|o|o<;>exact hk _ _ o (by simp))
noncomputable def endPl(s:Gs)(r:Rs)(q:Pl):Gs:=@ite _ (∃z,q.hf z≠0) (Classical.propDecidable _) s (s.delPl r)
theorem endPl_yes{s:Gs}{r:Rs}{q:Pl}(h:∃z,q.hf z≠0):endPl s r q=s:=by unfold endPl;exact @if_pos _ (Classical.propDecidable _) h _ _ _
theorem endPl_no{s:Gs}{r:Rs}{q:Pl}(h:¬∃z,q.hf z≠0):endPl s r q=s.delPl r:=by unfold endPl;exact @if_neg _ (Classical.propDecidable _) h _ _ _
def SrvG(Inv:Gs→Nat→List Int→Prop)(s:Gs)(r:Rs)(B:Nat)(L:List Int)(LR:List Rs):Prop:=∀s' a out,Inv s' a out→s'.own=s.own∧out.length<4099999999999∧∃q,s'.pl r=some q∧q.blk=B∧(∀z,q.hf z≠0→z∈L∧R64 z)∧q.qs.length<4100000000000∧a≤q.qs.length∧
 ∀y g,q.qs[a]?=some (y,g)→R64 y∧g≠0∧∃p,s'.lv y=some p∧(∀z,p.hf z≠0→z∈LR)∧(blkB q y g a=true→Inv s' (a+1) out)∧(blkB q y g a=false→∀v',Inv (((s'.setPl r {q with q:=v',qs:=cutQ q.qs a}).setPl r (({q with q:=v',qs:=cutQ q.qs a}:Pl).hold y g)).setPt y (p.hold r g).rest) a (out++[y]))
theorem serve_gen(t:Nat)(s:Gs)(r:Rs)(q0:Pl)(w:World)(Inv:Gs→Nat→List Int→Prop)(L:List Int)(LR:List Rs)(h:TT w t s)(ht:Tb w)(hgl:s.own 1=none∧s.own 0=none)(hr:r.ok)(hq0:s.pl r=some q0)(h0:Inv s 0 [])(hI:SrvG Inv s r q0.blk L LR)(hl:L.length<maxLen)(hlr:LR.length<maxLen) :
  Calls prog 35 #[ptr t,r.v] w fun e w'=>∃u s' a out q,e=.returned u∧Inv s' a out∧s'.pl r=some q∧a=q.qs.length∧w'.ownsRow w.heap.size 3 1 u out.length (out.map fun z=>I z)∧TT w' t (endPl s' r q)∧Ext w w' s (endPl s' r q):=by
 have g1:=(G.refl w).alloc (.cells #[I r.lv,.string r.lb,I r.id] 33)
 have hb:=Blk.new w [I r.lv,.string r.lb,I r.id] 33
 have hbc:=hb.cell
 have hc:=(h.tb.G g1).cell
 have hlk:=(h.pm.G g1).lookN kyR underlying79 zeroValue84 (kyR_ok.2 hr)
 rw[hq0] at hlk
 simp only[Option.map_some,Option.getD_some] at hlk
 have HT:=hide h;have HTB:=hide ht;have HGL:=hide hgl;have HRO:=hide hr;have HQ0:=hide hq0;have H0:=hide h0;have HI:=hide hI;have HL:=hide hl;have HLR:=hide hlr;have HG1:=hide g1;have HB:=hide hb
 clear h ht hgl hr hq0 h0 hI hl hlr g1 hb
 simp only[Rs.v] at hlk⊢
 go_enter func35,ntmps35
 go_wp2
 go_quiet (fail)
 have HSZ:Hid (((w.alloc (.cells #[I r.lv,.string r.lb,I r.id] 33)).drewN nq).heap.size=w.heap.size+1):=by
  show((w.alloc (.cells #[I r.lv,.string r.lb,I r.id] 33)).drewN nq).heap.size=_
  rw[drewN_heap,World.size_alloc]
 have HGQ:=hide (HG1.out.drewN nq)
 have HBQ:=hide (HB.out.drewN nq)
 clear hlk hc hbc HG1 HB
 go_wp2
 generalize (w.alloc (.cells #[I r.lv,.string r.lb,I r.id] 33)).drewN nq=W1 at HGQ HSZ HBQ⊢
 go_loopw [6,7] (fun u i wr=>∃(a:Nat) (s':Gs) (out:List Int),i=I a∧Inv s' a out∧wr.ownsRow w.heap.size 3 1 u out.length (out.map fun z=>I z)∧TT wr t s'∧Ext w wr s s'∧Blk wr w.heap.size 33 [I r.lv,.string r.lb,I r.id]∧Tb wr∧w.heap.size<wr.heap.size) (fun _ i wr=>qLen wr q0.blk-(RowKit.intOf i).toNat)
 case atStart=>
  exact⟨0,s,[],rfl,H0.out,⟨rfl,.inl ⟨rfl,rfl⟩⟩,HT.out.G HGQ.out,HGQ.out.ext s,HBQ.out,HTB.out.G HGQ.out,by rw[HSZ.out];omega⟩
 case round=>
  obtain⟨a,s',out,rfl,hinv,hown,hT,hE,hB,hTb,hsz⟩:=hrel
  obtain⟨hso,hol,q,hq,hqb,hLz,hqn,haq,hstep⟩:=HI.out s' a out hinv
  have hq0b:∃B,B=q0.blk:=⟨_,rfl⟩
  obtain⟨B,hB0⟩:=hq0b
  rw[←hB0] at hqb HI⊢
  clear hB0
  subst hqb
  have hpl:=hT.pl r q hq
  have hcq:=hpl.blk.cell
  by_cases hlt:a<q.qs.length
  ·obtain⟨⟨y,g⟩,hya⟩:∃z,q.qs[a]?=some z:=⟨_,List.getElem?_eq_getElem hlt⟩
   obtain⟨hy64,hg0,p,hp,hLRp,hyes,hno⟩:=hstep y g hya
   rcases id hpl.q with ⟨e,e2⟩|⟨gb,cap,rest,e,hgb,hcap,hmx⟩
   ·rw[e2] at hlt;simp at hlt
   have hqc:=qc_at q.qs rest a y g hya
   have hc1:=hgb.cell (a*2)
   have hc2:=hgb.cell (a*2+1)
   rw[hqc.1] at hc1
   rw[hqc.2] at hc2
   rw[e] at hcq
   have haI:(a:Int)<(q.qs.length:Int):=by omega
   have hbn:=Blk.new wr [I y,I g] 68
   have hbc:=hbn.cell
   have HINV:=hide hinv;have HOWN:=hide hown;have HTT:=hide hT;have HE:=hide hE;have HBB:=hide hB;have HTBW:=hide hTb;have HSW:=hide hsz;have HSO:=hide hso;have HOL:=hide hol;have HQ:=hide hq;have HLZ:=hide hLz;have HQN:=hide hqn;have HY64:=hide hy64;have HG0:=hide hg0;have HP:=hide hp;have HLRP:=hide hLRp;have HYES:=hide hyes;have HNO:=hide hno;have HPL:=hide hpl;have HEQ:=hide e;have HYA:=hide hya;have HBN:=hide hbn
   clear hinv hown hT hE hB hTb hsz hso hol hq hLz hqn hy64 hg0 hp hLRp hyes hno hpl e hya hbn hqc hgb hcap hmx hstep haq hlt
   have gN:G wr (wr.alloc (.cells #[I y,I g] 68)):=(G.refl _).alloc _
   have hTN:=HTT.out.G gN
   have hplN:=hTN.pl r q HQ.out
   have hmx:(4100000000000:Nat)≤maxLen:=of_decide_eq_true (by kernel_rfl)
   have KB:=hide (blocks_any q y g a L (wr.alloc (.cells #[I y,I g] 68)) (by omega) (fun z hz=>(HLZ.out z hz).1) (fun z hz=>(HLZ.out z hz).2) (by have:=HQN.out;omega) (HTBW.out.G gN) hplN.blk hplN.hm hplN.q)
   have HGN:=hide gN
   have HQL:=hide (qLen_of (hcq 1))
   have hwr:wrap64 ((a:Int)+1)=(a:Int)+1:=by
    have:=HQN.out
    unfold wrap64
    omega
   have HWR:=hide hwr
   clear gN hTN hplN hmx hwr
   cases hbk:blkB q y g a with
   | true=>
    rw[hbk] at KB
    have HBK:=hide (HYES.out hbk)
    clear hbk
    go_wp2_with (first|(go_at_call 57;with_reducible refine(KB.out).mono ?_;rintro e w4 ⟨rfl,hg4⟩)|fail)
    have gg:=HGN.out.trans hg4
    go_roundw
    case rel=>
     exact⟨a+1,s',out,by rw[HWR.out];rfl,HBK.out,own_G HOWN.out gg,HTT.out.G gg,HE.out.G gg,HBB.out.G gg,HTBW.out.G gg,by have:=gg.size;have:=HSW.out;omega⟩
    case measure=>
     have h4:=(HPL.out.blk.G gg).cell
     rw[HEQ.out] at h4
     rw[HWR.out,qLen_of (h4 1),HQL.out]
     simp[RowKit.intOf]
     omega
   | false=>
    rw[hbk] at KB
    have HBK:=hide (HNO.out hbk)
    clear hbk
    have KB2:=hide (KB.out.mono (fun e w4 h4=>show e=.returned (.bool false)∧Hid (G wr w4)∧Hid (G (wr.alloc (.cells #[I y,I g] 68)) w4)∧(∀o,w4.cell? ⟨q.blk,o,none⟩=([.map (some q.hb),.slice (some ⟨gb,0,none⟩) q.qs.length cap]:List Value)[o]?)from by
     obtain⟨rfl,hg4⟩:=h4
     have gg:=HGN.out.trans hg4
     have h4:=(HPL.out.blk.G gg).cell
     rw[HEQ.out] at h4
     exact⟨rfl,gg,hg4,h4⟩))
    have KD:Hid (∀w4,G wr w4→Calls prog 69 #[.slice (some ⟨gb,0,none⟩) q.qs.length cap,I a,I (wrap64 ((a:Int)+1))] w4 fun e w5=>∃n5 cap5,e=.returned (.slice (some ⟨gb,0,none⟩) n5 cap5)∧(∀o,w5.cell? ⟨q.blk,o,none⟩=([.map (some q.hb),.slice (some ⟨gb,0,none⟩) q.qs.length cap]:List Value)[o]?)∧(∀o,w5.frozen? ⟨q.blk,o,none⟩=false)∧
      Hid (TT (w5.setCell ⟨q.blk,1,none⟩ (.slice (some ⟨gb,0,none⟩) n5 cap5)) t (s'.setPl r {q with q:=.slice (some ⟨gb,0,none⟩) n5 cap5,qs:=cutQ q.qs a}))∧Hid (Ext w4 (w5.setCell ⟨q.blk,1,none⟩ (.slice (some ⟨gb,0,none⟩) n5 cap5)) s' (s'.setPl r {q with q:=.slice (some ⟨gb,0,none⟩) n5 cap5,qs:=cutQ q.qs a}))):=fun w4 gg=>by
     have:=del_step (a:=a) (HTT.out.G gg) HQ.out HEQ.out (by omega) HQN.out HWR.out
     exact this
    have KG:Hid (∀w6 v5,TT w6 t (s'.setPl r {q with q:=v5,qs:=cutQ q.qs a})→Calls prog 58 #[ptr t,.agg #[I r.lv,.string r.lb,I r.id],.agg #[I y,I g]] w6 fun e w7=>e=.returned (.tuple #[])∧Hid (TT w7 t (((s'.setPl r {q with q:=v5,qs:=cutQ q.qs a}).setPl r (({q with q:=v5,qs:=cutQ q.qs a}:Pl).hold y g)).setPt y (p.hold r g).rest))∧Hid (Ext w6 w7 (s'.setPl r {q with q:=v5,qs:=cutQ q.qs a}) (((s'.setPl r {q with q:=v5,qs:=cutQ q.qs a}).setPl r (({q with q:=v5,qs:=cutQ q.qs a}:Pl).hold y g)).setPt y (p.hold r g).rest))):=fun w6 v5 hT6=>
     grant_any t _ y g r p {q with q:=v5,qs:=cutQ q.qs a} w6 hT6 HY64.out HRO.out HG0.out HP.out (by simp[Gs.setPl]) L (fun z hz=>(HLZ.out z hz).1) HL.out LR HLRP.out HLR.out
    have HFR:Hid (∀b,w.heap.size≤b→¬s'.own b≠none):=fun b hb hn=>by
     rw[HSO.out] at hn
     cases e:s.own b with
     | none=>exact hn e
     | some tg=>have:=HT.out.lt b tg e;omega
    clear KB
    go_wp2_with (first
     | (go_at_call 57;with_reducible refine(KB2.out).mono ?_;rintro e w4 ⟨rfl,HGG,HG84,h4⟩;clear hcq hbc hc1 hc2)
     | (go_at_call 69;with_reducible refine(KD.out _ HGG.out).mono ?_;rintro e w5 ⟨n5,cap5,rfl,h5,hf5,HT6,HE6⟩;have c36:=((HBB.out.G HGG.out).chg HE6.out.chg (HFR.out _ (Nat.le_refl _))).cell;have c86:=((HBN.out.G HG84.out).chg HE6.out.chg (HFR.out _ (Nat.le_of_lt HSW.out))).cell)
     | (
       go_at_call 58
       with_reducible refine(KG.out _ _ HT6.out).mono ?_
       rintro e w7 ⟨rfl,HT7,HE7⟩
       have c87:=(((HBN.out.G HG84.out).chg HE6.out.chg (HFR.out _ (Nat.le_of_lt HSW.out))).chg HE7.out.chg (HFR.out _ (Nat.le_of_lt HSW.out))).cell
       have hfu:∀b,u6.ownBlock=some b→s'.own b=none:=fun b hb=>by
        have h1:=(World.ownsRow.lt HOWN.out b hb).1
        cases e:s'.own b with
        | none=>rfl
        | some tg=>exact absurd (by rw[e];simp) (HFR.out b h1)
       have z1:=HGG.out.size
       have z2:=HE6.out.chg.size
       have z3:=HE7.out.chg.size
       have z0:=HSW.out
       obtain⟨v9,w9,r1,r2,r3⟩:=app_one w7 w.heap.size u6 out y (own_ext (own_ext (own_G HOWN.out HGG.out) HE6.out hfu) HE7.out hfu) HOL.out (by omega)
       have HFU:=hide hfu;have HR1:=hide r1;have HR2:=hide r2;have HR3:=hide r3
       have HZ:Hid (wr.heap.size≤w7.heap.size):=Nat.le_trans z1 (Nat.le_trans z2 z3)
       clear c36 c86 h5 hf5 h4 hfu r1 r2 r3 z0 z1 z2 z3)
     | (at_builtin;refine wpList_append_run rfl _ _ 42 rfl _ _ rfl rfl HR1.out ?_)
     | fail)
    have gA:G w7 (w7.alloc (.cells #[I y] 3)):=(G.refl w7).alloc _
    have hcg:Chg (fun k=>u6.ownBlock=some k) (w7.alloc (.cells #[I y] 3)) w9:=⟨HR3.out.os,HR3.out.tape,HR3.out.output,HR3.out.size,fun k hk hn=>HR3.out.block k hk (fun e=>hn e.symm)⟩
    have hT9:=(HT7.out.G gA).chg hcg HFU.out
    have hE7:Ext w w7 s _:=((HE.out.G HGG.out).trans HE6.out).trans HE7.out
    have hlo:∀b,u6.ownBlock=some b→w.heap.size≤b:=fun b hb=>(World.ownsRow.lt HOWN.out b hb).1
    have hE8:=hE7.G gA
    have hE9:Ext w w9 s _:=⟨⟨hcg.os.trans hE8.chg.os,hcg.tape.trans hE8.chg.tape,hcg.output.trans hE8.chg.output,Nat.le_trans hE8.chg.size hcg.size,fun b hb hn=>(hcg.block b (Nat.lt_of_lt_of_le hb hE8.chg.size) (fun e=>by have:=hlo b e;omega)).trans (hE8.chg.block b hb hn)⟩,hE8.old,hE8.new⟩
    have hne:¬u6.ownBlock=some w.heap.size:=fun e=>by
     rcases HOWN.out.2 with ⟨e2,-⟩|⟨g2,cap2,cur2,e2,-,hgc,-⟩
     ·rw[e2] at e;simp[Value.ownBlock] at e
     ·rw[e2] at e
      have e3:g2=w.heap.size:=by simpa [Value.ownBlock] using e
      rw[e3,HBB.out.h] at hgc
      cases hgc
    have hB9:=(((((HBB.out.G HGG.out).chg HE6.out.chg (HFR.out _ (Nat.le_refl _))).chg HE7.out.chg (HFR.out _ (Nat.le_refl _))).G gA).chg hcg hne)
    have hz9:w.heap.size<w9.heap.size:=by
     have h1:=HZ.out
     have h2:=gA.size
     have h3:=hcg.size
     have h4:=HSW.out
     omega
    have hpl9:=hT9.pl r (({q with q:=.slice (some ⟨gb,0,none⟩) n5 cap5,qs:=cutQ q.qs a}:Pl).hold y g) (by simp[Gs.setPl,Gs.setPt])
    have hq9:qLen w9 q.blk=q.qs.length-1:=by
     have h1:=hpl9.blk.cell 1
     have h2:=QSl.len hpl9.q
     have h3:a<q.qs.length:=by omega
     have h4:n5=(cutQ q.qs a).length:=h2
     rw[cutQ_len h3] at h4
     rw[←h4]
     exact qLen_of h1
    go_roundw
    case rel=>
     exact⟨a,_,out++[y],rfl,HBK.out _,HR2.out,hT9,hE9,hB9,HTB.out.ext hE9 HGL.out,hz9⟩
    case measure=>
     rw[hq9,HQL.out]
     simp[RowKit.intOf]
     omega
  ·by_cases hz0:∃z,q.hf z≠0
   ·obtain⟨z,hz⟩:=hz0
    have hep:endPl s' r q=s':=endPl_yes ⟨z,hz⟩
    obtain⟨n,hlen,hn⟩:=hpl.hm.len kyI underlying107 3
    have hn0:0<n:=Nat.pos_of_ne_zero (fun e=>by
     have:=hn.1 e z (kyI_ok.2 (hLz z hz).2)
     simp[nz,hz] at this)
    obtain⟨qa,qcap,hqv⟩:∃a c,q.q=.slice a q.qs.length c:=by
     rcases hpl.q with ⟨e,e2⟩|⟨g,cap,rest,e,-⟩
     ·rw[e2];exact⟨_,_,e⟩
     ·exact⟨_,_,e⟩
    rw[hqv] at hcq
    have haI:¬(a:Int)<(q.qs.length:Int):=by omega
    have HFIN:Hid (∃s' a out q,Inv s' a out∧s'.pl r=some q∧a=q.qs.length∧wr.ownsRow w.heap.size 3 1 u6 out.length (out.map fun z=>I z)∧TT wr t (endPl s' r q)∧Ext w wr s (endPl s' r q)):=⟨s',a,out,q,hinv,hq,by omega,hown,by rw[hep];exact hT,by rw[hep];exact hE⟩
    clear hz hn hqv hinv hq hown hT hE hB hTb hsz hso hol hLz hqn haq hstep hpl hlt hep
    go_wp2
    go_ret
    obtain⟨s'',a',out',q',f1,f2,f3,f4,f5,f6⟩:=HFIN.out
    refine⟨u6,rfl,?_⟩
    first
     | exact⟨s'',a',out',q',f1,f2,f3,f4,f5,f6⟩
     | exact⟨s'',a',out',f1,q',f2,f3,f4,f5,f6⟩
     | fail
   ·have hall:∀z,q.hf z=0:=fun z=>Decidable.byContradiction fun h=>hz0 ⟨z,h⟩
    have hep:endPl s' r q=s'.delPl r:=endPl_no hz0
    obtain⟨n,hlen,hn⟩:=hpl.hm.len kyI underlying107 3
    have hn0:n=0:=hn.2 (fun z _=>by simp[nz,hall z])
    subst hn0
    obtain⟨qa,qcap,hqv⟩:∃a c,q.q=.slice a q.qs.length c:=by
     rcases hpl.q with ⟨e,e2⟩|⟨g,cap,rest,e,-⟩
     ·rw[e2];exact⟨_,_,e⟩
     ·exact⟨_,_,e⟩
    rw[hqv] at hcq
    have haI:¬(a:Int)<(q.qs.length:Int):=by omega
    have HTD:=hide (hT.G (G.refl wr).drew)
    have HBD:=hide (hB.drew)
    have HNT:Hid (t≠s'.pb):=hT.ne hT.o1 hT.o3 (by simp)
    have HNB:Hid (w.heap.size≠s'.pb):=fun e=>by
     have h1:s.own s'.pb=some .ps:=by rw[←hso];exact hT.o3
     have h2:=HT.out.lt _ _ h1
     omega
    have HAQ:Hid (a=q.qs.length):=by show a=_;omega
    have HINV:=hide hinv;have HQ:=hide hq;have HOWN:=hide hown;have HE:=hide hE;have HEP:=hide hep
    have HFU:Hid (∀b,u6.ownBlock=some b→b≠s'.pb):=fun b hb e=>by
     have h1:s.own s'.pb=some .ps:=by rw[←hso];exact hT.o3
     have h2:=HT.out.lt _ _ h1
     have h3:=(World.ownsRow.lt hown b hb).1
     omega
    clear hn hqv hinv hq hown hT hE hB hTb hsz hso hol hLz hqn haq hstep hpl hlt hz0 hall hep
    go_wp2
    refine wp_region_noPanic ?_
    refine wp_region_held_drew (S:=(fun W=>Blk W t 81 [.map (some s'.lb),.map (some s'.pb)]∧Blk W w.heap.size 33 [I r.lv,.string r.lb,I r.id])) (by kernel_rfl) (⟨HTD.out.tb,HBD.out⟩) (fun hHeld=>?_)
    refine wpAnyH_take (i:=0) (v:=?_) rfl (by kernel_rfl) (by kernel_rfl) (by kernel_rfl) (fun _ _ _ h=>h) (Or.inl ⟨by rfl,?_⟩) hHeld ?_
    rotate_left 1
    ·(intro w hSw;obtain⟨h1,h2⟩:=hSw;have hc:=h1.cell;have hx:=h2.cell;go_simp;try with_reducible rfl)
    try simp only[Act.put,zzA,zzB,zzD,zzE,zzF]
    refine wpAnyH_take (i:=1) (v:=?_) rfl (by kernel_rfl) (by kernel_rfl) (by kernel_rfl) (fun _ _ _ h=>h) (Or.inl ⟨by rfl,?_⟩) hHeld ?_
    rotate_left 1
    ·(intro w hSw;obtain⟨h1,h2⟩:=hSw;have hc:=h1.cell;have hx:=h2.cell;go_simp;try with_reducible rfl)
    try simp only[Act.put,zzA,zzB,zzC,zzD,zzE,zzF]
    refine wpAnyH_take (i:=2) (v:=?_) rfl (by kernel_rfl) (by kernel_rfl) (by kernel_rfl) (fun _ _ _ h=>h) (Or.inl ⟨by rfl,?_⟩) hHeld ?_
    rotate_left 1
    ·(intro w hSw;obtain⟨h1,h2⟩:=hSw;have hc:=h1.cell;have hx:=h2.cell;go_simp;try with_reducible rfl)
    try simp only[Act.put,zzA,zzB,zzC,zzD,zzE,zzF]
    refine wpAnyH_take (i:=3) (v:=?_) rfl (by kernel_rfl) (by kernel_rfl) (by kernel_rfl) (fun _ _ _ h=>h) (Or.inl ⟨by rfl,?_⟩) hHeld ?_
    rotate_left 1
    ·(intro w hSw;obtain⟨h1,h2⟩:=hSw;have hc:=h1.cell;have hx:=h2.cell;go_simp;try with_reducible rfl)
    try simp only[Act.put,zzA,zzB,zzC,zzD,zzE,zzF]
    refine wpAnyH_take (i:=4) (v:=?_) rfl (by kernel_rfl) (by kernel_rfl) (by kernel_rfl) (fun _ _ _ h=>h) (Or.inl ⟨by rfl,?_⟩) hHeld ?_
    rotate_left 1
    ·(intro w hSw;obtain⟨h1,h2⟩:=hSw;have hc:=h1.cell;have hx:=h2.cell;go_simp;try with_reducible rfl)
    try simp only[Act.put,zzA,zzB,zzC,zzD,zzE,zzF]
    refine wpAnyH_ready (rs:=[5]) (by kernel_rfl) (by simp) (AllReadyH.cons rfl (fun K hK=>?_) AllReadyH.nil)
    clear hHeld
    refine wp_del _ _ 79 rfl HTD.out.pm rfl kyR underlying79 r rfl (kyR_ok.2 HRO.out) (fun w5 hm5 hch5 hsz5=>?_)
    refine hK.out _ _ (⟨HTD.out.tb.chg hch5 HNT.out,HBD.out.chg hch5 HNB.out⟩) (fun hHeld=>?_)
    clear hK K
    try simp only[Act.put,zzA,zzB,zzC]
    refine wpAnyH_done (by kernel_rfl) ?_ _
    refine NoPanic.normal ?_
    go_wp2
    go_ret
    obtain⟨T5,E5⟩:=HTD.out.delPl hm5 hch5
    refine⟨u6,s',a,out,q,rfl,HINV.out,HQ.out,HAQ.out,own_chg (own_G HOWN.out (G.refl wr).drew) hch5 HFU.out,by rw[HEP.out];exact T5,by rw[HEP.out];exact(HE.out.G (G.refl wr).drew).trans E5⟩
end
end Go.Proofs.YtadfaiciolfgjaaGreatDoor
