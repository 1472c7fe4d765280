import Derived.RangeFuncNested
import Derived.RangeFuncBound
import Derived.RangeFuncCalls
import Derived.RangeFuncLeaves
import Derived.Shelf.Abstract
import Derived.Shelf.AbstractIn
import Derived.Shelf.RegionOpen
import Derived.OwnWalkIn
import Derived.TacticsInMore
import Derived.LoopNIn
import Derived.LoopIn
import Derived.Maps.OwnIn
import Derived.Test.YtadfaiciolfgjaaGreatDoorLk8
namespace Go.Proofs.YtadfaiciolfgjaaGreatDoor
open Go.Proofs.Tryz
set_option maxHeartbeats 1000000
set_option maxRecDepth 100000
section
open Go.RowKit Go.Shelf
attribute [local go_sem] Oper.semAt_some
def inW1(hf:Int→Int)(qt qm x:Int):Prop:=hf x≠0∧x≠qt∧fitB (hf x) qm=false
def inW2(qs:List (Int×Int))(qm:Int)(ah:Nat)(x:Int):Prop:=∃i g,i<ah∧qs[i]?=some (x,g)∧fitB g qm=false
def inW(hf:Int→Int)(qs:List (Int×Int))(qt qm:Int)(ah:Nat)(x:Int):Prop:=inW1 hf qt qm x∨inW2 qs qm ah x
structure Way(W:World)(b1 b2 b3:Nat)(p:Pl)(qt qm:Int)(ah:Nat):Prop where
 tb:Tb W
 k1:Blk W b1 84 [ptr p.blk]
 k2:Blk W b2 68 [I qt,I qm]
 k3:Blk W b3 3 [I ah]
 blk:Blk W p.blk 109 [.map (some p.hb),p.q]
 hm:Mp (fun n:Int=>I n) 3 W p.hb (fun x=>nz (p.hf x))
 q:QSl W p.q p.qs
def wayB(b1 b2 b3:Nat)(p:Pl)(b:Nat):Prop:=b=1∨b=0∨b=b1∨b=b2∨b=b3∨b=p.blk∨b=p.hb∨p.q.ownBlock=some b
theorem Tb.keep{W W':World}(h:Tb W)(h1:W'.heap[1]?=W.heap[1]?)(h2:W'.heap[0]?=W.heap[0]?)(hs:W.heap.size≤W'.heap.size):Tb W':=
 ⟨Nat.lt_of_lt_of_le h.lf hs,Nat.lt_of_lt_of_le h.lj hs,fun i hi=>by rw[←h.f i hi];exact World.cell?_of_block h1,fun i hi=>by rw[←h.j i hi];exact World.cell?_of_block h2⟩
theorem Way.keep{W W':World}{b1 b2 b3 ah:Nat}{p:Pl}{qt qm:Int}(h:Way W b1 b2 b3 p qt qm ah)(hk:∀b,wayB b1 b2 b3 p b→W'.heap[b]?=W.heap[b]?)(hs:W.heap.size≤W'.heap.size):Way W' b1 b2 b3 p qt qm ah:=
 ⟨h.tb.keep (hk _ (by simp[wayB])) (hk _ (by simp[wayB])) hs,h.k1.keep (hk _ (by simp[wayB])),h.k2.keep (hk _ (by simp[wayB])),h.k3.keep (hk _ (by simp[wayB])),h.blk.keep (hk _ (by simp[wayB])),h.hm.keep (hk _ (by simp[wayB])),h.q.keep (fun b e=>hk b (by simp[wayB,e]))⟩
theorem Way.lt{W:World}{b1 b2 b3 ah:Nat}{p:Pl}{qt qm:Int}(h:Way W b1 b2 b3 p qt qm ah){b:Nat}(hb:wayB b1 b2 b3 p b):b<W.heap.size:=by
 rcases hb with rfl|rfl|rfl|rfl|rfl|rfl|rfl|e
 ·exact h.tb.lf
 ·exact h.tb.lj
 ·exact h.k1.lt
 ·exact h.k2.lt
 ·exact h.k3.lt
 ·exact h.blk.lt
 ·exact h.hm.lt
 ·rcases h.q with ⟨e',_⟩|⟨g,cap,rest,e',hg,_⟩
  ·rw[e'] at e;simp[Value.ownBlock] at e
  ·rw[e'] at e;simp[Value.ownBlock] at e;subst e;exact hg.lt
theorem Way.G{W W':World}{b1 b2 b3 ah:Nat}{p:Pl}{qt qm:Int}(h:Way W b1 b2 b3 p qt qm ah)(g:Go.Proofs.YtadfaiciolfgjaaGreatDoor.G W W'):Way W' b1 b2 b3 p qt qm ah:=h.keep (fun b hb=>g.block b (h.lt hb)) g.size
def WayK(B:Nat→Prop)(W W':World):Prop:=W.heap.size≤W'.heap.size∧∀b,(B b∨∃m s se c,W.heap[b]?=some (.mapIter m s se c))→W'.heap[b]?=W.heap[b]?
theorem WayK.trans{B:Nat→Prop}{a b c:World}(h:WayK B a b)(k:WayK B b c):WayK B a c:=
 ⟨Nat.le_trans h.1 k.1,fun i hi=>by
  have e:=h.2 i hi
  rw[←e]
  refine k.2 i ?_
  rcases hi with hi|⟨m,s,se,cc,hi⟩
  ·exact .inl hi
  ·exact .inr ⟨m,s,se,cc,e.trans hi⟩⟩
theorem WayK.put{B:Nat→Prop}{w:World}(hB:∀b,B b→b<w.heap.size)(W:World)(l:Nat)(o o':Obj)(hl:w.heap.size≤l)(h:W.heap[l]?=some o)(_:o.isCells=false)(hw:o.isWalk=false):WayK B W (W.putObj l o'):=by
 have g:=grownBy_putObj' W l o'
 refine⟨g.size,fun b hb=>?_⟩
 by_cases e:b=l
 ·subst e
  rcases hb with hb|⟨m,s,se,c,hb⟩
  ·have:=hB b hb;omega
  ·rw[h] at hb;cases hb;simp[Obj.isWalk] at hw
 ·by_cases hlt:b<W.heap.size
  ·exact g.block b hlt (fun e'=>e (by cases e';rfl))
  ·have:(W.putObj l o').heap.size=W.heap.size:=by simp
   exact(Array.getElem?_eq_none (by omega)).trans (Array.getElem?_eq_none (by omega)).symm
theorem qc_get:∀(qs:List (Int×Int)) (i:Nat) (q:Int×Int),qs[i]?=some q→(qc qs)[i*2]?=some (I q.1)∧(qc qs)[i*2+1]?=some (I q.2)
 | [],i,q,h=>by simp at h
 | a::qs,0,q,h=>by simp at h;subst h;simp[qc]
 | a::qs,i+1,q,h=>by
  have:=qc_get qs i q (by simpa using h)
  have e:(qc (a::qs))=I a.1::I a.2::qc qs:=by simp[qc]
  rw[e,show(i+1)*2=i*2+1+1 by omega]
  simpa using this
theorem qc_len(qs:List (Int×Int)):(qc qs).length=qs.length*2:=by
 induction qs with
 | nil=>rfl
 | cons a qs ih=>simp[qc] at ih ⊢;omega
theorem QSl.at{w:World}{g n cap:Nat}{qs:List (Int×Int)}(h:QSl w (.slice (some ⟨g,0,none⟩) n cap) qs){i:Nat}{q:Int×Int}(hi:qs[i]?=some q):w.cell? ⟨g,i*2,none⟩=some (I q.1)∧w.cell? ⟨g,i*2+1,none⟩=some (I q.2):=by
 rcases h with ⟨e,_⟩|⟨g',cap',rest,e,hb,_⟩
 ·cases e
 ·cases e
  have hl:=(List.getElem?_eq_some_iff.1 hi).1
  have:=qc_get qs i q hi
  rw[hb.cell,hb.cell,List.getElem?_append_left (by rw[qc_len];omega),List.getElem?_append_left (by rw[qc_len];omega)]
  exact this
theorem abide{β:Type}{B:Nat}{J:β→World→Prop}(hJ:AbidesFrom B J){s:β}{W W':World}(h:J s W)(g:G W W'):J s W':=
 hJ s W W' none h ⟨g.os,g.tape,g.output,g.size,fun k hk _=>g.block k hk⟩ (fun r e=>by cases e)
theorem Mp.rangeL{α:Type}{enc:α→Value}{k:TypeId}{w:World}{b:Nat}{g:α→Option Value}(h:Mp enc k w b g)(Y:Ky enc k)(L:List α)(hL:∀a,KyOk enc k a→g a≠none→a∈L){t e:TypeId}(ht:prog.underlying t=some (.map k e)) :
  ∃w' cnt,(Instr.range t (.map (some b))).run prog w=.ok (.pointer (some ⟨w.heap.size,0,none⟩)) w'∧Rg enc k w' b w.heap.size g (fun a=>g a≠none) cnt∧Go.Proofs.YtadfaiciolfgjaaGreatDoor.G w w'∧w'.heap.size=w.heap.size+1∧cnt≤L.length:=by
 obtain⟨D,h1,h2⟩:=h.small Y L hL
 obtain⟨w',hr,hg,hb,hs⟩:=h1.range Y.keyed ht
 refine⟨w',_,hr,⟨_,D,_,hg,h2,fun a kl ha=>?_⟩,⟨hb.os,hb.tape,hb.output,hb.size,fun i hi=>hb.block i hi (by simp)⟩,hs,h1.size_le⟩
 rw[getH_has h1,h2 a kl ha]
 cases hga:g a<;>simp[hga]
theorem Rg.iter{α:Type}{enc:α→Value}{k:TypeId}{w:World}{b r cnt:Nat}{g:α→Option Value}{left:α→Prop}(h:Rg enc k w b r g left cnt):∃m s se c,w.heap[r]?=some (.mapIter m s se c):=by
 obtain⟨n,D,lf,⟨es,clock,since,seen,c0,_,_,_,_,h5,_⟩,_⟩:=h
 exact⟨_,_,_,_,h5⟩
theorem inway1_in(n l b1 b2 b3 ah:Nat)(p:Pl)(qt qm:Int)(L:List Int)(J Jx:List Int→World→Prop)(hn:1≤n)(hah:ah≤p.qs.length)(hL:∀x,p.hf x≠0→x∈L)(hR:∀x,p.hf x≠0→R64 x)(hlq:p.qs.length≤maxLen)
  (hY:∀pre x W,J pre W→pre.length<L.length+p.qs.length→inW p.hf p.qs qt qm ah x→YieldAt Fence.wide (n-1) prog l #[I x] W fun e W'=>
   (e=.returned (.bool true)∧J (pre++[x]) W'∧WayK (wayB b1 b2 b3 p) W W')∨(e=.returned (.bool false)∧Jx (pre++[x]) W'))
  (W:World) (hJ:AbidesFrom W.heap.size J) (hw:Way W b1 b2 b3 p qt qm ah) (h0:J [] W) :
  CallsIn Fence.wide n prog 107 #[.func (.yield l) #[] #[],ptr b1,ptr b2,ptr b3] W fun e W'=>(∃v,e=.returned v)∧
   ((∃xs:List Int,((∀x∈xs,inW p.hf p.qs qt qm ah x)∧∀x,inW p.hf p.qs qt qm ah x→x∈xs)∧J xs W')∨(∃pre:List Int,(pre≠[]∧∀x∈pre,inW p.hf p.qs qt qm ah x)∧Jx pre W')):=by
 have hf5:Fence.wide.fn 88:=trivial
 obtain⟨w0,cnt0,hrun0,hrg0,hg0,hs0,hcl0⟩:=hw.hm.rangeL kyI L (fun x _ h=>hL x (fun e=>h (by simp[nz,e]))) underlying107
 have hc1:=hw.k1.cell
 have hcp:=hw.blk.cell
 have HW:=hide hw
 have HRG:=hide hrg0
 have HG0:=hide hg0
 have HCL:=hide hcl0
 have HY:=hide hY
 have HJ:=hide hJ
 have HJ0:=hide h0
 have HL:=hide hL
 have HR:=hide hR
 clear hw hrg0 hg0 hcl0 hY hJ h0 hL hR hs0
 refine callsIn_of_wp func107 rfl trivial ?_ rfl
 simp only[ntmps107,List.size_toArray,List.length_cons,List.length_nil,Nat.reduceAdd,Nat.reduceSub,Array.replicate_succ,Array.replicate_zero,List.push_toArray,List.append_toArray,List.nil_append,List.cons_append]
 gi_wp2
 gi_loopw [5] (fun _ wr=>∃(left:Int→Prop) (cnt:Nat) (ss:List Int),Rg (fun n:Int=>I n) 3 wr p.hb W.heap.size (fun x=>nz (p.hf x)) left cnt∧ss.length+cnt≤L.length∧Way wr b1 b2 b3 p qt qm ah∧(∀x∈ss,inW1 p.hf qt qm x)∧(∀x,inW1 p.hf qt qm x→left x∨x∈ss)∧J ss wr) (fun _ wr=>wr.rangeLeft p.hb W.heap.size)
 case atStart=>
  exact⟨_,_,[],HRG.out,by simpa using HCL.out,HW.out.G HG0.out,(fun x h=>by cases h),(fun x h=>.inl (by simp[nz,h.1])),abide HJ.out HJ0.out HG0.out⟩
 case round=>
  obtain⟨left,cnt,ss,hrg,hcs,hwy,hin,hal,hJs⟩:=hrel
  have HR1:=hide hrg
  have HWY:=hide hwy
  have HIN:=hide hin
  have HAL:=hide hal
  have HJS:=hide hJs
  have HCS:=hide hcs
  rcases hrg.next kyI 0 with ⟨hno,hnx⟩|⟨y,v,w1,cnt1,hky,hly,hgy,hnx,hrg1,hlt,hch,hsz,hen⟩
  ·have hdone:∀x,inW1 p.hf qt qm x→x∈ss:=fun x hx=>by
    rcases HAL.out x hx with h|h
    ·exact absurd h (hno x (kyI_ok.2 (HR.out x hx.1)))
    ·exact h
   have HD:=hide hdone
   clear hdone hno hrg hin hal hJs hcs
   have hc1:=hwy.k1.cell
   have hcp:=hwy.blk.cell
   have hc3:=hwy.k3.cell
   rcases hwy.q with ⟨hq,hqs⟩|⟨g,cap,rest,hq,hqb,hqc⟩
   ·rw[hq] at hcp
    have hah0:ah=0:=by rw[hqs] at hah;simpa using hah
    subst hah0
    clear hwy hq
    have HQS:=hide hqs
    clear hqs
    gi_wp2
    refine wpIn_wide.2 ?_
    go_quiet (fail)
    gi_wp2
    refine wpIn_wide.2 ?_
    refine wp_loop_rounds 1 ?_
    rw[rounds_succ]
    go_wp2
    go_end0
    have e0:∀x,¬inW2 p.qs qm 0 x:=fun x ⟨i,g,hi,_⟩=>by omega
    exact⟨⟨_,rfl⟩,.inl ⟨ss,⟨fun x hx=>.inl (HIN.out x hx),fun x hx=>hx.elim (HD.out x) (fun h=>absurd h (e0 x))⟩,abide HJ.out HJS.out ((G.refl _).drewN _)⟩⟩
   ·rw[hq] at hcp
    have hcap:ah≤cap:=by have:=hqc.1;omega
    have HQ:=hide hq
    have hl1:ss.length≤L.length:=by have:=HCS.out;omega
    have HL1:=hide hl1
    have HAH:=hide hah
    clear hwy hq hqb hqc hl1 hah
    gi_wp2
    refine wpIn_wide.2 ?_
    go_quiet (fail)
    gi_wp2
    gi_loopw [43] (fun i W2=>∃(k:Nat) (xs:List Int),i=I k∧k≤ah∧xs.length≤L.length+k∧Way W2 b1 b2 b3 p qt qm ah∧(∀x∈xs,inW p.hf p.qs qt qm ah x)∧(∀x,inW1 p.hf qt qm x→x∈xs)∧(∀x,inW2 p.qs qm k x→x∈xs)∧J xs W2∧W.heap.size≤W2.heap.size) (fun i _=>ah-(RowKit.intOf i).toNat)
    case atStart=>
     have g1:=(G.refl wr).drewN nq
     exact⟨0,ss,rfl,Nat.zero_le _,HL1.out,HWY.out.G g1,fun x hx=>.inl (HIN.out x hx),HD.out,fun x ⟨i,g,hi,_⟩=>by omega,abide HJ.out HJS.out g1,by have:=HR1.out.lt;show W.heap.size≤wr.heap.size;omega⟩
    case round=>
     obtain⟨k,xs,rfl,hk,hxl,hwy2,hx1,hx2,hx3,hJ2,hsz2⟩:=hrel
     by_cases hlt:k<ah
     ·obtain⟨q,hqk⟩:∃q,p.qs[k]?=some q:=⟨_,List.getElem?_eq_getElem (by have:=HAH.out;omega)⟩
      have hqat:=(HQ.out▸hwy2.q:QSl _ _ _).at hqk
      have hqa:=hqat.1
      have hqb:=hqat.2
      obtain⟨q1,q2⟩:=q
      simp only at hqa hqb
      have hkI:(k:Int)<(ah:Int):=by omega
      have g5:=(G.refl wr).alloc (.cells #[I q1,I q2] 68)
      have hw5:=hwy2.G g5
      have hc2:=hw5.k2.cell
      have KF:=hide (fits_any q2 qm _ hw5.tb)
      have hJ5:=abide HJ.out hJ2 g5
      have H2:=hide hw5
      have HX1:=hide hx1;have HX2:=hide hx2;have HX3:=hide hx3;have HJ5:=hide hJ5;have HXL:=hide hxl;have HSZ:=hide (Nat.le_trans hsz2 g5.size);have HQK:=hide hqk
      have step3:∀ys:List Int,(∀x∈xs,x∈ys)→(fitB q2 qm=false→q1∈ys)→∀x,inW2 p.qs qm (k+1) x→x∈ys:=fun ys h1 h2 x ⟨i,g,hi,hg,hf⟩=>by
       by_cases e:i=k
       ·subst e
        rw[HQK.out] at hg
        cases hg
        exact h2 hf
       ·exact h1 x (HX3.out x ⟨i,g,by omega,hg,hf⟩)
      have H3:=hide step3
      clear hqat hwy2 hx1 hx2 hx3 hJ2 hxl hsz2 hqk hw5 g5 hJ5 step3
      cases hf:fitB q2 qm with
      | true=>
       rw[hf] at KF
       have HF:=hide hf
       clear hf
       gi_wp2_with (first|(gi_at_call 88;refine(callsIn_wide.2 KF.out).mono ?_;rintro e w' ⟨rfl,rfl⟩)|fail)
       refine⟨fun _ h=>(by cases h),?_⟩
       have hkb:(k:Int)+1≤9223372036854775807:=by
        have:=HAH.out
        have hm:maxLen≤9223372036854775807:=of_decide_eq_true (by kernel_rfl)
        omega
       gi_wp2
       go_roundw
       case rel=>exact⟨k+1,xs,by go_num,by omega,by have:=HXL.out;omega,H2.out,HX1.out,HX2.out,H3.out xs (fun x h=>h) (fun e=>by rw[HF.out] at e;cases e),HJ5.out,HSZ.out⟩
       case measure=>
        simp[RowKit.intOf];omega
      | false=>
       rw[hf] at KF
       have HF:=hide hf
       clear hf
       have hin:inW p.hf p.qs qt qm ah q1:=.inr ⟨k,q2,hlt,HQK.out,HF.out⟩
       have HI:=hide hin
       obtain⟨fn,tmps,assign,body,hy,hR⟩:=HY.out xs q1 _ HJ5.out (by have:=HXL.out;have:=HAH.out;omega) HI.out
       clear hin
       gi_wp2_with (first|(gi_at_call 88;refine(callsIn_wide.2 KF.out).mono ?_;rintro e w' ⟨rfl,rfl⟩)|fail)
       refine hR.mono ?_
       rintro e W3 (⟨rfl,hJ3,hk3⟩|⟨rfl,hJx3⟩)
       ·have HJ3:=hide hJ3
        have HK3:=hide hk3
        clear hJ3 hk3 hR hy
        have hkb:(k:Int)+1≤9223372036854775807:=by
         have:=HAH.out
         have hm:maxLen≤9223372036854775807:=of_decide_eq_true (by kernel_rfl)
         omega
        gi_wp2
        go_roundw
        case rel=>
         refine⟨k+1,xs++[q1],by go_num,by omega,by have:=HXL.out;simp;omega,H2.out.keep (fun b hb=>HK3.out.2 b (.inl hb)) HK3.out.1,fun x hx=>?_,fun x hx=>List.mem_append_left _ (HX2.out x hx),H3.out _ (fun x h=>List.mem_append_left _ h) (fun _=>by simp),HJ3.out,Nat.le_trans HSZ.out HK3.out.1⟩
         rcases List.mem_append.1 hx with h|h
         ·exact HX1.out x h
         ·rw[List.mem_singleton.1 h];exact HI.out
        case measure=>
        simp[RowKit.intOf];omega
       ·have HJX:=hide hJx3
        clear hJx3 hR hy
        gi_wp2
        refine bodyPost_ret (results_none rfl _ _ _) rfl ?_
        refine⟨⟨_,rfl⟩,.inr ⟨xs++[q1],⟨by simp,fun x hx=>?_⟩,HJX.out⟩⟩
        rcases List.mem_append.1 hx with h|h
        ·exact HX1.out x h
        ·rw[List.mem_singleton.1 h];exact HI.out
     ·have hkI:¬((k:Int)<(ah:Int)):=by omega
      gi_wp2
      go_end0
      have e:k=ah:=by omega
      subst e
      exact⟨⟨_,rfl⟩,.inl ⟨xs,⟨hx1,fun x hx=>hx.elim (hx2 x) (hx3 x)⟩,hJ2⟩⟩
  ·obtain⟨m,hm,rfl⟩:∃m,p.hf y=m∧v=I m:=by
    unfold nz at hgy
    split at hgy
    ·cases hgy
    ·exact⟨_,rfl,(Option.some.inj hgy).symm⟩
   have hm0:m≠0:=by
    intro e
    rw[hm,e] at hgy
    simp[nz] at hgy
   have hk1:∀b,wayB b1 b2 b3 p b→w1.heap[b]?=wr.heap[b]?:=fun b hb=>hch.block b (hwy.lt hb) (fun e=>by
    have:=HW.out.lt hb
    omega)
   have hwy1:=hwy.keep hk1 hch.size
   have hJ1:J ss w1:=HJ.out ss wr w1 (some W.heap.size) hJs ⟨hch.os,hch.tape,hch.output,hch.size,fun i hi hn=>hch.block i hi (fun e=>hn (by rw[e]))⟩ (fun r e=>by
    cases e
    obtain⟨mm,s,se,c,hi⟩:=hrg.iter
    exact⟨Nat.le_refl _,_,hi,rfl⟩)
   have hc2:=hwy1.k2.cell
   have KF:=hide (fits_any m qm _ hwy1.tb)
   have HM:=hide hm
   have HM0:=hide hm0
   have HW1:=hide hwy1
   have HJ1:=hide hJ1
   have HR2:=hide hrg1
   have HLY:=hide hly
   have step:∀ys:List Int,(∀x∈ss,x∈ys)→(inW1 p.hf qt qm y→y∈ys)→∀x,inW1 p.hf qt qm x→(left x∧x≠y)∨x∈ys:=fun ys h1 h2 x hx=>by
    by_cases e:x=y
    ·subst e;exact .inr (h2 hx)
    ·rcases HAL.out x hx with h|h
     ·exact .inl ⟨h,e⟩
     ·exact .inr (h1 x h)
   have HS:=hide step
   have HLT:=hide hlt
   clear hm hm0 hk1 hwy1 hJ1 hrg1 hrg hwy hin hal hJs hcs hgy hky hly hch step hlt
   by_cases e1:y=qt
   ·have HE:=hide e1
    have e1t:(y==qt)=true:=by simp[e1]
    clear e1
    gi_wp2_with (first|(gi_at_call 88;refine(callsIn_wide.2 KF.out).mono ?_;rintro e w' ⟨rfl,rfl⟩)|fail)
    refine⟨fun _ h=>(by cases h),?_⟩
    gi_wp2
    go_roundw
    case rel=>exact⟨_,cnt1,ss,HR2.out,by have:=HCS.out;have:=HLT.out;omega,HW1.out,HIN.out,HS.out ss (fun x h=>h) (fun h=>absurd HE.out h.2.1),HJ1.out⟩
    case measure=>rw[HR2.out.left_eq,HR1.out.left_eq];exact HLT.out
   ·have HE:=hide e1
    have e1t:(y==qt)=false:=by simp[e1]
    cases hf:fitB m qm with
    | true=>
     rw[hf] at KF
     have HF:=hide hf
     clear hf e1
     gi_wp2_with (first|(gi_at_call 88;refine(callsIn_wide.2 KF.out).mono ?_;rintro e w' ⟨rfl,rfl⟩)|fail)
     refine⟨fun _ h=>(by cases h),?_⟩
     gi_wp2
     go_roundw
     case rel=>exact⟨_,cnt1,ss,HR2.out,by have:=HCS.out;have:=HLT.out;omega,HW1.out,HIN.out,HS.out ss (fun x h=>h) (fun h=>by have:=h.2.2;rw[HM.out,HF.out] at this;cases this),HJ1.out⟩
     case measure=>rw[HR2.out.left_eq,HR1.out.left_eq];exact HLT.out
    | false=>
     rw[hf] at KF
     have HF:=hide hf
     clear hf e1
     have hin:inW1 p.hf qt qm y:=⟨by rw[HM.out];exact HM0.out,HE.out,by rw[HM.out];exact HF.out⟩
     have HI:=hide hin
     obtain⟨fn,tmps,assign,body,hy,hR⟩:=HY.out ss y _ HJ1.out (by have:=HCS.out;have:=HLT.out;omega) (.inl HI.out)
     clear hin
     gi_wp2_with (first|(gi_at_call 88;refine(callsIn_wide.2 KF.out).mono ?_;rintro e w' ⟨rfl,rfl⟩)|fail)
     refine hR.mono ?_
     rintro e W3 (⟨rfl,hJ3,hk3⟩|⟨rfl,hJx3⟩)
     ·have HJ3:=hide hJ3
      have HK3:=hide hk3
      have HR3:=hide (HR2.out.keep (hk3.2 _ (.inl (by simp[wayB]))) (hk3.2 _ (.inr HR2.out.iter)))
      clear hJ3 hk3 hR hy
      gi_wp2
      go_roundw
      case rel=>
       refine⟨_,cnt1,ss++[y],HR3.out,by have:=HCS.out;have:=HLT.out;simp;omega,HW1.out.keep (fun b hb=>HK3.out.2 b (.inl hb)) HK3.out.1,fun x hx=>?_,HS.out _ (fun x h=>List.mem_append_left _ h) (fun _=>by simp),HJ3.out⟩
       rcases List.mem_append.1 hx with h|h
       ·exact HIN.out x h
       ·rw[List.mem_singleton.1 h];exact HI.out
      case measure=>rw[HR3.out.left_eq,HR1.out.left_eq];exact HLT.out
     ·have HJX:=hide hJx3
      clear hJx3 hR hy
      gi_wp2
      refine bodyPost_ret (results_none rfl _ _ _) rfl ?_
      refine⟨⟨_,rfl⟩,.inr ⟨ss++[y],⟨by simp,fun x hx=>.inl ?_⟩,HJX.out⟩⟩
      rcases List.mem_append.1 hx with h|h
      ·exact HIN.out x h
      ·rw[List.mem_singleton.1 h];exact HI.out
end
section
open Go.RowKit Go.Shelf
attribute [local go_sem] Oper.semAt_some
abbrev wayW(w:World)(p:Pl)(qt qm:Int)(ah:Nat):World:=((w.alloc (.cells #[ptr p.blk] 84)).alloc (.cells #[I qt,I qm] 68)).alloc (.cells #[I ah] 3)
theorem inway_any(p:Pl)(qt qm:Int)(ah:Nat)(w:World):Calls prog 90 #[ptr p.blk,.agg #[I qt,I qm],I ah] w fun e w'=>e=.returned (.func (.func 107) #[] #[ptr w.heap.size,ptr (w.heap.size+1),ptr (w.heap.size+2)])∧w'=wayW w p qt qm ah:=by
 go_enter func90,ntmps90
 go_wp2
 go_ret
 exact⟨rfl,rfl⟩
theorem way_of{w:World}{p:Pl}(qt qm:Int)(ah:Nat)(ht:Tb w)(hb:Blk w p.blk 109 [.map (some p.hb),p.q])(hm:Mp (fun n:Int=>I n) 3 w p.hb (fun x=>nz (p.hf x)))(hq:QSl w p.q p.qs):Way (wayW w p qt qm ah) w.heap.size (w.heap.size+1) (w.heap.size+2) p qt qm ah:=by
 have g1:=(G.refl w).alloc (.cells #[ptr p.blk] 84)
 have g2:=g1.alloc (.cells #[I qt,I qm] 68)
 have g3:=g2.alloc (.cells #[I ah] 3)
 have k1:=(Blk.new w [ptr p.blk] 84).G (((G.refl _).alloc (.cells #[I qt,I qm] 68)).alloc (.cells #[I ah] 3))
 have k2:=(Blk.new (w.alloc (.cells #[ptr p.blk] 84)) [I qt,I qm] 68).G ((G.refl _).alloc (.cells #[I ah] 3))
 have k3:=Blk.new ((w.alloc (.cells #[ptr p.blk] 84)).alloc (.cells #[I qt,I qm] 68)) [I ah] 3
 simp only[World.size_alloc] at k2 k3
 exact⟨ht.G g3,k1,k2,k3,hb.G g3,hm.G g3,hq.keep (fun b e=>g3.block b (by
  rcases hq with ⟨e',_⟩|⟨g,cap,rest,e',hg,_⟩
  ·rw[e'] at e;simp[Value.ownBlock] at e
  ·rw[e'] at e;simp[Value.ownBlock] at e;subst e;exact hg.lt))⟩
noncomputable def blkB(p:Pl)(qt qm:Int)(ah:Nat):Bool:=@decide (∃x,inW p.hf p.qs qt qm ah x) (Classical.propDecidable _)
theorem blkB_yes{p:Pl}{qt qm:Int}{ah:Nat}(h:∃x,inW p.hf p.qs qt qm ah x):blkB p qt qm ah=true:=@decide_eq_true _ (Classical.propDecidable _) h
theorem blkB_no{p:Pl}{qt qm:Int}{ah:Nat}(h:¬∃x,inW p.hf p.qs qt qm ah x):blkB p qt qm ah=false:=@decide_eq_false _ (Classical.propDecidable _) h
theorem seq_any(n b1 b2 b3 ah:Nat)(p:Pl)(qt qm:Int)(L:List Int)(w:World)(hn:1≤n)(hah:ah≤p.qs.length)(hL:∀x,p.hf x≠0→x∈L)(hR:∀x,p.hf x≠0→R64 x)(hlq:p.qs.length≤maxLen)(hw:Way w b1 b2 b3 p qt qm ah) :
  SeqStopsK Fence.wide n prog 107 #[ptr b1,ptr b2,ptr b3] (fun x:Int=>#[I x]) (WayK (wayB b1 b2 b3 p)) (fun xs=>(∀x∈xs,inW p.hf p.qs qt qm ah x)∧∀x,inW p.hf p.qs qt qm ah x→x∈xs) (fun pre=>pre≠[]∧∀x∈pre,inW p.hf p.qs qt qm ah x) (L.length+p.qs.length) w:=
 fun l J Jx W hW hJ _ hY h0=>inway1_in n l b1 b2 b3 ah p qt qm L J Jx hn hah hL hR hlq (fun pre x W h1 h2 _=>hY pre x W h1 h2) W hJ (hw.G hW) h0
theorem seq_sub(n b1 b2 b3 ah:Nat)(p:Pl)(qt qm:Int)(L:List Int)(w:World)(hn:1≤n)(hah:ah≤p.qs.length)(hL:∀x,p.hf x≠0→x∈L)(hR:∀x,p.hf x≠0→R64 x)(hlq:p.qs.length≤maxLen)(hw:Way w b1 b2 b3 p qt qm ah) :
  SeqStopsK Fence.wide n prog 107 #[ptr b1,ptr b2,ptr b3] (fun x:{x:Int // inW p.hf p.qs qt qm ah x}=>#[I x.1]) (WayK (wayB b1 b2 b3 p)) (fun xs=>∀x,x∈xs) (fun pre=>pre≠[]) (L.length+p.qs.length) w:=fun l J Jx W hW hJ _ hY h0=>by
 refine(inway1_in n l b1 b2 b3 ah p qt qm L (fun pre W=>∃pre':List {x:Int // inW p.hf p.qs qt qm ah x},pre'.map (·.1)=pre∧J pre' W) (fun pre W=>∃pre':List {x:Int // inW p.hf p.qs qt qm ah x},pre'.map (·.1)=pre∧Jx pre' W) hn hah hL hR hlq ?_ W ?_ (hw.G hW) ⟨[],rfl,h0⟩).mono ?_
 ·rintro pre x W1 ⟨pre',rfl,h1⟩ h2 h3
  obtain⟨fn,tmps,assign,body,hy,hR⟩:=hY pre' ⟨x,h3⟩ W1 h1 (by simpa using h2)
  refine⟨fn,tmps,assign,body,hy,hR.mono ?_⟩
  rintro e W' (⟨e1,e2,e3⟩|⟨e1,e2⟩)
  ·exact .inl ⟨e1,⟨_,by simp,e2⟩,e3⟩
  ·exact .inr ⟨e1,⟨_,by simp,e2⟩⟩
 ·rintro s A B row ⟨pre',e,h⟩ hg hr
  exact⟨pre',e,hJ pre' A B row h hg hr⟩
 ·rintro e W' ⟨hv,⟨xs,⟨hx1,hx2⟩,xs',rfl,h⟩|⟨pre,⟨hp1,hp2⟩,pre',rfl,h⟩⟩
  ·refine⟨hv,.inl ⟨xs',fun x=>?_,h⟩⟩
   obtain⟨y,hy,e⟩:=List.mem_map.1 (hx2 x.1 x.2)
   have:y=x:=Subtype.ext e
   rw[←this]
   exact hy
  ·exact⟨hv,.inr ⟨pre',fun e=>hp1 (by rw[e];rfl),h⟩⟩
theorem blocks_any(p:Pl)(qt qm:Int)(ah:Nat)(L:List Int)(w:World)(hah:ah≤p.qs.length)(hL:∀x,p.hf x≠0→x∈L)(hR:∀x,p.hf x≠0→R64 x)(hlq:p.qs.length≤maxLen)
  (ht:Tb w) (hb:Blk w p.blk 109 [.map (some p.hb),p.q]) (hm:Mp (fun n:Int=>I n) 3 w p.hb (fun x=>nz (p.hf x))) (hq:QSl w p.q p.qs):Calls prog 57 #[ptr p.blk,.agg #[I qt,I qm],I ah] w fun e w'=>e=.returned (.bool (blkB p qt qm ah))∧G w w':=by
 refine(callsIn_wide (n:=5)).1 ?_
 have hf1:Fence.wide.fn 90:=trivial
 have KI:=hide (inway_any p qt qm ah ((w.alloc (.cells #[I qt,I qm] 68)).alloc (.cells #[.bool false] 4)))
 refine callsIn_of_wp_marks func57 rfl trivial ?_ rfl
 simp only[ntmps57,List.size_toArray,List.length_cons,List.length_nil,Nat.reduceAdd,Nat.reduceSub,Array.replicate_succ,Array.replicate_zero,List.push_toArray,List.append_toArray,List.nil_append,List.cons_append]
 gi_wp2_with (gi_at_call 90;refine(callsIn_wide.2 KI.out).mono ?_;rintro e w' ⟨rfl,rfl⟩)
 have g0:G w ((w.alloc (.cells #[I qt,I qm] 68)).alloc (.cells #[.bool false] 4)):=((G.refl w).alloc _).alloc _
 have gq:∀b,p.q.ownBlock=some b→b<w.heap.size:=fun b e=>by
  rcases hq with ⟨e',_⟩|⟨g,cap,rest,e',hg,_⟩
  ·rw[e'] at e;simp[Value.ownBlock] at e
  ·rw[e'] at e;simp[Value.ownBlock] at e;subst e;exact hg.lt
 have hway:=way_of qt qm ah (ht.G g0) (hb.G g0) (hm.G g0) (hq.keep (fun b e=>g0.block b (gq b e)))
 have c0:=Blk.new (w.alloc (.cells #[I qt,I qm] 68)) [.bool false] 4
 have c1:=And.intro (c0.cell 0) (c0.frozen 0)
 have gw:G ((w.alloc (.cells #[I qt,I qm] 68)).alloc (.cells #[.bool false] 4)) (wayW ((w.alloc (.cells #[I qt,I qm] 68)).alloc (.cells #[.bool false] 4)) p qt qm ah):=(((G.refl _).alloc _).alloc _).alloc _
 have c2:(wayW ((w.alloc (.cells #[I qt,I qm] 68)).alloc (.cells #[.bool false] 4)) p qt qm ah).cell? ⟨w.heap.size+1,0,none⟩=some (.bool false)∧(wayW ((w.alloc (.cells #[I qt,I qm] 68)).alloc (.cells #[.bool false] 4)) p qt qm ah).frozen? ⟨w.heap.size+1,0,none⟩=false:=by
  simp only[World.size_alloc] at c1
  exact⟨(gw.cell (by simp)).trans c1.1,(gw.frozen (by simp)).trans c1.2⟩
 have hB0:Below w.heap.size w (wayW ((w.alloc (.cells #[I qt,I qm] 68)).alloc (.cells #[.bool false] 4)) p qt qm ah):=g0.trans gw
 have hs0:(wayW ((w.alloc (.cells #[I qt,I qm] 68)).alloc (.cells #[.bool false] 4)) p qt qm ah).heap.size=w.heap.size+5:=by simp
 simp only[World.size_alloc] at hway
 generalize wayW ((w.alloc (.cells #[I qt,I qm] 68)).alloc (.cells #[.bool false] 4)) p qt qm ah=W0 at hway c2 hB0 hs0⊢
 refine wpIn_rangeFunc_ownF rfl (by omega) (gf:=107) (lb:=#[ptr (w.heap.size+1+1),ptr (w.heap.size+1+1+1),ptr (w.heap.size+1+1+2)]) rfl trivial (enters_of func107 (by kernel_rfl) rfl)
  (seq_any 4 _ _ _ ah p qt qm L W0 (by omega) hah hL hR hlq hway) WayK.trans (WayK.put (fun b hb=>hway.lt hb)) (Below.refl _ _) (fun _=>rfl)
  (fun pre W=>(pre=[]∧W.cell? ⟨w.heap.size+1,0,none⟩=some (.bool false)∧W.frozen? ⟨w.heap.size+1,0,none⟩=false)∧Below w.heap.size w W)
  (fun c pre W=>(c=.ret∧W.cell? ⟨w.heap.size+1,0,none⟩=some (.bool true))∧Below w.heap.size w W)
  (OwnFrom.and (Own.from (fun s A B row hs hg hr=>⟨hs.1,cell_kept hs.2.1 hg hr,(frozen_kept hs.2.1 hg hr).trans hs.2.2⟩) _) (ownFrom_below (Nat.le_refl _) (by omega)))
  (fun c=>OwnFrom.and (Own.from (fun s A B row hs hg hr=>⟨hs.1,cell_kept hs.2 hg hr⟩) _) (ownFrom_below (Nat.le_refl _) (by omega)))
  ⟨⟨rfl,c2.1,c2.2⟩,hB0⟩
  (fun x=>{tmps:=#[ptr p.blk,.agg #[I qt,I qm],I ah,undef,ptr w.heap.size,undef,ptr (w.heap.size+1),ptr p.blk,.agg #[I qt,I qm],I ah,.func (.func 107) #[] #[ptr (w.heap.size+1+1),ptr (w.heap.size+1+1+1),ptr (w.heap.size+1+1+2)],I x],defers:=[]}) ?assign ?body ?done ?stop
 case assign=>
  intro l x W K hK
  gi_wp2
  simp only[List.zip_toArray,List.zip_cons_cons,List.zip_nil_right,List.size_toArray,List.length_cons,List.length_nil]
  exact hK
 case body=>
  rintro l pre x W ⟨⟨hp,hcr,hfr⟩,hB⟩ _
  gi_wp2
  exact⟨KeepsOthers.setCell _ _ _,⟨rfl,World.cell?_setCell_same' _ _ _ (by rw[hcr];rfl)⟩,hB.setCell (p:=⟨w.heap.size+1,0,none⟩) (by simp) _⟩
 case done=>
  rintro D ys W hD hS ⟨⟨rfl,hcr,hfr⟩,hB⟩ hK
  gi_wp2
  have hK':=(KeepsOthers.setCell W ⟨w.heap.size+1,0,none⟩ (.bool false)).same D _ hK rfl
  refine⟨by simp,.inl ⟨_,_,rfl,run_takeDeferred hK',?_⟩⟩
  have hc5:=cell_kept (World.cell?_setCell_same' W ⟨w.heap.size+1,0,none⟩ (.bool false) (by rw[hcr];rfl)) (grownBy_putObj' _ D (.deferred none)) (fun r e=>by cases e;exact⟨_,hK',rfl⟩)
  refine⟨.bool false,?_,by rw[blkB_no (fun ⟨x,hx⟩=>by have:=hS.2 x hx;cases this)],(hB.setCell (p:=⟨w.heap.size+1,0,none⟩) (by simp) _).trans (belowK_b (w:=w) (Nat.le_refl _) _ D _ _ (by omega) hK' rfl rfl)⟩
  simp[results,Tryz.f57,go_sem,hc5]
 case stop=>
  rintro D c pre W hD hpre ⟨⟨rfl,hcr⟩,hB⟩ hK
  gi_wp2
  refine⟨by simp,.inl ⟨_,_,rfl,run_takeDeferred hK,?_⟩⟩
  have hc5:=cell_kept hcr (grownBy_putObj' _ D (.deferred none)) (fun r e=>by cases e;exact⟨_,hK,rfl⟩)
  have hex:∃x,inW p.hf p.qs qt qm ah x:=by
   cases hpp:pre with
   | nil=>exact absurd hpp hpre.1
   | cons x r=>exact⟨x,hpre.2 x (by rw[hpp];simp)⟩
  refine⟨.bool true,?_,by rw[blkB_yes hex],hB.trans (belowK_b (w:=w) (Nat.le_refl _) W D _ _ (by omega) hK rfl rfl)⟩
  simp[results,Tryz.f57,go_sem,hc5]
end
section
open Go.RowKit
noncomputable def Pt.hurt(p:Pt):Bool:=@decide (∃y,p.wd y=true) (Classical.propDecidable _)
theorem Pt.hurt_iff{p:Pt}:p.hurt=true↔∃y,p.wd y=true:=⟨fun h=>@of_decide_eq_true _ (Classical.propDecidable _) h,@decide_eq_true _ (Classical.propDecidable _)⟩
theorem Pt.hurt_no{p:Pt}(h:¬∃y,p.wd y=true):p.hurt=false:=@decide_eq_false _ (Classical.propDecidable _) h
theorem isWounded_any(p:Pt)(w:World)(hb:Blk w p.blk 63 p.cells)(hm:Mp (fun n:Int=>I n) 3 w p.wb (fun y=>wdv (p.wd y)))(hR:∀y,p.wd y=true→R64 y):Calls prog 83 #[ptr p.blk] w fun e w'=>e=.returned (.bool p.hurt)∧w'=w:=by
 obtain⟨n,hl,hn⟩:=hm.len kyI underlying61 3
 have hc:=hb.cell
 simp only[Pt.cells] at hc
 clear hb hm
 by_cases h0:n=0
 ·have hno:¬∃y,p.wd y=true:=fun ⟨y,hy⟩=>by
   have:=hn.1 h0 y (kyI_ok.2 (hR y hy))
   simp[wdv,hy] at this
  rw[Pt.hurt_no hno]
  subst h0
  clear hn hR hno
  go_enter func83,ntmps83
  go_wp2
  go_ret
  exact⟨rfl,rfl⟩
 ·have hyes:p.hurt=true:=Pt.hurt_iff.2 (Classical.byContradiction fun hno=>h0 (hn.2 (fun y _=>by
   cases hy:p.wd y with
   | false=>simp[wdv]
   | true=>exact absurd ⟨y,hy⟩ hno)))
  rw[hyes]
  have hpos:0<n:=Nat.pos_of_ne_zero h0
  clear hn hR hyes h0
  go_enter func83,ntmps83
  go_wp2
  go_ret
  exact⟨rfl,rfl⟩
def Pt.hit(p:Pt)(y:Int):Pt:={p with wd:=upd p.wd y true}
theorem TT.hit{w w':World}{t:Nat}{s:Gs}{x y:Int}{p:Pt}(h:TT w t s)(hp:s.lv x=some p)(hm:Mp (fun n:Int=>I n) 3 w' p.wb (upd (fun y=>wdv (p.wd y)) y (some (.agg #[]))))(hc:Chg (fun k=>k=p.wb) w w')(hs:w'.heap.size=w.heap.size) :
  TT w' t {s with lv:=upd s.lv x (some (p.hit y))}∧Ext w w' s {s with lv:=upd s.lv x (some (p.hit y))}:=by
 have hpo:=h.pt x p hp
 have hk:∀b tg,s.own b=some tg→tg≠.pw x→w'.heap[b]?=w.heap[b]?:=fun b tg o hne=>hc.block b (h.lt b tg o) (h.ne o hpo.t3 hne)
 refine⟨⟨h.tb.keep (hk _ _ h.o1 (by simp)),(h.lm.keep (hk _ _ h.o2 (by simp))).congr (fun z=>?_),h.pm.keep (hk _ _ h.o3 (by simp)),fun z q hz=>?_,fun r q hr=>?_,h.o1,h.o2,h.o3,fun b tg o=>by rw[hs];exact h.lt b tg o⟩,⟨hc.mono (fun b e=>by rw[e,hpo.t3];simp),fun _ _ o=>o,fun _ _ o=>.inl o⟩⟩
 ·by_cases e:z=x
  ·subst e;simp[upd_same,hp,Pt.hit]
  ·simp[upd_other e]
 ·by_cases e:z=x
  ·subst e
   simp only[upd_same,Option.some.injEq] at hz
   subst hz
   exact⟨hpo.blk.keep (hk _ _ hpo.t1 (by simp)),hpo.hm.keep (hk _ _ hpo.t2 (by simp)),hm.congr (fun a=>by
    simp only[Pt.hit,upd]
    split<;>simp[wdv]),hpo.t1,hpo.t2,hpo.t3⟩
  ·replace hz:upd s.lv x _ z=some q:=hz
   rw[upd_other e] at hz
   exact(h.pt z q hz).keep (fun b o=>by rcases o with o|o|o<;>exact hk _ _ o (by simp[e]))
 ·exact(h.pl r q hr).keep (fun b o=>by rcases o with o|o|o<;>exact hk _ _ o (by simp))
theorem wound_any(t:Nat)(s:Gs)(x y:Int)(p:Pt)(w:World)(h:TT w t s)(hp:s.lv x=some p)(hR:∀y,p.wd y=true→R64 y)(hy:R64 y)(L:List Int)(hL:∀y,p.wd y=true→y∈L)(hl:L.length<maxLen):Calls prog 89 #[ptr p.blk,I y] w fun e w'=>e=.returned (.bool (!p.hurt))∧TT w' t {s with lv:=upd s.lv x (some (p.hit y))}∧Ext w w' s {s with lv:=upd s.lv x (some (p.hit y))}∧Chg (fun k=>k=p.wb) w w'∧w'.heap.size=w.heap.size:=by
 have hpo:=h.pt x p hp
 have KW:=hide (isWounded_any p w hpo.blk hpo.wm hR)
 have hc:=hpo.blk.cell
 simp only[Pt.cells] at hc
 have HM:=hide hpo.wm
 have HT:=hide h
 have HP:=hide hp
 have HL:=hide hL
 have HLL:=hide hl
 have HY:=hide hy
 clear hpo h hp hR hL hl hy
 generalize p.hurt=hh at KW
 go_enter func89,ntmps89
 go_wp2_with (first|(go_at_call 83;refine KW.out.mono ?_;rintro e w' ⟨rfl,rfl⟩)|(at_mapUpdate;refine wpList_put _ rfl _ _ _ 61 rfl HM.out rfl kyI L (fun z _ hz=>HL.out z (by cases e:p.wd z with|true=>rfl|false=>simp[wdv,e] at hz)) HLL.out underlying61 y rfl (kyI_ok.2 HY.out) _ rfl ?_;intro w2 hm2 hch2 hsz2)|go_in)
 go_ret
 have hh:=HT.out.hit HP.out hm2 hch2 hsz2
 exact⟨rfl,hh.1,hh.2,hch2,hsz2⟩
end
end Go.Proofs.YtadfaiciolfgjaaGreatDoor
