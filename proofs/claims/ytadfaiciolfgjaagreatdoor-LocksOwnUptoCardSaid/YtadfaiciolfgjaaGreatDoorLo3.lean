import Derived.Test.YtadfaiciolfgjaaGreatDoorLo1
namespace Go.Proofs.YtadfaiciolfgjaaGreatDoor
open Go.Proofs.Tryz
set_option maxHeartbeats 4000000
set_option maxRecDepth 100000
section
open Go.RowKit
def mI(t:Nat):List Value:=[I (-10-(t:Int))]
def mH(t:Nat):List Value:=[I (-10-(t:Int)),I 0]
def mW(t:Nat):List Value:=[I (-10-(t:Int)),I 0,I 0,.string ByteArray.empty,I 0]
theorem mI_len(t:Nat):(mI t).length=1:=rfl
theorem mH_len(t:Nat):(mH t).length=2:=rfl
theorem mW_len(t:Nat):(mW t).length=5:=rfl
structure BK(lo:Nat)(w:World)(bb:Nat)(a b c:Kst)(n1 n2 n3:Nat):Prop where
 blk:Blk w bb 31 [a.v,a.u,b.v,b.u,c.v,c.u,I n1,I n2,I n3]
 i:Kc w lo 3 42 1 a
 h:Kc w lo 68 91 2 b
 w:Kc w lo 101 95 5 c
def BB(bb:Nat)(a b c:Kst)(k:Nat):Prop:=k=bb∨a.At k∨b.At k∨c.At k
section
variable {lo:Nat} {w w':World} {bb n1 n2 n3:Nat} {a b c:Kst} {F:Nat→Prop}
theorem BK.chg(h:BK lo w bb a b c n1 n2 n3)(k:Chg F w w')(hF:∀i,BB bb a b c i→¬F i):BK lo w' bb a b c n1 n2 n3:=
 ⟨h.blk.chg k (hF bb (.inl rfl)),h.i.chg k (fun i hi=>hF i (.inr (.inl hi))),h.h.chg k (fun i hi=>hF i (.inr (.inr (.inl hi)))),h.w.chg k (fun i hi=>hF i (.inr (.inr (.inr hi))))⟩
theorem BK.G(h:BK lo w bb a b c n1 n2 n3)(g:Go.Proofs.YtadfaiciolfgjaaGreatDoor.G w w'):BK lo w' bb a b c n1 n2 n3:=h.chg (F:=fun _=>False) g.chg (fun _ _=>id)
theorem BK.lt(h:BK lo w bb a b c n1 n2 n3){k:Nat}(hk:BB bb a b c k):k<w.heap.size:=by
 rcases hk with rfl|hk|hk|hk
 ·exact h.blk.lt
 ·exact h.i.lt hk
 ·exact h.h.lt hk
 ·exact h.w.lt hk
end
theorem row_sv{w:World}{lo ts:Nat}{v:Value}{es:List SV}(h:w.ownsRow lo ts 1 v es.length (es.map sv)){i:Nat}{x:SV}(hx:es[i]?=some x):∃g cap,v=.slice (some ⟨g,0,none⟩) es.length cap∧w.cell? ⟨g,i,none⟩=some (.slice x.1 x.2.1 x.2.2):=by
 have hlt:=(List.getElem?_eq_some_iff.1 hx).1
 obtain⟨g,cap,rest,hv,-⟩:=own_blk2 h (by omega)
 rw[hv] at h
 refine⟨g,cap,hv,?_⟩
 rw[own_cell2 h i (by rw[List.length_map];exact hlt),List.getElem?_map,hx]
 rfl
theorem mark_at{w:World}{lo ty k n j:Nat}{xa:Option Addr}{xc:Nat}{cs mk:List Value}(h:w.ownsRow lo ty k (sv (xa,n,xc)) n cs)(hm:cs=Ms1 mk n)(hk:mk.length=k)(hj:j<n):∃g,xa=some ⟨g,0,none⟩∧∀o,o<k→w.cell? ⟨g,j*k+o,none⟩=mk[o]?:=by
 obtain⟨g,cap,rest,hv,-⟩:=own_blk2 h (by omega)
 unfold sv at hv
 cases hv
 refine⟨g,rfl,fun o ho=>?_⟩
 subst hm
 subst hk
 rw[own_cell2 h (j*mk.length+o) (by rw[Ms1_len];have:=Nat.mul_le_mul_right mk.length hj;rw[Nat.succ_mul] at this;omega)]
 exact Ms1_at mk n j o hj ho
theorem kept_any{lo:Nat}{w:World}{bb:Nat}{a b c:Kst}(h:BK lo w bb a b c a.es.length b.es.length c.es.length)(hl:a.es.length<1000000000∧b.es.length<1000000000∧c.es.length<1000000000)(hm:Mk mI a a.es.length∧Mk mH b b.es.length∧Mk mW c c.es.length):Calls prog 14 #[ptr bb] w fun e w'=>e=.returned (.bool true)∧w'=w:=by
 obtain⟨va,ua,ea,wa,Ca⟩:=a
 obtain⟨vb,ub,eb,wb,Cb⟩:=b
 obtain⟨vc,uc,ec,wc,Cc⟩:=c
 dsimp only at h hl hm
 have HBK:=hide h;have HL:=hide hl;have HM:=hide hm
 have hbc:=h.blk.cell
 dsimp only at hbc
 clear h hl hm
 go_enter func14,ntmps14
 go_wp2_with fail
 go_loopw [3] (fun iv wr=>∃i:Nat,i≤ea.length∧iv=I (i:Int)∧wr=w) (fun iv _=>ea.length-(RowKit.intOf iv).toNat)
 case atStart=>exact⟨0,Nat.zero_le _,rfl,rfl⟩
 case round=>
  obtain⟨i,hi,rfl,hwr⟩:=hrel
  subst wr
  have hla:=HL.out.1
  by_cases hlt:i<ea.length
  ·obtain⟨x,hx⟩:∃x,ea[i]?=some x:=⟨_,List.getElem?_eq_getElem hlt⟩
   obtain⟨xa,xn,xc⟩:=x
   obtain⟨g,cap,kv,kx⟩:=row_sv HBK.out.i.r1 hx
   dsimp only at kv kx
   subst kv
   have hbc:=HBK.out.blk.cell
   dsimp only at hbc
   have iI:(i:Int)<(ea.length:Int):=by omega
   have hwi:wrap64 ((i:Int)+1)=(i:Int)+1:=by unfold wrap64;omega
   have hwm:wrap64 (-10-(i:Int)) = -10-(i:Int):=by unfold wrap64;omega
   have HMX:=hide (HM.out.1 i _ hlt hx)
   have HOX:=hide (HBK.out.i.own i _ hx)
   dsimp only at HMX HOX
   have HXM:=hide (own_max HOX.out)
   have HLT:=hide hlt;have HWI:=hide hwi
   clear hx hlt hi hla hwi
   go_wp2_with fail
   go_loopw [4] (fun jv wr=>∃j:Nat,j≤xn∧jv=I (j:Int)∧wr=w) (fun jv _=>xn-(RowKit.intOf jv).toNat)
   case atStart=>exact⟨0,Nat.zero_le _,rfl,rfl⟩
   case round=>
    obtain⟨j,hj,rfl,hwr⟩:=hrel
    subst wr
    have hxm:=HXM.out
    unfold maxLen at hxm
    by_cases hjl:j<xn
    ·obtain⟨gx,hgx,kc⟩:=mark_at HOX.out HMX.out (mI_len i) hjl
     subst hgx
     have d0:w.cell? ⟨gx,j,none⟩=some (I (-10-(i:Int))):=by have:=kc 0 (by decide);rw[Nat.mul_one] at this;exact this
     have jI:(j:Int)<(xn:Int):=by omega
     have hwj:wrap64 ((j:Int)+1)=(j:Int)+1:=by unfold wrap64;omega
     have HWJ:=hide hwj;have HJL:=hide hjl
     clear kc hxm hj hwj hjl
     go_wp2_with fail
     exact⟨⟨j+1,HJL.out,by rw[HWJ.out];exact lrl j,trivial⟩,by rw[HWJ.out];exact lms HJL.out⟩
    ·have jI:¬(j:Int)<(xn:Int):=by omega
     clear hxm hj hjl
     go_wp2_with fail
     exact⟨⟨i+1,HLT.out,by rw[HWI.out];exact lrl i,trivial⟩,by rw[HWI.out];exact lms HLT.out⟩
  ·have iI:¬(i:Int)<(ea.length:Int):=by omega
   have hbc:=HBK.out.blk.cell
   dsimp only at hbc
   clear hi hlt hla
   go_wp2_with fail
   go_loopw [5] (fun iv wr=>∃i:Nat,i≤eb.length∧iv=I (i:Int)∧wr=w) (fun iv _=>eb.length-(RowKit.intOf iv).toNat)
   case atStart=>exact⟨0,Nat.zero_le _,rfl,rfl⟩
   case round=>
    obtain⟨i,hi,rfl,hwr⟩:=hrel
    subst wr
    have hlb:=HL.out.2.1
    by_cases hlt:i<eb.length
    ·obtain⟨x,hx⟩:∃x,eb[i]?=some x:=⟨_,List.getElem?_eq_getElem hlt⟩
     obtain⟨xa,xn,xc⟩:=x
     obtain⟨g,cap,kv,kx⟩:=row_sv HBK.out.h.r1 hx
     dsimp only at kv kx
     subst kv
     have hbc:=HBK.out.blk.cell
     dsimp only at hbc
     have iI:(i:Int)<(eb.length:Int):=by omega
     have hwi:wrap64 ((i:Int)+1)=(i:Int)+1:=by unfold wrap64;omega
     have hwm:wrap64 (-10-(i:Int)) = -10-(i:Int):=by unfold wrap64;omega
     have HMX:=hide (HM.out.2.1 i _ hlt hx)
     have HOX:=hide (HBK.out.h.own i _ hx)
     dsimp only at HMX HOX
     have HXM:=hide (own_max HOX.out)
     have HLT:=hide hlt;have HWI:=hide hwi
     clear hx hlt hi hlb hwi
     go_wp2_with fail
     go_loopw [6] (fun jv wr=>∃j:Nat,j≤xn∧jv=I (j:Int)∧wr=w) (fun jv _=>xn-(RowKit.intOf jv).toNat)
     case atStart=>exact⟨0,Nat.zero_le _,rfl,rfl⟩
     case round=>
      obtain⟨j,hj,rfl,hwr⟩:=hrel
      subst wr
      have hxm:=HXM.out
      unfold maxLen at hxm
      by_cases hjl:j<xn
      ·obtain⟨gx,hgx,kc⟩:=mark_at HOX.out HMX.out (mH_len i) hjl
       subst hgx
       have d0:w.cell? ⟨gx,j*2,none⟩=some (I (-10-(i:Int))):=kc 0 (by decide)
       have d1:w.cell? ⟨gx,j*2+1,none⟩=some (I 0):=kc 1 (by decide)
       have jI:(j:Int)<(xn:Int):=by omega
       have hwj:wrap64 ((j:Int)+1)=(j:Int)+1:=by unfold wrap64;omega
       have HWJ:=hide hwj;have HJL:=hide hjl
       clear kc hxm hj hwj hjl
       go_wp2_with fail
       exact⟨⟨j+1,HJL.out,by rw[HWJ.out];exact lrl j,trivial⟩,by rw[HWJ.out];exact lms HJL.out⟩
      ·have jI:¬(j:Int)<(xn:Int):=by omega
       clear hxm hj hjl
       go_wp2_with fail
       exact⟨⟨i+1,HLT.out,by rw[HWI.out];exact lrl i,trivial⟩,by rw[HWI.out];exact lms HLT.out⟩
    ·have iI:¬(i:Int)<(eb.length:Int):=by omega
     have hbc:=HBK.out.blk.cell
     dsimp only at hbc
     clear hi hlt hlb
     go_wp2_with fail
     go_loopw [7] (fun iv wr=>∃i:Nat,i≤ec.length∧iv=I (i:Int)∧wr=w) (fun iv _=>ec.length-(RowKit.intOf iv).toNat)
     case atStart=>exact⟨0,Nat.zero_le _,rfl,rfl⟩
     case round=>
      obtain⟨i,hi,rfl,hwr⟩:=hrel
      subst wr
      have hlc:=HL.out.2.2
      by_cases hlt:i<ec.length
      ·obtain⟨x,hx⟩:∃x,ec[i]?=some x:=⟨_,List.getElem?_eq_getElem hlt⟩
       obtain⟨xa,xn,xc⟩:=x
       obtain⟨g,cap,kv,kx⟩:=row_sv HBK.out.w.r1 hx
       dsimp only at kv kx
       subst kv
       have hbc:=HBK.out.blk.cell
       dsimp only at hbc
       have iI:(i:Int)<(ec.length:Int):=by omega
       have hwi:wrap64 ((i:Int)+1)=(i:Int)+1:=by unfold wrap64;omega
       have hwm:wrap64 (-10-(i:Int)) = -10-(i:Int):=by unfold wrap64;omega
       have HMX:=hide (HM.out.2.2 i _ hlt hx)
       have HOX:=hide (HBK.out.w.own i _ hx)
       dsimp only at HMX HOX
       have HXM:=hide (own_max HOX.out)
       have HLT:=hide hlt;have HWI:=hide hwi
       clear hx hlt hi hlc hwi
       go_wp2_with fail
       go_loopw [8] (fun jv wr=>∃j:Nat,j≤xn∧jv=I (j:Int)∧wr=w) (fun jv _=>xn-(RowKit.intOf jv).toNat)
       case atStart=>exact⟨0,Nat.zero_le _,rfl,rfl⟩
       case round=>
        obtain⟨j,hj,rfl,hwr⟩:=hrel
        subst wr
        have hxm:=HXM.out
        unfold maxLen at hxm
        by_cases hjl:j<xn
        ·obtain⟨gx,hgx,kc⟩:=mark_at HOX.out HMX.out (mW_len i) hjl
         subst hgx
         have d0:w.cell? ⟨gx,j*5,none⟩=some (I (-10-(i:Int))):=kc 0 (by decide)
         have d1:w.cell? ⟨gx,j*5+1,none⟩=some (I 0):=kc 1 (by decide)
         have d2:w.cell? ⟨gx,j*5+2,none⟩=some (I 0):=kc 2 (by decide)
         have d3:w.cell? ⟨gx,j*5+3,none⟩=some (.string ByteArray.empty):=kc 3 (by decide)
         have d4:w.cell? ⟨gx,j*5+4,none⟩=some (I 0):=kc 4 (by decide)
         have jI:(j:Int)<(xn:Int):=by omega
         have hwj:wrap64 ((j:Int)+1)=(j:Int)+1:=by unfold wrap64;omega
         have HWJ:=hide hwj;have HJL:=hide hjl
         clear kc hxm hj hwj hjl
         go_wp2_with fail
         exact⟨⟨j+1,HJL.out,by rw[HWJ.out];exact lrl j,trivial⟩,by rw[HWJ.out];exact lms HJL.out⟩
        ·have jI:¬(j:Int)<(xn:Int):=by omega
         clear hxm hj hjl
         go_wp2_with fail
         exact⟨⟨i+1,HLT.out,by rw[HWI.out];exact lrl i,trivial⟩,by rw[HWI.out];exact lms HLT.out⟩
      ·have iI:¬(i:Int)<(ec.length:Int):=by omega
       have hbc:=HBK.out.blk.cell
       dsimp only at hbc
       clear hi hlt hlc
       go_wp2_with fail
       go_ret
       exact⟨rfl,rfl⟩
end
section
open Go.RowKit
structure Sk(q q':Kst):Prop where
 v:q'.v=q.v
 u:q'.u=q.u
 e:q'.es=q.es
 w:q'.ws=q.ws
theorem Sk.refl(q:Kst):Sk q q:=⟨rfl,rfl,rfl,rfl⟩
theorem Sk.at{q q':Kst}(h:Sk q q'){b:Nat}:q'.At b↔q.At b:=by unfold Kst.At;rw[h.v,h.u,h.e]
theorem M1.sk{w:World}{lo ty ts k:Nat}{mk:Nat→List Value}{q0 q:Kst}{i j:Nat}(h:M1 w lo ty ts k mk q0 q i j):Sk q0 q:=⟨h.ev,h.eu,h.ee,h.ew⟩
theorem M1.of{w:World}{lo ty ts k:Nat}{mk:Nat→List Value}{q0 q:Kst}{i j:Nat}(h:M1 w lo ty ts k mk q0 q i j){q1:Kst}(hs:Sk q1 q0):M1 w lo ty ts k mk q1 q i j:=⟨h.kc,h.ev.trans hs.v,h.eu.trans hs.u,h.ee.trans hs.e,h.ew.trans hs.w,h.mkd,h.now⟩
theorem BB.same{bb:Nat}{a b c a' b' c':Kst}(ha:Sk a a')(hb:Sk b b')(hc:Sk c c'){k:Nat}:BB bb a' b' c' k↔BB bb a b c k:=by unfold BB;rw[ha.at,hb.at,hc.at]
section
variable {lo:Nat} {w w':World} {bb n1 n2 n3 g:Nat} {a b c a' b' c':Kst}
theorem BK.head{m1 m2 m3:Nat}(h:BK lo w bb a b c n1 n2 n3)(k:Chg (fun x=>x=bb) w w')(hb:Blk w' bb 31 [a.v,a.u,b.v,b.u,c.v,c.u,I m1,I m2,I m3]):BK lo w' bb a b c m1 m2 m3:=by
 refine⟨hb,h.i.off k (fun x e _=>?_),h.h.off k (fun x e _=>?_),h.w.off k (fun x e _=>?_)⟩<;>(subst e;exact⟨_,h.blk.ty,by decide,by decide⟩)
theorem BK.lista(h:BK lo w bb a b c n1 n2 n3)(hs:Sk a a')(hk:Kc w' lo 3 42 1 a')(k:Chg (fun x=>x=g) w w')(ht:HasTy w g 3):BK lo w' bb a' b c n1 n2 n3:=by
 refine⟨?_,hk,h.h.off k (fun x e _=>(by subst e;exact⟨_,ht,by decide,by decide⟩)),h.w.off k (fun x e _=>(by subst e;exact⟨_,ht,by decide,by decide⟩))⟩
 rw[hs.v,hs.u]
 exact h.blk.chg k (fun e=>by subst e;exact absurd (ht.one h.blk.ty) (by decide))
theorem BK.listb(h:BK lo w bb a b c n1 n2 n3)(hs:Sk b b')(hk:Kc w' lo 68 91 2 b')(k:Chg (fun x=>x=g) w w')(ht:HasTy w g 68):BK lo w' bb a b' c n1 n2 n3:=by
 refine⟨?_,h.i.off k (fun x e _=>(by subst e;exact⟨_,ht,by decide,by decide⟩)),hk,h.w.off k (fun x e _=>(by subst e;exact⟨_,ht,by decide,by decide⟩))⟩
 rw[hs.v,hs.u]
 exact h.blk.chg k (fun e=>by subst e;exact absurd (ht.one h.blk.ty) (by decide))
theorem BK.listc(h:BK lo w bb a b c n1 n2 n3)(hs:Sk c c')(hk:Kc w' lo 101 95 5 c')(k:Chg (fun x=>x=g) w w')(ht:HasTy w g 101):BK lo w' bb a b c' n1 n2 n3:=by
 refine⟨?_,h.i.off k (fun x e _=>(by subst e;exact⟨_,ht,by decide,by decide⟩)),h.h.off k (fun x e _=>(by subst e;exact⟨_,ht,by decide,by decide⟩)),hk⟩
 rw[hs.v,hs.u]
 exact h.blk.chg k (fun e=>by subst e;exact absurd (ht.one h.blk.ty) (by decide))
end
def Gra(lo:Nat)(w2 wr:World)(bb:Nat)(a b c:Kst)(n1 n2 n3 i:Nat)(x:SV)(j:Nat)(v:Value):Prop:=∃(xa:Option Addr) (xc:Nat) (zs:List Value),v=.slice xa (x.2.1+j) xc∧wr.ownsRow lo 3 1 (.slice xa (x.2.1+j) xc) (x.2.1+j) (a.C i++zs)∧((xa=x.1∧xc=x.2.2)∨∀b,v.ownBlock=some b→w2.heap.size≤b)∧BK lo wr bb a b c n1 n2 n3∧Chg (BB bb a b c) w2 wr
theorem Gra.step{lo:Nat}{w2 wr:World}{bb n1 n2 n3 i j:Nat}{a b c:Kst}{x:SV}{v:Value}(hlo:lo≤w2.heap.size)(h2:∀k,BB bb a b c k→k<w2.heap.size)(hx:a.es[i]?=some x)(hb:x.2.1<4100000000000)(hj:j<64)(h:Gra lo w2 wr bb a b c n1 n2 n3 i x j v) :
  ∃v' w',(Builtin.append_ #[42,42] 42 #[v,.slice (some ⟨wr.heap.size,0,none⟩) 1 1]).run prog (wr.alloc (.cells #[I (-5)] 3))=.ok v' w'∧Gra lo w2 w' bb a b c n1 n2 n3 i x (j+1) v':=by
 obtain⟨xa,xc,zs,rfl,hr,hf,hB,hC⟩:=h
 obtain⟨i0,hi0,hz0,hz1,hz2⟩:=info_parts (show(prog.info? 3).map (fun i=>(i.zero,i.size,i.bytes))=some (some (.int .i64 0),1,8)from by kernel_rfl)
 have hmx:(4200000000000:Nat)≤maxLen:=of_decide_eq_true (by kernel_rfl)
 have gA:G wr (wr.alloc (.cells #[I (-5)] 3)):=(G.refl wr).alloc _
 have hnb:=Blk.new wr [I (-5)] 3
 obtain⟨v',w',q1,q2,q3⟩:=app_keep (P:=prog) (wr.alloc (.cells #[I (-5)] 3)) lo 42 42 3 i0 _ 1 8 underlying42 hi0 hz0 hz1 hz2 rfl (by decide) (.slice xa (x.2.1+j) xc) _ _ (own_G hr gA) ⟨wr.heap.size,0,none⟩ 1 [I (-5)] rfl (fun o u hu=>by
  have:=hnb.cell o
  rw[hu] at this
  rw[Addr.add_mid,Nat.zero_add];exact this) (fun u hu=>by simp at hu;rcases hu with rfl<;>rfl) (by omega) (by omega) (Nat.le_trans hlo (Nat.le_trans hC.size gA.size))
 have hBA:=hB.G gA
 have hsz:w2.heap.size≤(wr.alloc (.cells #[I (-5)] 3)).heap.size:=Nat.le_trans hC.size gA.size
 refine⟨v',w',q1,?_⟩
 obtain⟨y,rfl,hy⟩:=own_sv q2
 obtain⟨ya,yn,yc⟩:=y
 have hy:yn=x.2.1+j+1:=hy
 subst hy
 refine⟨ya,yc,zs++[I (-5)],rfl,by rw[←List.append_assoc];exact q2,?_⟩
 rcases q3 with ⟨g,cap,e1,e2,c3⟩|⟨c1,c2⟩
 ·unfold sv at e2
  cases e1
  cases e2
  rcases hf with ⟨e3,e4⟩|hf
  ·obtain⟨xa',xn',xc'⟩:=x
   dsimp only at e3 e4 hx hb q2 hr
   subst e3 e4
   refine⟨.inl ⟨rfl,rfl⟩,?_,?_⟩
   ·have hown:w'.ownsRow lo 3 1 (sv (some ⟨g,0,none⟩,xn',yc)) xn' (a.C i):=by
     obtain⟨g',cap',rest,e5,k1,k2,k3,k4,k5⟩:=own_blk2 q2 (by omega)
     cases e5
     rw[List.append_assoc,List.append_assoc] at k1 k5
     exact own_of (n:=xn') k1 (hBA.i.own i _ hx).1 k2 (Nat.le_trans (Nat.le_trans (Nat.le_add_right xn' j) (Nat.le_succ _)) k3) k4 k5
    have hch:Chg (fun b=>(sv (some ⟨g,0,none⟩,xn',yc)).ownBlock=some b) (wr.alloc (.cells #[I (-5)] 3)) w':=c3.mono (fun b e=>by rw[e];rfl)
    have hk:=hBA.i.put (by decide) hx hch hown
    have hfun:(fun t=>if t=i then a.C i else a.C t)=a.C:=by funext t;split<;>rename_i e<;>simp[e]
    rw[hfun] at hk
    exact hBA.lista (Sk.refl a) hk c3 (own_ty (hBA.i.own i _ hx) rfl)
   ·refine(hC.trans gA.chg).more c3 (fun b _ e=>?_)
    exact .inr (.inl (.inr (.inr ⟨_,List.mem_of_getElem? hx,by rw[e];rfl⟩)))
  ·have hg:w2.heap.size≤g:=hf g rfl
   refine⟨.inr (fun b e=>?_),hBA.chg c3 (fun b hb2 e=>by have:=h2 b hb2;omega),(hC.trans gA.chg).more c3 (fun b hb2 e=>by omega)⟩
   have:g=b:=by simpa [sv,Value.ownBlock] using e
   omega
 ·exact⟨.inr (fun b e=>Nat.le_trans hsz (c1 b e)),hBA.G c2,(hC.trans gA.chg).trans c2.chg⟩
def Grb(lo:Nat)(w2 wr:World)(bb:Nat)(a b c:Kst)(n1 n2 n3 i:Nat)(x:SV)(j:Nat)(v:Value):Prop:=∃(xa:Option Addr) (xc:Nat) (zs:List Value),v=.slice xa (x.2.1+j) xc∧wr.ownsRow lo 68 2 (.slice xa (x.2.1+j) xc) (x.2.1+j) (b.C i++zs)∧((xa=x.1∧xc=x.2.2)∨∀b,v.ownBlock=some b→w2.heap.size≤b)∧BK lo wr bb a b c n1 n2 n3∧Chg (BB bb a b c) w2 wr
theorem Grb.step{lo:Nat}{w2 wr:World}{bb n1 n2 n3 i j:Nat}{a b c:Kst}{x:SV}{v:Value}(hlo:lo≤w2.heap.size)(h2:∀k,BB bb a b c k→k<w2.heap.size)(hx:b.es[i]?=some x)(hb:x.2.1<4100000000000)(hj:j<64)(h:Grb lo w2 wr bb a b c n1 n2 n3 i x j v) :
  ∃v' w',(Builtin.append_ #[91,91] 91 #[v,.slice (some ⟨wr.heap.size,0,none⟩) 1 1]).run prog (wr.alloc (.cells #[I (-5),I 0] 68))=.ok v' w'∧Grb lo w2 w' bb a b c n1 n2 n3 i x (j+1) v':=by
 obtain⟨xa,xc,zs,rfl,hr,hf,hB,hC⟩:=h
 obtain⟨i0,hi0,hz0,hz1,hz2⟩:=info_parts (show(prog.info? 68).map (fun i=>(i.zero,i.size,i.bytes))=some (some (.agg #[.int .i64 0,.int .i64 0]),2,16)from by kernel_rfl)
 have hmx:(4200000000000:Nat)≤maxLen:=of_decide_eq_true (by kernel_rfl)
 have gA:G wr (wr.alloc (.cells #[I (-5),I 0] 68)):=(G.refl wr).alloc _
 have hnb:=Blk.new wr [I (-5),I 0] 68
 obtain⟨v',w',q1,q2,q3⟩:=app_keep (P:=prog) (wr.alloc (.cells #[I (-5),I 0] 68)) lo 91 91 68 i0 _ 2 16 underlying91 hi0 hz0 hz1 hz2 rfl (by decide) (.slice xa (x.2.1+j) xc) _ _ (own_G hr gA) ⟨wr.heap.size,0,none⟩ 1 [I (-5),I 0] rfl (fun o u hu=>by
  have:=hnb.cell o
  rw[hu] at this
  rw[Addr.add_mid,Nat.zero_add];exact this) (fun u hu=>by simp at hu;rcases hu with rfl|rfl<;>rfl) (by omega) (by omega) (Nat.le_trans hlo (Nat.le_trans hC.size gA.size))
 have hBA:=hB.G gA
 have hsz:w2.heap.size≤(wr.alloc (.cells #[I (-5),I 0] 68)).heap.size:=Nat.le_trans hC.size gA.size
 refine⟨v',w',q1,?_⟩
 obtain⟨y,rfl,hy⟩:=own_sv q2
 obtain⟨ya,yn,yc⟩:=y
 have hy:yn=x.2.1+j+1:=hy
 subst hy
 refine⟨ya,yc,zs++[I (-5),I 0],rfl,by rw[←List.append_assoc];exact q2,?_⟩
 rcases q3 with ⟨g,cap,e1,e2,c3⟩|⟨c1,c2⟩
 ·unfold sv at e2
  cases e1
  cases e2
  rcases hf with ⟨e3,e4⟩|hf
  ·obtain⟨xa',xn',xc'⟩:=x
   dsimp only at e3 e4 hx hb q2 hr
   subst e3 e4
   refine⟨.inl ⟨rfl,rfl⟩,?_,?_⟩
   ·have hown:w'.ownsRow lo 68 2 (sv (some ⟨g,0,none⟩,xn',yc)) xn' (b.C i):=by
     obtain⟨g',cap',rest,e5,k1,k2,k3,k4,k5⟩:=own_blk2 q2 (by omega)
     cases e5
     rw[List.append_assoc,List.append_assoc] at k1 k5
     exact own_of (n:=xn') k1 (hBA.h.own i _ hx).1 k2 (Nat.le_trans (Nat.le_trans (Nat.le_add_right xn' j) (Nat.le_succ _)) k3) k4 k5
    have hch:Chg (fun b=>(sv (some ⟨g,0,none⟩,xn',yc)).ownBlock=some b) (wr.alloc (.cells #[I (-5),I 0] 68)) w':=c3.mono (fun b e=>by rw[e];rfl)
    have hk:=hBA.h.put (by decide) hx hch hown
    have hfun:(fun t=>if t=i then b.C i else b.C t)=b.C:=by funext t;split<;>rename_i e<;>simp[e]
    rw[hfun] at hk
    exact hBA.listb (Sk.refl b) hk c3 (own_ty (hBA.h.own i _ hx) rfl)
   ·refine(hC.trans gA.chg).more c3 (fun b _ e=>?_)
    exact .inr (.inr (.inl (.inr (.inr ⟨_,List.mem_of_getElem? hx,by rw[e];rfl⟩))))
  ·have hg:w2.heap.size≤g:=hf g rfl
   refine⟨.inr (fun b e=>?_),hBA.chg c3 (fun b hb2 e=>by have:=h2 b hb2;omega),(hC.trans gA.chg).more c3 (fun b hb2 e=>by omega)⟩
   have:g=b:=by simpa [sv,Value.ownBlock] using e
   omega
 ·exact⟨.inr (fun b e=>Nat.le_trans hsz (c1 b e)),hBA.G c2,(hC.trans gA.chg).trans c2.chg⟩
def Grc(lo:Nat)(w2 wr:World)(bb:Nat)(a b c:Kst)(n1 n2 n3 i:Nat)(x:SV)(j:Nat)(v:Value):Prop:=∃(xa:Option Addr) (xc:Nat) (zs:List Value),v=.slice xa (x.2.1+j) xc∧wr.ownsRow lo 101 5 (.slice xa (x.2.1+j) xc) (x.2.1+j) (c.C i++zs)∧((xa=x.1∧xc=x.2.2)∨∀b,v.ownBlock=some b→w2.heap.size≤b)∧BK lo wr bb a b c n1 n2 n3∧Chg (BB bb a b c) w2 wr
theorem Grc.step{lo:Nat}{w2 wr:World}{bb n1 n2 n3 i j:Nat}{a b c:Kst}{x:SV}{v:Value}(hlo:lo≤w2.heap.size)(h2:∀k,BB bb a b c k→k<w2.heap.size)(hx:c.es[i]?=some x)(hb:x.2.1<2000000000000)(hj:j<64)(h:Grc lo w2 wr bb a b c n1 n2 n3 i x j v) :
  ∃v' w',(Builtin.append_ #[95,95] 95 #[v,.slice (some ⟨wr.heap.size,0,none⟩) 1 1]).run prog (wr.alloc (.cells #[I (-5),I 0,I 0,.string ByteArray.empty,I 0] 101))=.ok v' w'∧Grc lo w2 w' bb a b c n1 n2 n3 i x (j+1) v':=by
 obtain⟨xa,xc,zs,rfl,hr,hf,hB,hC⟩:=h
 obtain⟨i0,hi0,hz0,hz1,hz2⟩:=info_parts (show(prog.info? 101).map (fun i=>(i.zero,i.size,i.bytes))=some (some (.agg #[.int .i64 0,.int .i64 0,.int .i64 0,.string ByteArray.empty,.int .i64 0]),5,48)from by kernel_rfl)
 have hmx:(4200000000000:Nat)≤maxLen:=of_decide_eq_true (by kernel_rfl)
 have gA:G wr (wr.alloc (.cells #[I (-5),I 0,I 0,.string ByteArray.empty,I 0] 101)):=(G.refl wr).alloc _
 have hnb:=Blk.new wr [I (-5),I 0,I 0,.string ByteArray.empty,I 0] 101
 obtain⟨v',w',q1,q2,q3⟩:=app_keep (P:=prog) (wr.alloc (.cells #[I (-5),I 0,I 0,.string ByteArray.empty,I 0] 101)) lo 95 95 101 i0 _ 5 48 underlying95 hi0 hz0 hz1 hz2 rfl (by decide) (.slice xa (x.2.1+j) xc) _ _ (own_G hr gA) ⟨wr.heap.size,0,none⟩ 1 [I (-5),I 0,I 0,.string ByteArray.empty,I 0] rfl (fun o u hu=>by
  have:=hnb.cell o
  rw[hu] at this
  rw[Addr.add_mid,Nat.zero_add];exact this) (fun u hu=>by simp at hu;rcases hu with rfl|rfl|rfl|rfl|rfl<;>rfl) (by omega) (by omega) (Nat.le_trans hlo (Nat.le_trans hC.size gA.size))
 have hBA:=hB.G gA
 have hsz:w2.heap.size≤(wr.alloc (.cells #[I (-5),I 0,I 0,.string ByteArray.empty,I 0] 101)).heap.size:=Nat.le_trans hC.size gA.size
 refine⟨v',w',q1,?_⟩
 obtain⟨y,rfl,hy⟩:=own_sv q2
 obtain⟨ya,yn,yc⟩:=y
 have hy:yn=x.2.1+j+1:=hy
 subst hy
 refine⟨ya,yc,zs++[I (-5),I 0,I 0,.string ByteArray.empty,I 0],rfl,by rw[←List.append_assoc];exact q2,?_⟩
 rcases q3 with ⟨g,cap,e1,e2,c3⟩|⟨c1,c2⟩
 ·unfold sv at e2
  cases e1
  cases e2
  rcases hf with ⟨e3,e4⟩|hf
  ·obtain⟨xa',xn',xc'⟩:=x
   dsimp only at e3 e4 hx hb q2 hr
   subst e3 e4
   refine⟨.inl ⟨rfl,rfl⟩,?_,?_⟩
   ·have hown:w'.ownsRow lo 101 5 (sv (some ⟨g,0,none⟩,xn',yc)) xn' (c.C i):=by
     obtain⟨g',cap',rest,e5,k1,k2,k3,k4,k5⟩:=own_blk2 q2 (by omega)
     cases e5
     rw[List.append_assoc,List.append_assoc] at k1 k5
     exact own_of (n:=xn') k1 (hBA.w.own i _ hx).1 k2 (Nat.le_trans (Nat.le_trans (Nat.le_add_right xn' j) (Nat.le_succ _)) k3) k4 k5
    have hch:Chg (fun b=>(sv (some ⟨g,0,none⟩,xn',yc)).ownBlock=some b) (wr.alloc (.cells #[I (-5),I 0,I 0,.string ByteArray.empty,I 0] 101)) w':=c3.mono (fun b e=>by rw[e];rfl)
    have hk:=hBA.w.put (by decide) hx hch hown
    have hfun:(fun t=>if t=i then c.C i else c.C t)=c.C:=by funext t;split<;>rename_i e<;>simp[e]
    rw[hfun] at hk
    exact hBA.listc (Sk.refl c) hk c3 (own_ty (hBA.w.own i _ hx) rfl)
   ·refine(hC.trans gA.chg).more c3 (fun b _ e=>?_)
    exact .inr (.inr (.inr (.inr (.inr ⟨_,List.mem_of_getElem? hx,by rw[e];rfl⟩))))
  ·have hg:w2.heap.size≤g:=hf g rfl
   refine⟨.inr (fun b e=>?_),hBA.chg c3 (fun b hb2 e=>by have:=h2 b hb2;omega),(hC.trans gA.chg).more c3 (fun b hb2 e=>by omega)⟩
   have:g=b:=by simpa [sv,Value.ownBlock] using e
   omega
 ·exact⟨.inr (fun b e=>Nat.le_trans hsz (c1 b e)),hBA.G c2,(hC.trans gA.chg).trans c2.chg⟩
end
end Go.Proofs.YtadfaiciolfgjaaGreatDoor
