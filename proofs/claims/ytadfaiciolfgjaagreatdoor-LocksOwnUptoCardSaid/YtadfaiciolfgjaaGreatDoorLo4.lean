import Derived.Test.YtadfaiciolfgjaaGreatDoorLo3
namespace Go.Proofs.YtadfaiciolfgjaaGreatDoor
open Go.Proofs.Tryz
set_option maxHeartbeats 8000000
set_option maxRecDepth 100000
section
open Go.RowKit
theorem Sk.two{q q1 q2:Kst}(h:Sk q q1)(k:Sk q q2):Sk q1 q2:=⟨k.v.trans h.v.symm,k.u.trans h.u.symm,k.e.trans h.e.symm,k.w.trans h.w.symm⟩
theorem szb:(prog.info? 68).map (·.size)=some 2:=by kernel_rfl
theorem szc:(prog.info? 101).map (·.size)=some 5:=by kernel_rfl
theorem alb(x:Int):(#[I x,I 0]:Array Value).all (·.oneCell')=true:=all_oneCell_toArray (cs:=[I x,I 0]) (fun v hv=>by simp at hv;rcases hv with rfl|rfl<;>rfl)
theorem alc(x:Int):(#[I x,I 0,I 0,.string ByteArray.empty,I 0]:Array Value).all (·.oneCell')=true:=all_oneCell_toArray (cs:=[I x,I 0,I 0,.string ByteArray.empty,I 0]) (fun v hv=>by simp at hv;rcases hv with rfl|rfl|rfl|rfl<;>rfl)
def ClP(lo:Nat)(w:World)(bb:Nat)(a b c:Kst)(w':World):Prop:=∃a' b' c',Sk a a'∧Sk b b'∧Sk c c'∧BK lo w' bb a' b' c' a.es.length b.es.length c.es.length∧(Mk mI a' a.es.length∧Mk mH b' b.es.length∧Mk mW c' c.es.length)∧Chg (BB bb a b c) w w'
theorem close_fin{lo:Nat}{w W:World}{bb n1 n2 n3:Nat}{a b c a1 b1 c1:Kst}(h:BK lo W bb a1 b1 c1 n1 n2 n3)(sa:Sk a a1)(sb:Sk b b1)(sc:Sk c c1)(hm:Mk mI a1 a.es.length∧Mk mH b1 b.es.length∧Mk mW c1 c.es.length)(hc:Chg (BB bb a b c) w W):ClP lo w bb a b c (((W.setCell ⟨bb,6,none⟩ (I a.es.length)).setCell ⟨bb,7,none⟩ (I b.es.length)).setCell ⟨bb,8,none⟩ (I c.es.length)):=by
 have e1:Chg (fun x=>x=bb) W (W.setCell ⟨bb,6,none⟩ (I a.es.length)):=chg_setCell W _ (.inl rfl)
 have e2:Chg (fun x=>x=bb) (W.setCell ⟨bb,6,none⟩ (I a.es.length)) ((W.setCell ⟨bb,6,none⟩ (I a.es.length)).setCell ⟨bb,7,none⟩ (I b.es.length)):=chg_setCell _ _ (.inl rfl)
 have e3:Chg (fun x=>x=bb) ((W.setCell ⟨bb,6,none⟩ (I a.es.length)).setCell ⟨bb,7,none⟩ (I b.es.length)) (((W.setCell ⟨bb,6,none⟩ (I a.es.length)).setCell ⟨bb,7,none⟩ (I b.es.length)).setCell ⟨bb,8,none⟩ (I c.es.length)):=chg_setCell _ _ (.inl rfl)
 have hc6:=(e1.trans e2).trans e3
 exact⟨a1,b1,c1,sa,sb,sc,h.head hc6 (((h.blk.set 6 (I a.es.length)).set 7 (I b.es.length)).set 8 (I c.es.length)),hm,hc.more hc6 (fun _ _ e=>.inl e)⟩
theorem close_any{lo:Nat}{w:World}{bb n1 n2 n3:Nat}{a b c:Kst}(h:BK lo w bb a b c n1 n2 n3)(hlo:lo≤w.heap.size)(hn:n1≤a.es.length∧n2≤b.es.length∧n3≤c.es.length)(hl:a.es.length<1000000000∧b.es.length<1000000000∧c.es.length<1000000000)(hm:Mk mI a n1∧Mk mH b n2∧Mk mW c n3)
  (hbd:(∀(i:Nat) (x:SV),n1≤i→a.es[i]?=some x→x.2.1<4100000000000)∧(∀(i:Nat) (x:SV),n2≤i→b.es[i]?=some x→x.2.1<4100000000000)∧(∀(i:Nat) (x:SV),n3≤i→c.es[i]?=some x→x.2.1<2000000000000)):Calls prog 13 #[ptr bb] w fun e w'=>e=.returned (.tuple #[])∧ClP lo w bb a b c w':=by
 have HBK:=hide h;have HN:=hide hn;have HL:=hide hl;have HM:=hide hm;have HBD:=hide hbd;have HLO:=hide hlo
 have HC:Hid (Chg (BB bb a b c) w w):=Chg.refl _ _
 clear h hn hl hm hbd hlo
 go_enter func13,ntmps13
 have hbc:=HBK.out.blk.cell
 go_wp2_with fail
 clear hbc
 go_loopw [2] (fun iv wr=>∃(i:Nat) (q:Kst),n1≤i∧i≤a.es.length∧iv=I (i:Int)∧M1 wr lo 3 42 1 mI a q i 0∧BK lo wr bb q b c n1 n2 n3∧Chg (BB bb a b c) w wr) (fun iv _=>a.es.length-(RowKit.intOf iv).toNat)
 case atStart=>exact⟨n1,a,Nat.le_refl _,HN.out.1,rfl,M1.zero HBK.out.i HM.out.1,HBK.out,HC.out⟩
 case round=>
  clear HBK HC
  obtain⟨i,a1,hni,hi,rfl,hM1,hBK,hCh⟩:=hrel
  have hll:=HL.out.1
  by_cases hlt:i<a.es.length
  ·obtain⟨x,hx⟩:∃x,a.es[i]?=some x:=⟨_,List.getElem?_eq_getElem hlt⟩
   obtain⟨xa,xn,xc⟩:=x
   have hxq:a1.es[i]?=some (xa,xn,xc):=by rw[hM1.ee];exact hx
   obtain⟨g,cap,kv,kx⟩:=row_sv hM1.kc.r1 hxq
   rw[hM1.ee] at kv
   dsimp only at kx
   have hbc:=hBK.blk.cell
   rw[kv] at hbc
   have iI:(i:Int)<(a.es.length:Int):=by omega
   have hwi:wrap64 ((i:Int)+1)=(i:Int)+1:=by unfold wrap64;omega
   have hwm:wrap64 (-10-(i:Int)) = -10-(i:Int):=by unfold wrap64;omega
   have HXM:=hide (own_max (hM1.kc.own i _ hxq))
   dsimp only at HXM
   have HM1:=hide hM1;have HBQ:=hide hBK;have HCH:=hide hCh;have HX:=hide hx;have HLT:=hide hlt;have HWI:=hide hwi;have HNI:=hide hni;have HKV:=hide kv
   clear hM1 hBK hCh hx hxq hlt hi hll hwi hni kv
   go_wp2_with fail
   clear hbc kx
   go_loopw [3] (fun jv wr=>∃(j:Nat) (q:Kst),j≤xn∧jv=I (j:Int)∧M1 wr lo 3 42 1 mI a q i j∧BK lo wr bb q b c n1 n2 n3∧Chg (BB bb a b c) w wr) (fun jv _=>xn-(RowKit.intOf jv).toNat)
   case atStart=>exact⟨0,_,Nat.zero_le _,rfl,HM1.out,HBQ.out,HCH.out⟩
   case round=>
    clear HM1 HBQ HCH
    obtain⟨j,q,hj,rfl,hM1,hBK,hCh⟩:=hrel
    have hxq:q.es[i]?=some (xa,xn,xc):=by rw[hM1.ee];exact HX.out
    obtain⟨g,cap,kv,kx⟩:=row_sv hM1.kc.r1 hxq
    rw[hM1.ee] at kv
    dsimp only at kx
    have hbc:=hBK.blk.cell
    rw[kv] at hbc
    have hxm:=HXM.out
    unfold maxLen at hxm
    by_cases hjl:j<xn
    ·have hown:=hM1.kc.own i _ hxq
     dsimp only at hown
     obtain⟨gx,xcap,rest,hsv,-⟩:=own_blk2 hown (by omega)
     unfold sv at hsv hown
     cases hsv
     dsimp only at hown
     obtain⟨q2,h2a,-,h2c⟩:=hM1.put (by decide) mI_len hxq hjl rfl
     have hBK2:=hBK.lista (hM1.sk.two h2a.sk) h2a.kc h2c (own_ty (b:=gx) hown rfl)
     have hch2:=hCh.more h2c (fun b _ e=>.inr (.inl (.inr (.inr ⟨_,List.mem_of_getElem? HX.out,by rw[e];rfl⟩))))
     have hfz:wr.frozen? ⟨gx,j,none⟩=false:=(own_there hown (by omega) j 1 (by rw[hown.1];omega) 0 (by omega)).2
     have hcl:∃u,wr.cell? ⟨gx,j,none⟩=some u:=Option.isSome_iff_exists.1 (own_there hown (by omega) j 1 (by rw[hown.1];omega) 0 (by omega)).1
     obtain⟨u0,hcl⟩:=hcl
     have hsc:wr.setCells gx (j*1) (mI i)=wr.setCell ⟨gx,j,none⟩ (I (-10-(i:Int))):=by rw[Nat.mul_one];rfl
     rw[hsc] at h2a hBK2 hch2
     clear hsc
     have jI:(j:Int)<(xn:Int):=by omega
     have hwj:wrap64 ((j:Int)+1)=(j:Int)+1:=by unfold wrap64;omega
     have HWJ:=hide hwj;have HJL:=hide hjl;have H2A:=hide h2a;have HB2:=hide hBK2;have HC2:=hide hch2
     clear hxm hj hwj hjl hM1 hBK hCh hxq h2a hBK2 hch2 h2c hown kv
     go_wp2_with fail
     exact⟨⟨j+1,q2,HJL.out,by rw[HWJ.out];exact lrl j,H2A.out,HB2.out,HC2.out⟩,by rw[HWJ.out];exact lms HJL.out⟩
    ·have jI:¬(j:Int)<(xn:Int):=by omega
     have HNX:=hide (hM1.next hxq (show j=xn by omega));have HBQ:=hide hBK;have HCH:=hide hCh
     clear hxm hj hjl hM1 hBK hCh hxq kv
     go_wp2_with fail
     exact⟨⟨i+1,q,Nat.le_succ_of_le HNI.out,HLT.out,by rw[HWI.out];exact lrl i,HNX.out,HBQ.out,HCH.out⟩,by rw[HWI.out];exact lms HLT.out⟩
  ·have iI:¬(i:Int)<(a.es.length:Int):=by omega
   have hie:i=a.es.length:=by omega
   subst hie
   obtain⟨u1,hu1⟩:∃u1,u1=wr:=⟨_,rfl⟩
   subst wr
   have HKa:Hid (Mk mI a1 a.es.length):=hM1.mkd
   have HSa:=hide hM1.sk
   have HBK:=hide hBK;have HC:=hide hCh
   have HLEa:=hide hM1.ee
   have hva:∃va ca,a1.v=.slice va a.es.length ca:=by
    obtain⟨y,h1,h2⟩:=own_sv hM1.kc.r1
    exact⟨y.1,y.2.2,by rw[h1,←hM1.ee,←h2];rfl⟩
   obtain⟨vaa,caa,hva⟩:=hva
   have HVa:=hide hva
   have hbc:=hBK.blk.cell
   rw[hva] at hbc
   clear hM1 hBK hCh hi hlt hll hni hva
   have hbc0:=hbc
   go_wp2_with fail
   clear hbc0
   clear hbc
   go_loopw [4] (fun iv wr=>∃(i:Nat) (q:Kst),n2≤i∧i≤b.es.length∧iv=I (i:Int)∧M1 wr lo 68 91 2 mH b q i 0∧BK lo wr bb a1 q c n1 n2 n3∧Chg (BB bb a b c) w wr) (fun iv _=>b.es.length-(RowKit.intOf iv).toNat)
   case atStart=>exact⟨n2,b,Nat.le_refl _,HN.out.2.1,rfl,M1.zero HBK.out.h HM.out.2.1,HBK.out,HC.out⟩
   case round=>
    clear HBK HC
    obtain⟨i,b1,hni,hi,rfl,hM1,hBK,hCh⟩:=hrel
    have hll:=HL.out.2.1
    by_cases hlt:i<b.es.length
    ·obtain⟨x,hx⟩:∃x,b.es[i]?=some x:=⟨_,List.getElem?_eq_getElem hlt⟩
     obtain⟨xa,xn,xc⟩:=x
     have hxq:b1.es[i]?=some (xa,xn,xc):=by rw[hM1.ee];exact hx
     obtain⟨g,cap,kv,kx⟩:=row_sv hM1.kc.r1 hxq
     rw[hM1.ee] at kv
     dsimp only at kx
     have hbc:=hBK.blk.cell
     rw[kv] at hbc
     have iI:(i:Int)<(b.es.length:Int):=by omega
     have hwi:wrap64 ((i:Int)+1)=(i:Int)+1:=by unfold wrap64;omega
     have hwm:wrap64 (-10-(i:Int)) = -10-(i:Int):=by unfold wrap64;omega
     have HXM:=hide (own_max (hM1.kc.own i _ hxq))
     dsimp only at HXM
     have HM1:=hide hM1;have HBQ:=hide hBK;have HCH:=hide hCh;have HX:=hide hx;have HLT:=hide hlt;have HWI:=hide hwi;have HNI:=hide hni;have HKV:=hide kv
     clear hM1 hBK hCh hx hxq hlt hi hll hwi hni kv
     go_wp2_with fail
     clear hbc kx
     go_loopw [5] (fun jv wr=>∃(j:Nat) (q:Kst),j≤xn∧jv=I (j:Int)∧M1 wr lo 68 91 2 mH b q i j∧BK lo wr bb a1 q c n1 n2 n3∧Chg (BB bb a b c) w wr) (fun jv _=>xn-(RowKit.intOf jv).toNat)
     case atStart=>exact⟨0,_,Nat.zero_le _,rfl,HM1.out,HBQ.out,HCH.out⟩
     case round=>
      clear HM1 HBQ HCH
      obtain⟨j,q,hj,rfl,hM1,hBK,hCh⟩:=hrel
      have hxq:q.es[i]?=some (xa,xn,xc):=by rw[hM1.ee];exact HX.out
      obtain⟨g,cap,kv,kx⟩:=row_sv hM1.kc.r1 hxq
      rw[hM1.ee] at kv
      dsimp only at kx
      have hbc:=hBK.blk.cell
      rw[kv] at hbc
      have hxm:=HXM.out
      unfold maxLen at hxm
      by_cases hjl:j<xn
      ·have hown:=hM1.kc.own i _ hxq
       dsimp only at hown
       obtain⟨gx,xcap,rest,hsv,-⟩:=own_blk2 hown (by omega)
       unfold sv at hsv hown
       cases hsv
       dsimp only at hown
       obtain⟨q2,h2a,-,h2c⟩:=hM1.put (by decide) mH_len hxq hjl rfl
       have hBK2:=hBK.listb (hM1.sk.two h2a.sk) h2a.kc h2c (own_ty (b:=gx) hown rfl)
       have hch2:=hCh.more h2c (fun b _ e=>.inr (.inr (.inl (.inr (.inr ⟨_,List.mem_of_getElem? HX.out,by rw[e];rfl⟩)))))
       have HTH:Hid (wr.there gx (j*2) (#[I (-10-(i:Int)),I 0]:Array Value).size):=own_there hown (by omega) (j*2) 2 (by rw[hown.1];omega)
       simp only[mH] at h2a hBK2 hch2
       have jI:(j:Int)<(xn:Int):=by omega
       have hwj:wrap64 ((j:Int)+1)=(j:Int)+1:=by unfold wrap64;omega
       have HWJ:=hide hwj;have HJL:=hide hjl;have H2A:=hide h2a;have HB2:=hide hBK2;have HC2:=hide hch2
       clear hxm hj hwj hjl hM1 hBK hCh hxq h2a hBK2 hch2 h2c hown kv
       go_wp2_with (first|refine wpList_store_mid rfl 68 _ _ rfl gx (j*2) #[I (-10-(i:Int)),I 0] rfl rfl HTH.out szb (alb _) ?_|fail)
       exact⟨⟨j+1,q2,HJL.out,by rw[HWJ.out];exact lrl j,H2A.out,HB2.out,HC2.out⟩,by rw[HWJ.out];exact lms HJL.out⟩
      ·have jI:¬(j:Int)<(xn:Int):=by omega
       have HNX:=hide (hM1.next hxq (show j=xn by omega));have HBQ:=hide hBK;have HCH:=hide hCh
       clear hxm hj hjl hM1 hBK hCh hxq kv
       go_wp2_with fail
       exact⟨⟨i+1,q,Nat.le_succ_of_le HNI.out,HLT.out,by rw[HWI.out];exact lrl i,HNX.out,HBQ.out,HCH.out⟩,by rw[HWI.out];exact lms HLT.out⟩
    ·have iI:¬(i:Int)<(b.es.length:Int):=by omega
     have hie:i=b.es.length:=by omega
     subst hie
     obtain⟨u2,hu2⟩:∃u2,u2=wr:=⟨_,rfl⟩
     subst wr
     have HKb:Hid (Mk mH b1 b.es.length):=hM1.mkd
     have HSb:=hide hM1.sk
     have HBK:=hide hBK;have HC:=hide hCh
     have HLEb:=hide hM1.ee
     have hvb:∃va ca,b1.v=.slice va b.es.length ca:=by
      obtain⟨y,h1,h2⟩:=own_sv hM1.kc.r1
      exact⟨y.1,y.2.2,by rw[h1,←hM1.ee,←h2];rfl⟩
     obtain⟨vab,cab,hva⟩:=hvb
     have HVb:=hide hva
     have hbc:=hBK.blk.cell
     rw[hva] at hbc
     clear hM1 hBK hCh hi hlt hll hni hva
     have hbc0:=hbc
     go_wp2_with fail
     clear hbc0
     clear hbc
     go_loopw [6] (fun iv wr=>∃(i:Nat) (q:Kst),n3≤i∧i≤c.es.length∧iv=I (i:Int)∧M1 wr lo 101 95 5 mW c q i 0∧BK lo wr bb a1 b1 q n1 n2 n3∧Chg (BB bb a b c) w wr) (fun iv _=>c.es.length-(RowKit.intOf iv).toNat)
     case atStart=>exact⟨n3,c,Nat.le_refl _,HN.out.2.2,rfl,M1.zero HBK.out.w HM.out.2.2,HBK.out,HC.out⟩
     case round=>
      clear HBK HC
      obtain⟨i,c1,hni,hi,rfl,hM1,hBK,hCh⟩:=hrel
      have hll:=HL.out.2.2
      by_cases hlt:i<c.es.length
      ·obtain⟨x,hx⟩:∃x,c.es[i]?=some x:=⟨_,List.getElem?_eq_getElem hlt⟩
       obtain⟨xa,xn,xc⟩:=x
       have hxq:c1.es[i]?=some (xa,xn,xc):=by rw[hM1.ee];exact hx
       obtain⟨g,cap,kv,kx⟩:=row_sv hM1.kc.r1 hxq
       rw[hM1.ee] at kv
       dsimp only at kx
       have hbc:=hBK.blk.cell
       rw[kv] at hbc
       have iI:(i:Int)<(c.es.length:Int):=by omega
       have hwi:wrap64 ((i:Int)+1)=(i:Int)+1:=by unfold wrap64;omega
       have hwm:wrap64 (-10-(i:Int)) = -10-(i:Int):=by unfold wrap64;omega
       have HXM:=hide (own_max (hM1.kc.own i _ hxq))
       dsimp only at HXM
       have HM1:=hide hM1;have HBQ:=hide hBK;have HCH:=hide hCh;have HX:=hide hx;have HLT:=hide hlt;have HWI:=hide hwi;have HNI:=hide hni;have HKV:=hide kv
       clear hM1 hBK hCh hx hxq hlt hi hll hwi hni kv
       go_wp2_with fail
       clear hbc kx
       go_loopw [7] (fun jv wr=>∃(j:Nat) (q:Kst),j≤xn∧jv=I (j:Int)∧M1 wr lo 101 95 5 mW c q i j∧BK lo wr bb a1 b1 q n1 n2 n3∧Chg (BB bb a b c) w wr) (fun jv _=>xn-(RowKit.intOf jv).toNat)
       case atStart=>exact⟨0,_,Nat.zero_le _,rfl,HM1.out,HBQ.out,HCH.out⟩
       case round=>
        clear HM1 HBQ HCH
        obtain⟨j,q,hj,rfl,hM1,hBK,hCh⟩:=hrel
        have hxq:q.es[i]?=some (xa,xn,xc):=by rw[hM1.ee];exact HX.out
        obtain⟨g,cap,kv,kx⟩:=row_sv hM1.kc.r1 hxq
        rw[hM1.ee] at kv
        dsimp only at kx
        have hbc:=hBK.blk.cell
        rw[kv] at hbc
        have hxm:=HXM.out
        unfold maxLen at hxm
        by_cases hjl:j<xn
        ·have hown:=hM1.kc.own i _ hxq
         dsimp only at hown
         obtain⟨gx,xcap,rest,hsv,-⟩:=own_blk2 hown (by omega)
         unfold sv at hsv hown
         cases hsv
         dsimp only at hown
         obtain⟨q2,h2a,-,h2c⟩:=hM1.put (by decide) mW_len hxq hjl rfl
         have hBK2:=hBK.listc (hM1.sk.two h2a.sk) h2a.kc h2c (own_ty (b:=gx) hown rfl)
         have hch2:=hCh.more h2c (fun b _ e=>.inr (.inr (.inr (.inr (.inr ⟨_,List.mem_of_getElem? HX.out,by rw[e];rfl⟩)))))
         have HTH:Hid (wr.there gx (j*5) (#[I (-10-(i:Int)),I 0,I 0,.string ByteArray.empty,I 0]:Array Value).size):=own_there hown (by omega) (j*5) 5 (by rw[hown.1];omega)
         simp only[mW] at h2a hBK2 hch2
         have jI:(j:Int)<(xn:Int):=by omega
         have hwj:wrap64 ((j:Int)+1)=(j:Int)+1:=by unfold wrap64;omega
         have HWJ:=hide hwj;have HJL:=hide hjl;have H2A:=hide h2a;have HB2:=hide hBK2;have HC2:=hide hch2
         clear hxm hj hwj hjl hM1 hBK hCh hxq h2a hBK2 hch2 h2c hown kv
         go_wp2_with (first|refine wpList_store_mid rfl 101 _ _ rfl gx (j*5) #[I (-10-(i:Int)),I 0,I 0,.string ByteArray.empty,I 0] rfl rfl HTH.out szc (alc _) ?_|fail)
         exact⟨⟨j+1,q2,HJL.out,by rw[HWJ.out];exact lrl j,H2A.out,HB2.out,HC2.out⟩,by rw[HWJ.out];exact lms HJL.out⟩
        ·have jI:¬(j:Int)<(xn:Int):=by omega
         have HNX:=hide (hM1.next hxq (show j=xn by omega));have HBQ:=hide hBK;have HCH:=hide hCh
         clear hxm hj hjl hM1 hBK hCh hxq kv
         go_wp2_with fail
         exact⟨⟨i+1,q,Nat.le_succ_of_le HNI.out,HLT.out,by rw[HWI.out];exact lrl i,HNX.out,HBQ.out,HCH.out⟩,by rw[HWI.out];exact lms HLT.out⟩
      ·have iI:¬(i:Int)<(c.es.length:Int):=by omega
       have hie:i=c.es.length:=by omega
       subst hie
       obtain⟨u3,hu3⟩:∃u3,u3=wr:=⟨_,rfl⟩
       subst wr
       have HKc:Hid (Mk mW c1 c.es.length):=hM1.mkd
       have HSc:=hide hM1.sk
       have HBK:=hide hBK;have HC:=hide hCh
       have HLEc:=hide hM1.ee
       have hvc:∃va ca,c1.v=.slice va c.es.length ca:=by
        obtain⟨y,h1,h2⟩:=own_sv hM1.kc.r1
        exact⟨y.1,y.2.2,by rw[h1,←hM1.ee,←h2];rfl⟩
       obtain⟨vac,cac,hva⟩:=hvc
       have HVc:=hide hva
       have hbc:=hBK.blk.cell
       rw[hva] at hbc
       clear hM1 hBK hCh hi hlt hll hni hva
       have hbc0:=hbc
       go_wp2_with fail
       clear hbc0
       clear hbc
       go_loopw [8] (fun iv wr=>∃i:Nat,n1≤i∧i≤a.es.length∧iv=I (i:Int)∧BK lo wr bb a1 b1 c1 n1 n2 n3∧Chg (BB bb a1 b1 c1) u3 wr) (fun iv _=>a.es.length-(RowKit.intOf iv).toNat)
       case atStart=>exact⟨n1,Nat.le_refl _,HN.out.1,rfl,HBK.out,Chg.refl _ _⟩
       case round=>
        obtain⟨i,hni,hi,rfl,hBK,hCh⟩:=hrel
        have hll:=HL.out.1
        have hbc:=hBK.blk.cell
        rw[HVa.out] at hbc
        by_cases hlt:i<a.es.length
        ·obtain⟨x,hx⟩:∃x,a.es[i]?=some x:=⟨_,List.getElem?_eq_getElem hlt⟩
         have hxq:a1.es[i]?=some x:=by rw[HLEa.out];exact hx
         have HXN:=hide (HBD.out.1 i x hni hx)
         obtain⟨xa,xn,xc⟩:=x
         obtain⟨g,cap,kv,kx⟩:=row_sv hBK.i.r1 hxq
         dsimp only at kx
         rw[HVa.out] at kv
         have kga:vaa=some ⟨g,0,none⟩:=by injection kv
         rw[kga] at hbc
         have iI:(i:Int)<(a.es.length:Int):=by omega
         have hwi:wrap64 ((i:Int)+1)=(i:Int)+1:=by unfold wrap64;omega
         have HBQ:=hide hBK;have HCH:=hide hCh;have HX:=hide hxq;have HLT:=hide hlt;have HWI:=hide hwi;have HNI:=hide hni
         have HOX:=hide (hBK.i.own i _ hxq)
         clear hBK hCh hx hxq hlt hi hll hwi hni kv kga
         go_wp2_with fail
         clear hbc kx
         go_loopw [10,9] (fun jv xv wr=>∃j:Nat,j≤64∧jv=I (j:Int)∧Gra lo u3 wr bb a1 b1 c1 n1 n2 n3 i (xa,xn,xc) j xv) (fun jv _ _=>64-(RowKit.intOf jv).toNat)
         case atStart=>exact⟨0,Nat.zero_le _,rfl,xa,xc,[],rfl,by rw[List.append_nil];exact HOX.out,.inl ⟨rfl,rfl⟩,HBQ.out,HCH.out⟩
         case round=>
          clear HBQ HCH
          obtain⟨j,hj,rfl,hG⟩:=hrel
          by_cases hjl:j<64
          ·obtain⟨v',w',hr,hG'⟩:=Gra.step (Nat.le_trans HLO.out HC.out.size) (fun k hk=>HBK.out.lt hk) HX.out HXN.out hjl hG
           obtain⟨ya,yc,zs,rfl,-⟩:=hG
           have jI:(j:Int)<64:=by omega
           have hwj:wrap64 ((j:Int)+1)=(j:Int)+1:=by unfold wrap64;omega
           have HWJ:=hide hwj;have HJL:=hide hjl;have HR:=hide hr;have HG2:=hide hG'
           clear hj hjl hwj hr hG'
           go_wp2_with (first|(at_builtin;refine wpList_append_run rfl _ _ 42 rfl _ _ rfl rfl HR.out ?_)|fail)
           exact⟨⟨j+1,HJL.out,by first|exact lrl j|(rw[HWJ.out];exact lrl j),HG2.out⟩,by first|exact lms HJL.out|(rw[HWJ.out];exact lms HJL.out)⟩
          ·have jI:¬(j:Int)<64:=by omega
           obtain⟨ya,yc,zs,rfl,-,-,hBK,hCh⟩:=hG
           have HBQ:=hide hBK;have HCH:=hide hCh
           clear hj hjl hBK hCh
           go_wp2_with fail
           exact⟨⟨i+1,Nat.le_succ_of_le HNI.out,HLT.out,by rw[HWI.out];exact lrl i,HBQ.out,HCH.out⟩,by rw[HWI.out];exact lms HLT.out⟩
        ·have iI:¬(i:Int)<(a.es.length:Int):=by omega
         have HC2:Hid (Chg (BB bb a b c) w wr):=HC.out.more hCh (fun b _ e=>(BB.same HSa.out HSb.out HSc.out).1 e)
         obtain⟨u4,hu4⟩:∃u4,u4=wr:=⟨_,rfl⟩
         subst wr
         have HBKn:=hide hBK
         clear HBK HC hni hi hlt hll hBK hCh
         have HBK:=HBKn;have HC:=HC2
         clear HBKn HC2
         go_wp2_with fail
         clear hbc
         go_loopw [11] (fun iv wr=>∃i:Nat,n2≤i∧i≤b.es.length∧iv=I (i:Int)∧BK lo wr bb a1 b1 c1 n1 n2 n3∧Chg (BB bb a1 b1 c1) u4 wr) (fun iv _=>b.es.length-(RowKit.intOf iv).toNat)
         case atStart=>exact⟨n2,Nat.le_refl _,HN.out.2.1,rfl,HBK.out,Chg.refl _ _⟩
         case round=>
          obtain⟨i,hni,hi,rfl,hBK,hCh⟩:=hrel
          have hll:=HL.out.2.1
          have hbc:=hBK.blk.cell
          rw[HVb.out] at hbc
          by_cases hlt:i<b.es.length
          ·obtain⟨x,hx⟩:∃x,b.es[i]?=some x:=⟨_,List.getElem?_eq_getElem hlt⟩
           have hxq:b1.es[i]?=some x:=by rw[HLEb.out];exact hx
           have HXN:=hide (HBD.out.2.1 i x hni hx)
           obtain⟨xa,xn,xc⟩:=x
           obtain⟨g,cap,kv,kx⟩:=row_sv hBK.h.r1 hxq
           dsimp only at kx
           rw[HVb.out] at kv
           have kga:vab=some ⟨g,0,none⟩:=by injection kv
           rw[kga] at hbc
           have iI:(i:Int)<(b.es.length:Int):=by omega
           have hwi:wrap64 ((i:Int)+1)=(i:Int)+1:=by unfold wrap64;omega
           have HBQ:=hide hBK;have HCH:=hide hCh;have HX:=hide hxq;have HLT:=hide hlt;have HWI:=hide hwi;have HNI:=hide hni
           have HOX:=hide (hBK.h.own i _ hxq)
           clear hBK hCh hx hxq hlt hi hll hwi hni kv kga
           go_wp2_with fail
           clear hbc kx
           go_loopw [13,12] (fun jv xv wr=>∃j:Nat,j≤64∧jv=I (j:Int)∧Grb lo u4 wr bb a1 b1 c1 n1 n2 n3 i (xa,xn,xc) j xv) (fun jv _ _=>64-(RowKit.intOf jv).toNat)
           case atStart=>exact⟨0,Nat.zero_le _,rfl,xa,xc,[],rfl,by rw[List.append_nil];exact HOX.out,.inl ⟨rfl,rfl⟩,HBQ.out,HCH.out⟩
           case round=>
            clear HBQ HCH
            obtain⟨j,hj,rfl,hG⟩:=hrel
            by_cases hjl:j<64
            ·obtain⟨v',w',hr,hG'⟩:=Grb.step (Nat.le_trans HLO.out HC.out.size) (fun k hk=>HBK.out.lt hk) HX.out HXN.out hjl hG
             obtain⟨ya,yc,zs,rfl,-⟩:=hG
             have jI:(j:Int)<64:=by omega
             have hwj:wrap64 ((j:Int)+1)=(j:Int)+1:=by unfold wrap64;omega
             have HWJ:=hide hwj;have HJL:=hide hjl;have HR:=hide hr;have HG2:=hide hG'
             clear hj hjl hwj hr hG'
             go_wp2_with (first|(at_builtin;refine wpList_append_run rfl _ _ 91 rfl _ _ rfl rfl HR.out ?_)|fail)
             exact⟨⟨j+1,HJL.out,by first|exact lrl j|(rw[HWJ.out];exact lrl j),HG2.out⟩,by first|exact lms HJL.out|(rw[HWJ.out];exact lms HJL.out)⟩
            ·have jI:¬(j:Int)<64:=by omega
             obtain⟨ya,yc,zs,rfl,-,-,hBK,hCh⟩:=hG
             have HBQ:=hide hBK;have HCH:=hide hCh
             clear hj hjl hBK hCh
             go_wp2_with fail
             exact⟨⟨i+1,Nat.le_succ_of_le HNI.out,HLT.out,by rw[HWI.out];exact lrl i,HBQ.out,HCH.out⟩,by rw[HWI.out];exact lms HLT.out⟩
          ·have iI:¬(i:Int)<(b.es.length:Int):=by omega
           have HC2:Hid (Chg (BB bb a b c) w wr):=HC.out.more hCh (fun b _ e=>(BB.same HSa.out HSb.out HSc.out).1 e)
           obtain⟨u5,hu5⟩:∃u5,u5=wr:=⟨_,rfl⟩
           subst wr
           have HBKn:=hide hBK
           clear HBK HC hni hi hlt hll hBK hCh
           have HBK:=HBKn;have HC:=HC2
           clear HBKn HC2
           go_wp2_with fail
           clear hbc
           go_loopw [14] (fun iv wr=>∃i:Nat,n3≤i∧i≤c.es.length∧iv=I (i:Int)∧BK lo wr bb a1 b1 c1 n1 n2 n3∧Chg (BB bb a1 b1 c1) u5 wr) (fun iv _=>c.es.length-(RowKit.intOf iv).toNat)
           case atStart=>exact⟨n3,Nat.le_refl _,HN.out.2.2,rfl,HBK.out,Chg.refl _ _⟩
           case round=>
            obtain⟨i,hni,hi,rfl,hBK,hCh⟩:=hrel
            have hll:=HL.out.2.2
            have hbc:=hBK.blk.cell
            rw[HVc.out] at hbc
            by_cases hlt:i<c.es.length
            ·obtain⟨x,hx⟩:∃x,c.es[i]?=some x:=⟨_,List.getElem?_eq_getElem hlt⟩
             have hxq:c1.es[i]?=some x:=by rw[HLEc.out];exact hx
             have HXN:=hide (HBD.out.2.2 i x hni hx)
             obtain⟨xa,xn,xc⟩:=x
             obtain⟨g,cap,kv,kx⟩:=row_sv hBK.w.r1 hxq
             dsimp only at kx
             rw[HVc.out] at kv
             have kga:vac=some ⟨g,0,none⟩:=by injection kv
             rw[kga] at hbc
             have iI:(i:Int)<(c.es.length:Int):=by omega
             have hwi:wrap64 ((i:Int)+1)=(i:Int)+1:=by unfold wrap64;omega
             have HBQ:=hide hBK;have HCH:=hide hCh;have HX:=hide hxq;have HLT:=hide hlt;have HWI:=hide hwi;have HNI:=hide hni
             have HOX:=hide (hBK.w.own i _ hxq)
             clear hBK hCh hx hxq hlt hi hll hwi hni kv kga
             go_wp2_with fail
             clear hbc kx
             go_loopw [16,15] (fun jv xv wr=>∃j:Nat,j≤64∧jv=I (j:Int)∧Grc lo u5 wr bb a1 b1 c1 n1 n2 n3 i (xa,xn,xc) j xv) (fun jv _ _=>64-(RowKit.intOf jv).toNat)
             case atStart=>exact⟨0,Nat.zero_le _,rfl,xa,xc,[],rfl,by rw[List.append_nil];exact HOX.out,.inl ⟨rfl,rfl⟩,HBQ.out,HCH.out⟩
             case round=>
              clear HBQ HCH
              obtain⟨j,hj,rfl,hG⟩:=hrel
              by_cases hjl:j<64
              ·obtain⟨v',w',hr,hG'⟩:=Grc.step (Nat.le_trans HLO.out HC.out.size) (fun k hk=>HBK.out.lt hk) HX.out HXN.out hjl hG
               obtain⟨ya,yc,zs,rfl,-⟩:=hG
               have jI:(j:Int)<64:=by omega
               have hwj:wrap64 ((j:Int)+1)=(j:Int)+1:=by unfold wrap64;omega
               have HWJ:=hide hwj;have HJL:=hide hjl;have HR:=hide hr;have HG2:=hide hG'
               clear hj hjl hwj hr hG'
               go_wp2_with (first|(at_builtin;refine wpList_append_run rfl _ _ 95 rfl _ _ rfl rfl HR.out ?_)|fail)
               exact⟨⟨j+1,HJL.out,by first|exact lrl j|(rw[HWJ.out];exact lrl j),HG2.out⟩,by first|exact lms HJL.out|(rw[HWJ.out];exact lms HJL.out)⟩
              ·have jI:¬(j:Int)<64:=by omega
               obtain⟨ya,yc,zs,rfl,-,-,hBK,hCh⟩:=hG
               have HBQ:=hide hBK;have HCH:=hide hCh
               clear hj hjl hBK hCh
               go_wp2_with fail
               exact⟨⟨i+1,Nat.le_succ_of_le HNI.out,HLT.out,by rw[HWI.out];exact lrl i,HBQ.out,HCH.out⟩,by rw[HWI.out];exact lms HLT.out⟩
            ·have iI:¬(i:Int)<(c.es.length:Int):=by omega
             have HC2:Hid (Chg (BB bb a b c) w wr):=HC.out.more hCh (fun b _ e=>(BB.same HSa.out HSb.out HSc.out).1 e)
             obtain⟨u6,hu6⟩:∃u6,u6=wr:=⟨_,rfl⟩
             subst wr
             have HBKn:=hide hBK
             clear HBK HC hni hi hlt hll hBK hCh
             have HBK:=HBKn;have HC:=HC2
             clear HBKn HC2
             rw[HVa.out,HVb.out] at hbc
             have hfz:=HBK.out.blk.frozen
             have HFIN:=hide (close_fin HBK.out HSa.out HSb.out HSc.out ⟨HKa.out,HKb.out,HKc.out⟩ HC.out)
             go_wp2_with fail
             go_end0
             exact⟨rfl,HFIN.out⟩
end
end Go.Proofs.YtadfaiciolfgjaaGreatDoor
