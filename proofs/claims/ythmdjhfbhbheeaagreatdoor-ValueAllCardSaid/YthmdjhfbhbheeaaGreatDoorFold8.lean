import Derived.Test.YthmdjhfbhbheeaaGreatDoorFold6
namespace Go.Proofs.YthmdjhfbhbheeaaGreatDoor
open Go.Proofs.Tryz
set_option maxHeartbeats 2000000
set_option maxRecDepth 100000
section
open Go.RowKit Go.Lib Go.Shelf
theorem rFold_3(a:Option Addr)(cap:Nat)(L:List Qd)(w:World)(hV:L=[]∨VRow w (.slice a L.length cap) L)(hs:∀q∈L,q.2.2.2.size≤4611686018427387904)(hn:L.length*40≤140737488351232)(rv:Value)(c:Int)(q:Qd)
  (hR:(L.all Qd.ok=true∧GoodD (noNull L)∧FR 3 (noNull L) rv c q)∨(L.all Qd.ok=false∧c=16∧q=Q0)):Calls prog 54 #[.int .i64 3,.slice a L.length cap] w fun e w'=>e=.returned (.tuple #[q.W,.int .i64 c])∧G w w':=by
 obtain⟨i0,hi,hz0,hz1,hz2⟩:=info_parts info_val
 have HV:Hid _:=hV
 have HR:Hid _:=hR
 have HSL:Hid _:=hs
 clear hV hR hs
 obtain⟨qk,qa,qb,qs⟩:=q
 go_enter func54,ntmps54
 go_wp2
 go_loopw [6,7] (fun x i W=>∃m:Nat,m≤L.length∧i=.int .i64 m∧Hid (G (w.alloc (.cells #[I 0,I 0,I 0,.string E0] 31)) W)∧Hid (W.ownsRow (w.alloc (.cells #[I 0,I 0,I 0,.string E0] 31)).heap.size 31 4 x (noNull (L.take m)).length (flat (noNull (L.take m))))∧Hid ((L.take m).all Qd.ok=true)) (fun _ i _=>L.length-(RowKit.intOf i).toNat)
 case atStart=>exact⟨0,by omega,rfl,G.refl _,World.ownsRow_nil _ _ _ _,rfl⟩
 case round=>
  obtain⟨m,hm,rfl,HG,HO,HA⟩:=hrel
  by_cases hlt:m<L.length
  ·obtain⟨q,hq⟩:∃q,L[m]?=some q:=⟨L[m],List.getElem?_eq_getElem hlt⟩
   obtain⟨b,off,ea⟩:∃b off,a=some ⟨b,off,none⟩:=by
    rcases HV.out with hn|⟨h,hn⟩|⟨b,off,cap2,h,_⟩
    iterate 2
     ·rw[hn] at hlt;exact absurd hlt (Nat.not_lt_zero _)
    ·injection h with h _ _;exact⟨b,off,h⟩
   subst ea
   have HV':Hid (VRow w (.slice (some ⟨b,off,none⟩) L.length cap) L):=by
    rcases HV.out with hn|h
    ·rw[hn] at hlt;exact absurd hlt (Nat.not_lt_zero _)
    ·exact h
   have HC:Hid (∀W,G (w.alloc (.cells #[I 0,I 0,I 0,.string E0] 31)) W→W.cell? ⟨b,off+m*4,none⟩=some (I q.1)∧W.cell? ⟨b,off+m*4+1,none⟩=some (I q.2.1)∧W.cell? ⟨b,off+m*4+2,none⟩=some (I q.2.2.1)∧W.cell? ⟨b,off+m*4+3,none⟩=some (.string q.2.2.2)):=fun W g=>vrow_at (VRow.G HV'.out (((G.refl w).alloc _).trans g)) hq
   have R1:Hid (q.1=0→noNull (L.take (m+1))=noNull (L.take m)):=fun hk=>by rw[noNull_snoc hq,hk];simp
   have R2:Hid (q.1≠0→noNull (L.take (m+1))=noNull (L.take m)++[q]):=fun hk=>by rw[noNull_snoc hq];simp[hk]
   have R3:Hid (q.ok=true→(L.take (m+1)).all Qd.ok=true):=all_snoc hq HA.out
   have R4:Hid (q.ok=false→L.all Qd.ok=false):=all_no hq
   have hsz:=HSL.out q (List.mem_of_getElem? hq)
   have hle:=noNull_le L m
   clear hq
   obtain⟨k,a1,b1,s1⟩:=q
   simp only[Qd.ok] at R1 R2 R3 R4 HC hsz
   have HI:Hid _:=rv_any k a1 b1 s1 hsz
   clear hsz
   obtain⟨h0,h1,h2,h3⟩:=HC.out wr HG.out
   cases hok:okV k a1 b1 s1
   ·have R4':Hid _:=R4.out hok
    rw[hok] at HI
    clear R1 R2 R3 R4 hok
    go_wp2_with fail
    refine(HI.out _).mono ?_
    rintro e w1 ⟨rfl,hb1⟩
    have HG1:Hid (G (w.alloc (.cells #[I 0,I 0,I 0,.string E0] 31)) w1):=HG.out.trans hb1
    have cB:∀(o:Nat),w1.cell? {block:=w.heap.size,off:=o}=[I 0,I 0,I 0,Value.string E0][o]?:=G.cells HG1.out (fun o=>by simp) (by simp)
    have fB:∀(o:Nat),w1.frozen? {block:=w.heap.size,off:=o}=false:=G.frozens HG1.out (fun o=>by simp) (by simp)
    have gE:G w w1:=((G.refl w).alloc _).trans HG1.out
    have hq:c=16∧(qk,qa,qb,qs)=Q0:=by
     rcases HR.out with ⟨h,_⟩|⟨_,h⟩
     ·rw[R4'.out] at h;cases h
     ·exact h
    have HQ:Hid _:=hq
    clear hb1 h0 h1 h2 h3 hq
    go_wp2
    exact bodyPost_ret (v:=.tuple #[V0,.int .i64 16]) (by simp[results,results54,go_sem,cB]) rfl ⟨by rw[HQ.out.1,HQ.out.2],by repeat(first|exact gE|refine G.setCell ?_ (Nat.le_refl _) _)⟩
   ·have R3':Hid _:=R3.out hok
    rw[hok] at HI
    clear R3 R4 hok
    go_wp2_with fail
    refine(HI.out _).mono ?_
    rintro e w1 ⟨rfl,hb1⟩
    clear h0 h1 h2 h3
    have HG1:Hid (G (w.alloc (.cells #[I 0,I 0,I 0,.string E0] 31)) w1):=HG.out.trans hb1
    have HO1:Hid (w1.ownsRow (w.alloc (.cells #[I 0,I 0,I 0,.string E0] 31)).heap.size 31 4 _ (noNull (L.take m)).length (flat (noNull (L.take m)))):=own_G HO.out hb1
    obtain⟨h0,h1,h2,h3⟩:=HC.out w1 HG1.out
    clear hb1 HG HO
    by_cases hk:k=0
    ·have R1':Hid _:=R1.out hk
     have hk':(k != 0)=false:=by simp[hk]
     clear R1 R2 hk
     go_wp2
     go_roundw
     case rel=>exact⟨m+1,by omega,by go_num,HG1.out,by unfold Hid;rw[R1'.out];exact HO1.out,R3'.out⟩
     case measure=>simp[RowKit.intOf];omega
    ·have R2':Hid _:=R2.out hk
     have hk':(k != 0)=true:=by simpa using hk
     clear R1 R2 hk
     go_wp2_with (at_builtin;refine wpList_append_own _ rfl _ _ 32 rfl (w.alloc (.cells #[I 0,I 0,I 0,.string E0] 31)).heap.size 31 i0 V0 4 40 underlying32 hi hz0 hz1 hz2 rfl (by decide) _ _ _ rfl (World.ownsRow.alloc HO1.out _) ⟨w1.heap.size,0,none⟩ 1 1 [I k,I a1,I b1,.string s1] rfl rfl ?c1 ?c2 ?c3 ?c4 ?c5 ?_)
     case c1=>
      intro j u hj
      match j,hj with
      | 0,hj=>simp at hj;subst hj;simp[Addr.add]
      | 1,hj=>simp at hj;subst hj;simp[Addr.add]
      | 2,hj=>simp at hj;subst hj;simp[Addr.add]
      | 3,hj=>simp at hj;subst hj;simp[Addr.add]
     case c2=>
      intro u hu
      simp at hu
      rcases hu with rfl|rfl|rfl|rfl<;>rfl
     case c3=>unfold maxLen;omega
     case c4=>omega
     case c5=>have:=HG1.out.size;simp at this ⊢;omega
     intro x' w3 hown3 hgrow _
     have HG3:Hid (G (w.alloc (.cells #[I 0,I 0,I 0,.string E0] 31)) w3):=Below.grown (HG1.out.alloc _) hgrow (by have:=HG1.out.size;simp at this ⊢;omega) (fun g hg=>(World.ownsRow.lt HO1.out g hg).1)
     have HO3:Hid (w3.ownsRow (w.alloc (.cells #[I 0,I 0,I 0,.string E0] 31)).heap.size 31 4 x' (noNull (L.take (m+1))).length (flat (noNull (L.take (m+1))))):=by
      unfold Hid
      have es:(w.alloc (.cells #[I 0,I 0,I 0,.string E0] 31)).heap.size=w.heap.size+1:=by simp
      rw[R2'.out,List.length_append,flat_snoc,es]
      exact hown3
     clear hown3 hgrow
     go_wp2
     go_roundw
     case rel=>exact⟨m+1,by omega,by go_num,HG3.out,HO3.out,R3'.out⟩
     case measure=>simp[RowKit.intOf];omega
  ·have e:L.take m=L:=List.take_of_length_le (by omega)
   have hFG:GoodD (noNull L)∧FR 3 (noNull L) rv c (qk,qa,qb,qs):=by
    have hall:=HA.out
    rw[e] at hall
    rcases HR.out with ⟨_,h⟩|⟨h,_⟩
    ·exact h
    ·rw[hall] at h;cases h
   have HSz:Hid (∀q∈noNull L,q.2.2.2.size≤4611686018427387904):=fun q hq=>HSL.out q (List.mem_filter.1 hq).1
   rw[e] at HO
   generalize noNull L=D at HO hFG HSz
   have HGd:Hid (GoodD D):=hFG.1
   have HF:Hid (FR 3 D rv c (qk,qa,qb,qs)):=hFG.2
   have HVD:Hid _:=own_vrow HO.out
   obtain⟨a',cap',hx⟩:=vrow_form HVD.out
   subst hx
   have HGw:Hid (G w wr):=((G.refl w).alloc _).trans HG.out
   have hcB:∀(o:Nat),wr.cell? {block:=w.heap.size,off:=o}=[I 0,I 0,I 0,Value.string E0][o]?:=G.cells HG.out (fun o=>by simp) (by simp)
   have hfB:∀(o:Nat),wr.frozen? {block:=w.heap.size,off:=o}=false:=G.frozens HG.out (fun o=>by simp) (by simp)
   have hzB:w.heap.size<wr.heap.size:=by have:=HG.out.size;simp at this;omega
   have hDn:D.length≤140737488351232:=HGd.out.2
   clear HG HO HA hFG e hm
   generalize wr=w0 at HVD HGw hcB hfB hzB⊢
   obtain⟨rfl,hq⟩:=fr3 HF.out
   have HQ:Hid _:=hq
   clear hq HF
   have hT:SBox w0 (bx D (-1) 0) w.heap.size w0.heap.size (w0.alloc (.cells #[I 0,I 0,I 0,.string E0] 31)):=
    ⟨G.cells ((G.refl w0).alloc _) hcB hzB,fun o=>by simp[bx],G.frozens ((G.refl w0).alloc _) hfB hzB,fun o=>by simp,(G.refl w0).alloc _,by simp;omega,by simp⟩
   have HT0:Hid _:=hT
   clear hT
   go_wp2
   generalize hB8:w0.heap.size=B8 at HT0 hzB⊢
   go_loopw [9] (fun i W=>∃m:Nat,m≤D.length∧i=.int .i64 m∧Hid (SBox w0 (bx D (-1) m) w.heap.size B8 W)) (fun i _=>D.length-(RowKit.intOf i).toNat)
   case atStart=>exact⟨0,by omega,rfl,HT0.out⟩
   case round=>
    obtain⟨m,hm,rfl,HS⟩:=hrel
    clear HT0 hcB hfB
    by_cases hlt2:m<D.length
    ·obtain⟨q,hq⟩:∃q,D[m]?=some q:=⟨D[m],List.getElem?_eq_getElem hlt2⟩
     have hVW:=VRow.G HVD.out HS.out.2.2.2.2.1
     obtain⟨b,off,ea⟩:∃b off,a'=some ⟨b,off,none⟩:=by
      rcases HVD.out with ⟨h,hn⟩|⟨b,off,cap2,h,_⟩
      ·rw[hn] at hlt2;exact absurd hlt2 (Nat.not_lt_zero _)
      ·injection h with h _ _;exact⟨b,off,h⟩
     subst ea
     have hr0:=rt_of HS.out hVW hq
     have hok:=(HGd.out.1 q (List.mem_of_getElem? hq)).1
     have hsz:=HSz.out q (List.mem_of_getElem? hq)
     have T2:Hid _:=rcmp_q q (bx D (-1) m) hok (by
      rcases bx_mem (-1) hm with h|h
      ·rw[h];exact Q0_ok
      ·exact(HGd.out.1 _ h).1) hsz (by
      rcases bx_mem (-1) hm with h|h
      ·rw[h];exact Nat.zero_le _
      ·exact HSz.out _ h)
     have htri:=cmpQ_tri q (bx D (-1) m)
     have R0:Hid (m=0→bx D (-1) (m+1)=q):=fun e=>by subst e;exact bx_first _ hq
     have R1:Hid (m≠0→bx D (-1) (m+1)=if cmpQ q (bx D (-1) m)=(-1)then q else bx D (-1) m):=fun e=>bx_step _ e hq
     clear hq HS hok hsz hVW
     generalize cmpQ q (bx D (-1) m)=cc at T2 htri R1
     generalize htq:bx D (-1) m=tq at hr0 T2
     have HTB:Hid (bx D (-1) m=tq):=htq
     clear htq
     obtain⟨tk,ta,tb,ts⟩:=tq
     obtain⟨qk,qa,qb,qs⟩:=q
     unfold RT at hr0
     simp only at hr0
     have hlt3:(m:Int)<(D.length:Int):=by omega
     go_wp2
     go_region_held3 (fun W=>(∀(o:Nat),W.cell? {block:=B8,off:=o}=[I tk,I ta,I tb,Value.string ts][o]?)∧W.cell? {block:=b,off:=off+m*4}=some (I qk)∧W.cell? {block:=b,off:=off+m*4+1}=some (I qa)∧W.cell? {block:=b,off:=off+m*4+2}=some (I qb)∧W.cell? {block:=b,off:=off+m*4+3}=some (.string qs)∧
       (∀(o:Nat),W.cell? {block:=w.heap.size,off:=o}=[I 0,I 0,I 0,Value.string E0][o]?)∧(∀(o:Nat),W.frozen? {block:=w.heap.size,off:=o}=false)∧(∀(o:Nat),W.frozen? {block:=B8,off:=o}=false)∧G w0 W∧w.heap.size<W.heap.size∧B8<W.heap.size)
      ((first|assumption|(refine RT.keep ?_ hr0;repeat(first|exact G.refl _|exact(G.drew (G.refl _)).trans hb5|refine G.drew ?_))))
      (first|(go_at_call 19;refine(T2.out _).mono ?_;rintro e w5 ⟨rfl,hb5⟩)|fail)
     rename_i hH
     clear hb5 hr0 T2
     obtain⟨c8,k0,k1,k2,k3,c4,f4,f8,hG6,z4,z8⟩:=hH
     have HTwo:Hid (Two w0 w.heap.size B8 (fun o=>[I 0,I 0,I 0,Value.string E0][o]?) (fun o=>[I tk,I ta,I tb,Value.string ts][o]?) w5):=⟨c4,c8,f4,f8,hG6,z4,z8⟩
     by_cases m0:m=0
     ·have RR:Hid _:=R0.out m0
      have hm0:((m:Int)==0)=true:=by simp[m0]
      clear R1 R0 htri m0
      go_wp2
      go_roundw
      case rel=>
       refine⟨m+1,by omega,by go_num,?_⟩
       have:=two_swap (two_set1 (I qk) (I qa) (I qb) (.string qs) (by omega) (by omega) (two_swap HTwo.out))
       unfold Hid SBox
       rw[RR.out]
       exact this
      case measure=>simp[RowKit.intOf];omega
     ·have hm0:((m:Int)==0)=false:=beq_false_of_ne (by omega)
      rcases htri with rfl|rfl|rfl
      ·have RR:Hid (bx D (-1) (m+1)=(qk,qa,qb,qs)):=by
        have:=R1.out m0
        rw[if_pos rfl] at this
        exact this
       clear R1 R0
       go_wp2
       go_roundw
       case rel=>
        refine⟨m+1,by omega,by go_num,?_⟩
        have:=two_swap (two_set1 (I qk) (I qa) (I qb) (.string qs) (by omega) (by omega) (two_swap HTwo.out))
        unfold Hid SBox
        rw[RR.out]
        exact this
       case measure=>simp[RowKit.intOf];omega
      iterate 2
       ·have RR:Hid (bx D (-1) (m+1)=bx D (-1) m):=by
         have:=R1.out m0
         rw[if_neg (by decide)] at this
         exact this
        clear R1 R0
        go_wp2
        go_roundw
        case rel=>
         refine⟨m+1,by omega,by go_num,?_⟩
         unfold Hid SBox
         rw[RR.out,HTB.out]
         exact HTwo.out
        case measure=>simp[RowKit.intOf];omega
    ·have em:m=D.length:=by omega
     obtain⟨c4,c8,f4,f8,hG6,z4,z8⟩:=HS.out
     clear HS
     have HE:Hid ((qk,qa,qb,qs)=bx D (-1) m):=by unfold Hid;rw[em];exact HQ.out
     generalize htq:bx D (-1) m=tq at c8 HE
     clear htq
     obtain⟨tk,ta,tb,ts⟩:=tq
     simp only at c8
     have gE:G w wr:=HGw.out.trans hG6
     go_wp2
     exact bodyPost_ret (v:=.tuple #[V tk ta tb ts,.int .i64 0]) (by simp[results,results54,go_sem,c4]) rfl ⟨by cases HE.out;rfl,by repeat(first|exact gE|refine G.setCell ?_ (Nat.le_refl _) _)⟩
theorem rFold_4(a:Option Addr)(cap:Nat)(L:List Qd)(w:World)(hV:L=[]∨VRow w (.slice a L.length cap) L)(hs:∀q∈L,q.2.2.2.size≤4611686018427387904)(hn:L.length*40≤140737488351232)(rv:Value)(c:Int)(q:Qd)
  (hR:(L.all Qd.ok=true∧GoodD (noNull L)∧FR 4 (noNull L) rv c q)∨(L.all Qd.ok=false∧c=16∧q=Q0)):Calls prog 54 #[.int .i64 4,.slice a L.length cap] w fun e w'=>e=.returned (.tuple #[q.W,.int .i64 c])∧G w w':=by
 obtain⟨i0,hi,hz0,hz1,hz2⟩:=info_parts info_val
 have HV:Hid _:=hV
 have HR:Hid _:=hR
 have HSL:Hid _:=hs
 clear hV hR hs
 obtain⟨qk,qa,qb,qs⟩:=q
 go_enter func54,ntmps54
 go_wp2
 go_loopw [6,7] (fun x i W=>∃m:Nat,m≤L.length∧i=.int .i64 m∧Hid (G (w.alloc (.cells #[I 0,I 0,I 0,.string E0] 31)) W)∧Hid (W.ownsRow (w.alloc (.cells #[I 0,I 0,I 0,.string E0] 31)).heap.size 31 4 x (noNull (L.take m)).length (flat (noNull (L.take m))))∧Hid ((L.take m).all Qd.ok=true)) (fun _ i _=>L.length-(RowKit.intOf i).toNat)
 case atStart=>exact⟨0,by omega,rfl,G.refl _,World.ownsRow_nil _ _ _ _,rfl⟩
 case round=>
  obtain⟨m,hm,rfl,HG,HO,HA⟩:=hrel
  by_cases hlt:m<L.length
  ·obtain⟨q,hq⟩:∃q,L[m]?=some q:=⟨L[m],List.getElem?_eq_getElem hlt⟩
   obtain⟨b,off,ea⟩:∃b off,a=some ⟨b,off,none⟩:=by
    rcases HV.out with hn|⟨h,hn⟩|⟨b,off,cap2,h,_⟩
    iterate 2
     ·rw[hn] at hlt;exact absurd hlt (Nat.not_lt_zero _)
    ·injection h with h _ _;exact⟨b,off,h⟩
   subst ea
   have HV':Hid (VRow w (.slice (some ⟨b,off,none⟩) L.length cap) L):=by
    rcases HV.out with hn|h
    ·rw[hn] at hlt;exact absurd hlt (Nat.not_lt_zero _)
    ·exact h
   have HC:Hid (∀W,G (w.alloc (.cells #[I 0,I 0,I 0,.string E0] 31)) W→W.cell? ⟨b,off+m*4,none⟩=some (I q.1)∧W.cell? ⟨b,off+m*4+1,none⟩=some (I q.2.1)∧W.cell? ⟨b,off+m*4+2,none⟩=some (I q.2.2.1)∧W.cell? ⟨b,off+m*4+3,none⟩=some (.string q.2.2.2)):=fun W g=>vrow_at (VRow.G HV'.out (((G.refl w).alloc _).trans g)) hq
   have R1:Hid (q.1=0→noNull (L.take (m+1))=noNull (L.take m)):=fun hk=>by rw[noNull_snoc hq,hk];simp
   have R2:Hid (q.1≠0→noNull (L.take (m+1))=noNull (L.take m)++[q]):=fun hk=>by rw[noNull_snoc hq];simp[hk]
   have R3:Hid (q.ok=true→(L.take (m+1)).all Qd.ok=true):=all_snoc hq HA.out
   have R4:Hid (q.ok=false→L.all Qd.ok=false):=all_no hq
   have hsz:=HSL.out q (List.mem_of_getElem? hq)
   have hle:=noNull_le L m
   clear hq
   obtain⟨k,a1,b1,s1⟩:=q
   simp only[Qd.ok] at R1 R2 R3 R4 HC hsz
   have HI:Hid _:=rv_any k a1 b1 s1 hsz
   clear hsz
   obtain⟨h0,h1,h2,h3⟩:=HC.out wr HG.out
   cases hok:okV k a1 b1 s1
   ·have R4':Hid _:=R4.out hok
    rw[hok] at HI
    clear R1 R2 R3 R4 hok
    go_wp2_with fail
    refine(HI.out _).mono ?_
    rintro e w1 ⟨rfl,hb1⟩
    have HG1:Hid (G (w.alloc (.cells #[I 0,I 0,I 0,.string E0] 31)) w1):=HG.out.trans hb1
    have cB:∀(o:Nat),w1.cell? {block:=w.heap.size,off:=o}=[I 0,I 0,I 0,Value.string E0][o]?:=G.cells HG1.out (fun o=>by simp) (by simp)
    have fB:∀(o:Nat),w1.frozen? {block:=w.heap.size,off:=o}=false:=G.frozens HG1.out (fun o=>by simp) (by simp)
    have gE:G w w1:=((G.refl w).alloc _).trans HG1.out
    have hq:c=16∧(qk,qa,qb,qs)=Q0:=by
     rcases HR.out with ⟨h,_⟩|⟨_,h⟩
     ·rw[R4'.out] at h;cases h
     ·exact h
    have HQ:Hid _:=hq
    clear hb1 h0 h1 h2 h3 hq
    go_wp2
    exact bodyPost_ret (v:=.tuple #[V0,.int .i64 16]) (by simp[results,results54,go_sem,cB]) rfl ⟨by rw[HQ.out.1,HQ.out.2],by repeat(first|exact gE|refine G.setCell ?_ (Nat.le_refl _) _)⟩
   ·have R3':Hid _:=R3.out hok
    rw[hok] at HI
    clear R3 R4 hok
    go_wp2_with fail
    refine(HI.out _).mono ?_
    rintro e w1 ⟨rfl,hb1⟩
    clear h0 h1 h2 h3
    have HG1:Hid (G (w.alloc (.cells #[I 0,I 0,I 0,.string E0] 31)) w1):=HG.out.trans hb1
    have HO1:Hid (w1.ownsRow (w.alloc (.cells #[I 0,I 0,I 0,.string E0] 31)).heap.size 31 4 _ (noNull (L.take m)).length (flat (noNull (L.take m)))):=own_G HO.out hb1
    obtain⟨h0,h1,h2,h3⟩:=HC.out w1 HG1.out
    clear hb1 HG HO
    by_cases hk:k=0
    ·have R1':Hid _:=R1.out hk
     have hk':(k != 0)=false:=by simp[hk]
     clear R1 R2 hk
     go_wp2
     go_roundw
     case rel=>exact⟨m+1,by omega,by go_num,HG1.out,by unfold Hid;rw[R1'.out];exact HO1.out,R3'.out⟩
     case measure=>simp[RowKit.intOf];omega
    ·have R2':Hid _:=R2.out hk
     have hk':(k != 0)=true:=by simpa using hk
     clear R1 R2 hk
     go_wp2_with (at_builtin;refine wpList_append_own _ rfl _ _ 32 rfl (w.alloc (.cells #[I 0,I 0,I 0,.string E0] 31)).heap.size 31 i0 V0 4 40 underlying32 hi hz0 hz1 hz2 rfl (by decide) _ _ _ rfl (World.ownsRow.alloc HO1.out _) ⟨w1.heap.size,0,none⟩ 1 1 [I k,I a1,I b1,.string s1] rfl rfl ?c1 ?c2 ?c3 ?c4 ?c5 ?_)
     case c1=>
      intro j u hj
      match j,hj with
      | 0,hj=>simp at hj;subst hj;simp[Addr.add]
      | 1,hj=>simp at hj;subst hj;simp[Addr.add]
      | 2,hj=>simp at hj;subst hj;simp[Addr.add]
      | 3,hj=>simp at hj;subst hj;simp[Addr.add]
     case c2=>
      intro u hu
      simp at hu
      rcases hu with rfl|rfl|rfl|rfl<;>rfl
     case c3=>unfold maxLen;omega
     case c4=>omega
     case c5=>have:=HG1.out.size;simp at this ⊢;omega
     intro x' w3 hown3 hgrow _
     have HG3:Hid (G (w.alloc (.cells #[I 0,I 0,I 0,.string E0] 31)) w3):=Below.grown (HG1.out.alloc _) hgrow (by have:=HG1.out.size;simp at this ⊢;omega) (fun g hg=>(World.ownsRow.lt HO1.out g hg).1)
     have HO3:Hid (w3.ownsRow (w.alloc (.cells #[I 0,I 0,I 0,.string E0] 31)).heap.size 31 4 x' (noNull (L.take (m+1))).length (flat (noNull (L.take (m+1))))):=by
      unfold Hid
      have es:(w.alloc (.cells #[I 0,I 0,I 0,.string E0] 31)).heap.size=w.heap.size+1:=by simp
      rw[R2'.out,List.length_append,flat_snoc,es]
      exact hown3
     clear hown3 hgrow
     go_wp2
     go_roundw
     case rel=>exact⟨m+1,by omega,by go_num,HG3.out,HO3.out,R3'.out⟩
     case measure=>simp[RowKit.intOf];omega
  ·have e:L.take m=L:=List.take_of_length_le (by omega)
   have hFG:GoodD (noNull L)∧FR 4 (noNull L) rv c (qk,qa,qb,qs):=by
    have hall:=HA.out
    rw[e] at hall
    rcases HR.out with ⟨_,h⟩|⟨h,_⟩
    ·exact h
    ·rw[hall] at h;cases h
   have HSz:Hid (∀q∈noNull L,q.2.2.2.size≤4611686018427387904):=fun q hq=>HSL.out q (List.mem_filter.1 hq).1
   rw[e] at HO
   generalize noNull L=D at HO hFG HSz
   have HGd:Hid (GoodD D):=hFG.1
   have HF:Hid (FR 4 D rv c (qk,qa,qb,qs)):=hFG.2
   have HVD:Hid _:=own_vrow HO.out
   obtain⟨a',cap',hx⟩:=vrow_form HVD.out
   subst hx
   have HGw:Hid (G w wr):=((G.refl w).alloc _).trans HG.out
   have hcB:∀(o:Nat),wr.cell? {block:=w.heap.size,off:=o}=[I 0,I 0,I 0,Value.string E0][o]?:=G.cells HG.out (fun o=>by simp) (by simp)
   have hfB:∀(o:Nat),wr.frozen? {block:=w.heap.size,off:=o}=false:=G.frozens HG.out (fun o=>by simp) (by simp)
   have hzB:w.heap.size<wr.heap.size:=by have:=HG.out.size;simp at this;omega
   have hDn:D.length≤140737488351232:=HGd.out.2
   clear HG HO HA hFG e hm
   generalize wr=w0 at HVD HGw hcB hfB hzB⊢
   obtain⟨rfl,hq⟩:=fr4 HF.out
   have HQ:Hid _:=hq
   clear hq HF
   have hT:SBox w0 (bx D 1 0) w.heap.size w0.heap.size (w0.alloc (.cells #[I 0,I 0,I 0,.string E0] 31)):=
    ⟨G.cells ((G.refl w0).alloc _) hcB hzB,fun o=>by simp[bx],G.frozens ((G.refl w0).alloc _) hfB hzB,fun o=>by simp,(G.refl w0).alloc _,by simp;omega,by simp⟩
   have HT0:Hid _:=hT
   clear hT
   go_wp2
   generalize hB8:w0.heap.size=B8 at HT0 hzB⊢
   go_loopw [9] (fun i W=>∃m:Nat,m≤D.length∧i=.int .i64 m∧Hid (SBox w0 (bx D 1 m) w.heap.size B8 W)) (fun i _=>D.length-(RowKit.intOf i).toNat)
   case atStart=>exact⟨0,by omega,rfl,HT0.out⟩
   case round=>
    obtain⟨m,hm,rfl,HS⟩:=hrel
    clear HT0 hcB hfB
    by_cases hlt2:m<D.length
    ·obtain⟨q,hq⟩:∃q,D[m]?=some q:=⟨D[m],List.getElem?_eq_getElem hlt2⟩
     have hVW:=VRow.G HVD.out HS.out.2.2.2.2.1
     obtain⟨b,off,ea⟩:∃b off,a'=some ⟨b,off,none⟩:=by
      rcases HVD.out with ⟨h,hn⟩|⟨b,off,cap2,h,_⟩
      ·rw[hn] at hlt2;exact absurd hlt2 (Nat.not_lt_zero _)
      ·injection h with h _ _;exact⟨b,off,h⟩
     subst ea
     have hr0:=rt_of HS.out hVW hq
     have hok:=(HGd.out.1 q (List.mem_of_getElem? hq)).1
     have hsz:=HSz.out q (List.mem_of_getElem? hq)
     have T2:Hid _:=rcmp_q q (bx D 1 m) hok (by
      rcases bx_mem 1 hm with h|h
      ·rw[h];exact Q0_ok
      ·exact(HGd.out.1 _ h).1) hsz (by
      rcases bx_mem 1 hm with h|h
      ·rw[h];exact Nat.zero_le _
      ·exact HSz.out _ h)
     have htri:=cmpQ_tri q (bx D 1 m)
     have R0:Hid (m=0→bx D 1 (m+1)=q):=fun e=>by subst e;exact bx_first _ hq
     have R1:Hid (m≠0→bx D 1 (m+1)=if cmpQ q (bx D 1 m)=1 then q else bx D 1 m):=fun e=>bx_step _ e hq
     clear hq HS hok hsz hVW
     generalize cmpQ q (bx D 1 m)=cc at T2 htri R1
     generalize htq:bx D 1 m=tq at hr0 T2
     have HTB:Hid (bx D 1 m=tq):=htq
     clear htq
     obtain⟨tk,ta,tb,ts⟩:=tq
     obtain⟨qk,qa,qb,qs⟩:=q
     unfold RT at hr0
     simp only at hr0
     have hlt3:(m:Int)<(D.length:Int):=by omega
     go_wp2
     go_region_held3 (fun W=>(∀(o:Nat),W.cell? {block:=B8,off:=o}=[I tk,I ta,I tb,Value.string ts][o]?)∧W.cell? {block:=b,off:=off+m*4}=some (I qk)∧W.cell? {block:=b,off:=off+m*4+1}=some (I qa)∧W.cell? {block:=b,off:=off+m*4+2}=some (I qb)∧W.cell? {block:=b,off:=off+m*4+3}=some (.string qs)∧
       (∀(o:Nat),W.cell? {block:=w.heap.size,off:=o}=[I 0,I 0,I 0,Value.string E0][o]?)∧(∀(o:Nat),W.frozen? {block:=w.heap.size,off:=o}=false)∧(∀(o:Nat),W.frozen? {block:=B8,off:=o}=false)∧G w0 W∧w.heap.size<W.heap.size∧B8<W.heap.size)
      ((first|assumption|(refine RT.keep ?_ hr0;repeat(first|exact G.refl _|exact(G.drew (G.refl _)).trans hb5|refine G.drew ?_))))
      (first|(go_at_call 19;refine(T2.out _).mono ?_;rintro e w5 ⟨rfl,hb5⟩)|fail)
     rename_i hH
     clear hb5 hr0 T2
     obtain⟨c8,k0,k1,k2,k3,c4,f4,f8,hG6,z4,z8⟩:=hH
     have HTwo:Hid (Two w0 w.heap.size B8 (fun o=>[I 0,I 0,I 0,Value.string E0][o]?) (fun o=>[I tk,I ta,I tb,Value.string ts][o]?) w5):=⟨c4,c8,f4,f8,hG6,z4,z8⟩
     by_cases m0:m=0
     ·have RR:Hid _:=R0.out m0
      have hm0:((m:Int)==0)=true:=by simp[m0]
      clear R1 R0 htri m0
      go_wp2
      go_roundw
      case rel=>
       refine⟨m+1,by omega,by go_num,?_⟩
       have:=two_swap (two_set1 (I qk) (I qa) (I qb) (.string qs) (by omega) (by omega) (two_swap HTwo.out))
       unfold Hid SBox
       rw[RR.out]
       exact this
      case measure=>simp[RowKit.intOf];omega
     ·have hm0:((m:Int)==0)=false:=beq_false_of_ne (by omega)
      rcases htri with rfl|rfl|rfl
      iterate 2
       ·have RR:Hid (bx D 1 (m+1)=bx D 1 m):=by
         have:=R1.out m0
         rw[if_neg (by decide)] at this
         exact this
        clear R1 R0
        go_wp2
        go_roundw
        case rel=>
         refine⟨m+1,by omega,by go_num,?_⟩
         unfold Hid SBox
         rw[RR.out,HTB.out]
         exact HTwo.out
        case measure=>simp[RowKit.intOf];omega
      ·have RR:Hid (bx D 1 (m+1)=(qk,qa,qb,qs)):=by
        have:=R1.out m0
        rw[if_pos rfl] at this
        exact this
       clear R1 R0
       go_wp2
       go_roundw
       case rel=>
        refine⟨m+1,by omega,by go_num,?_⟩
        have:=two_swap (two_set1 (I qk) (I qa) (I qb) (.string qs) (by omega) (by omega) (two_swap HTwo.out))
        unfold Hid SBox
        rw[RR.out]
        exact this
       case measure=>simp[RowKit.intOf];omega
    ·have em:m=D.length:=by omega
     obtain⟨c4,c8,f4,f8,hG6,z4,z8⟩:=HS.out
     clear HS
     have HE:Hid ((qk,qa,qb,qs)=bx D 1 m):=by unfold Hid;rw[em];exact HQ.out
     generalize htq:bx D 1 m=tq at c8 HE
     clear htq
     obtain⟨tk,ta,tb,ts⟩:=tq
     simp only at c8
     have gE:G w wr:=HGw.out.trans hG6
     go_wp2
     exact bodyPost_ret (v:=.tuple #[V tk ta tb ts,.int .i64 0]) (by simp[results,results54,go_sem,c4]) rfl ⟨by cases HE.out;rfl,by repeat(first|exact gE|refine G.setCell ?_ (Nat.le_refl _) _)⟩
end
section
open Go.RowKit Go.Lib Go.Shelf
def Rdy(w:World):Prop:=Tabs w∧Rks w
theorem Rdy.G{w w':World}(h:Rdy w)(g:G w w'):Rdy w':=⟨h.1.G g,h.2.G g⟩
theorem keepC1{w W W':World}{b:Nat}{f:Nat→Option Value}(hb:G W W')(h:(∀o,W.cell? ⟨b,o,none⟩=f o)∧G w W∧b<W.heap.size):(∀o,W'.cell? ⟨b,o,none⟩=f o)∧G w W'∧b<W'.heap.size:=keepG h.1 h.2.1 h.2.2 hb
theorem keepE1{w W:World}{b:Nat}{f:Nat→Option Value}(h:(∀o,W.cell? ⟨b,o,none⟩=f o)∧G w W∧b<W.heap.size):(∀o,W.drew.cell? ⟨b,o,none⟩=f o)∧G w W.drew∧b<W.drew.heap.size:=keepC1 (G.refl _).drew h
theorem plays_4(e:Ent)(hk:e.kind=4)(hs:e.s.size≤4611686018427387904)(hs':e.s'.size≤4611686018427387904)(w:World)(hT:Rdy w):Calls prog 7 #[e.V] w fun r w'=>r=.returned (.bool true)∧G w w':=by
 obtain⟨kind,op,k,a,b,s,k',a',b',s',vs,st,tt,bb,n,x,y,o1,o2⟩:=e
 simp only at hk hs hs'
 subst hk
 obtain⟨m,a1,b1,s1,h1⟩:=nz_ex k a b s
 obtain⟨m',a1',b1',s1',h2⟩:=nz_ex k' a' b' s'
 have HA:Hid (∀W,G w W→Calls prog 18 #[V k a b s,V k' a' b' s'] W fun e w'=>e=.returned (.int .i64 (cmpR m m' a1 b1 a1' b1' s1 s1'))∧G W w'):=fun W g=>by
  rw[←cmp_same h1.lt h2.lt h1.ok h2.ok]
  exact Compare_any k a b k' a' b' s s' m m' a1 b1 a1' b1' s1 s1' h1 h2 W (hT.G g).1 (hT.G g).2
 have HB:Hid (∀W,Calls prog 19 #[V k a b s,V k' a' b' s'] W fun e w'=>e=.returned (.int .i64 (cmpR m m' a1 b1 a1' b1' s1 s1'))∧G W w'):=rCmp_any k a b k' a' b' s s' hs hs' m m' a1 b1 a1' b1' s1 s1' h1 h2
 generalize cmpR m m' a1 b1 a1' b1' s1 s1'=r at HA HB
 clear h1 h2 hT hs hs'
 have hc0:∀o,(w.alloc (.cells #[I 4,I op,I k,I a,I b,.string s,I k',I a',I b',.string s',vs,.string st,.string tt,bb,I n,I x,I y,I o1,I o2] 35)).cell? {block:=w.heap.size,off:=o}=[I 4,I op,I k,I a,I b,.string s,I k',I a',I b',.string s',vs,.string st,.string tt,bb,I n,I x,I y,I o1,I o2][o]?:=fun o=>by simp
 have hg0:G w (w.alloc (.cells #[I 4,I op,I k,I a,I b,.string s,I k',I a',I b',.string s',vs,.string st,.string tt,bb,I n,I x,I y,I o1,I o2] 35)):=(G.refl w).alloc _
 have hz0:w.heap.size<(w.alloc (.cells #[I 4,I op,I k,I a,I b,.string s,I k',I a',I b',.string s',vs,.string st,.string tt,bb,I n,I x,I y,I o1,I o2] 35)).heap.size:=by simp
 go_enter func7,ntmps7
 go_wp2
 generalize w.alloc (.cells #[I 4,I op,I k,I a,I b,.string s,I k',I a',I b',.string s',vs,.string st,.string tt,bb,I n,I x,I y,I o1,I o2] 35)=w1 at hc0 hg0 hz0⊢
 have hS0:(∀(o:Nat),w1.cell? {block:=w.heap.size,off:=o}=[I 4,I op,I k,I a,I b,.string s,I k',I a',I b',.string s',vs,.string st,.string tt,bb,I n,I x,I y,I o1,I o2][o]?)∧G w w1∧w.heap.size<w1.heap.size:=⟨hc0,hg0,hz0⟩
 clear hc0 hg0 hz0
 go_region_held3 (fun W=>(∀(o:Nat),W.cell? {block:=w.heap.size,off:=o}=[I 4,I op,I k,I a,I b,.string s,I k',I a',I b',.string s',vs,.string st,.string tt,bb,I n,I x,I y,I o1,I o2][o]?)∧G w W∧w.heap.size<W.heap.size)
  ((first|assumption|exact keepE1 (by assumption)|exact keepC1 hb5 (by assumption)|exact keepC1 hb5 (keepE1 (by assumption))|exact keepE1 (keepC1 hb5 (by assumption))))
  (first|(go_at_call 18;refine(HA.out _ (by first|assumption|exact G.drew (by assumption)|exact And.left (And.right (by assumption))|exact G.drew (And.left (And.right (by assumption))))).mono ?_;rintro e w5 ⟨rfl,hb5⟩)|(go_at_call 19;refine(HB.out _).mono ?_;rintro e w5 ⟨rfl,hb5⟩)|fail)
 rename_i hH
 go_wp2
 go_ret
 exact⟨rfl,hH.2.1⟩
theorem compare_plays(W:World)(hT:Rdy W)(e:Ent)(h:EntOk W e)(h1:4≤e.kind)(h2:e.kind≤4)(w':World)(g:G W w'):Calls prog 7 #[e.V] w' fun r w''=>r=.returned (.bool true)∧G w' w'':=
 plays_4 e (by omega) (by have:=h.s;unfold reachBytes at this;omega) (by have:=h.s';unfold reachBytes at this;omega) w' (hT.G g)
end
section
open Go.RowKit Go.Lib Go.Shelf
theorem rFold_arg(agg:Int)(x:Value)(ho:agg<1∨5<agg)(w:World):Calls prog 54 #[.int .i64 agg,x] w fun e w'=>e=.returned (.tuple #[V0,.int .i64 1])∧G w w':=by
 by_cases h:agg<1
 ·clear ho
  go_enter func54,ntmps54
  go_wp2
  exact bodyPost_ret (v:=.tuple #[V0,.int .i64 1]) (by simp[results,results54,go_sem]) rfl ⟨rfl,by repeat(first|exact G.refl _|refine G.alloc ?_ _|refine G.setCell ?_ (by simp) _)⟩
 ·have h':5<agg:=by omega
  clear ho
  go_enter func54,ntmps54
  go_wp2
  exact bodyPost_ret (v:=.tuple #[V0,.int .i64 1]) (by simp[results,results54,go_sem]) rfl ⟨rfl,by repeat(first|exact G.refl _|refine G.alloc ?_ _|refine G.setCell ?_ (by simp) _)⟩
theorem rFold_any(agg:Int)(h1:1≤agg)(h5:agg≤5)(a:Option Addr)(cap:Nat)(L:List Qd)(w:World)(hV:L=[]∨VRow w (.slice a L.length cap) L)(hs:∀q∈L,q.2.2.2.size≤4611686018427387904)(hn:L.length*40≤140737488351232)(rv:Value)(c:Int)(q:Qd)
  (hR:(L.all Qd.ok=true∧GoodD (noNull L)∧FR agg (noNull L) rv c q)∨(L.all Qd.ok=false∧c=16∧q=Q0)):Calls prog 54 #[.int .i64 agg,.slice a L.length cap] w fun e w'=>e=.returned (.tuple #[q.W,.int .i64 c])∧G w w':=by
 have d:agg=1∨agg=2∨agg=3∨agg=4∨agg=5:=by omega
 rcases d with rfl|rfl|rfl|rfl|rfl
 ·exact rFold_1 a cap L w hV hs hn rv c q hR
 ·exact rFold_2 a cap L w hV hs hn rv c q hR
 ·exact rFold_3 a cap L w hV hs hn rv c q hR
 ·exact rFold_4 a cap L w hV hs hn rv c q hR
 ·exact rFold_5 a cap L w hV hs hn rv c q hR
def LOk(L:List Qd):Prop:=L.length*40≤reachBytes∧∀q∈L,I64 q.2.1∧q.2.2.2.size≤reachBytes
theorem reach_le:reachBytes≤140737488351232:=by unfold reachBytes;omega
theorem good_of{L:List Qd}(h:LOk L)(hA:L.all Qd.ok=true):GoodD (noNull L):=by
 have hr:=reach_le
 refine⟨fun q hq=>?_,?_⟩
 ·obtain⟨hm,hk⟩:=List.mem_filter.1 hq
  exact⟨List.all_eq_true.1 hA q hm,by simpa using hk,(h.2 q hm).1⟩
 ·have h1:(noNull L).length≤L.length:=List.length_filter_le _ _
  have:=h.1
  omega
theorem fold_both(agg:Int)(a:Option Addr)(cap:Nat)(L:List Qd)(w:World)(hT:Rdy w)(hV:L=[]∨VRow w (.slice a L.length cap) L)(hL:LOk L) :
  ∃(q:Qd) (c:Int),(∀W x,G w W→VRow W x L→Calls prog 53 #[.int .i64 agg,x] W fun e w'=>e=.returned (.tuple #[q.W,.int .i64 c])∧G W w')∧(∀W,G w W→Calls prog 54 #[.int .i64 agg,.slice a L.length cap] W fun e w'=>e=.returned (.tuple #[q.W,.int .i64 c])∧G W w'):=by
 have hr:=reach_le
 have hn:L.length*40≤140737488351232:=Nat.le_trans hL.1 hr
 have hs:∀q∈L,q.2.2.2.size≤4611686018427387904:=fun q hq=>by have:=(hL.2 q hq).2;omega
 have hVG:∀W,G w W→L=[]∨VRow W (.slice a L.length cap) L:=fun W g=>hV.imp id fun h=>h.G g
 by_cases ho:agg<1∨5<agg
 ·exact⟨Q0,1,fun W x _ _=>Fold_arg agg x ho W,fun W _=>rFold_arg agg _ ho W⟩
 ·have h1:1≤agg:=by omega
  have h5:agg≤5:=by omega
  cases hA:L.all Qd.ok
  ·exact⟨Q0,16,fun W x g h=>Fold_bad agg h1 h5 x L W (hT.G g).1 h hn hA,fun W g=>rFold_any agg h1 h5 a cap L W (hVG W g) hs hn V0 16 Q0 (.inr ⟨hA,rfl,rfl⟩)⟩
  ·have hD:=good_of hL hA
   obtain⟨rv,c,q,hF⟩:=fr_ex agg h1 h5 (noNull L) hD
   exact⟨q,c,fun W x g h=>Fold_ok agg h1 h5 x L W (hT.G g).1 (hT.G g).2 h hn hA hD rv c q hF,fun W g=>rFold_any agg h1 h5 a cap L W (hVG W g) hs hn rv c q (.inl ⟨hA,hD,hF⟩)⟩
theorem vs_list{w:World}{x:Value}(h:VsOk w x):∃(a:Option Addr) (cap:Nat) (L:List Qd),x=.slice a L.length cap∧(L=[]∨VRow w (.slice a L.length cap) L)∧LOk L∧((a=none∧L=[]∧cap=0)∨∃ad,a=some ad∧∀j u,(flat L)[j]?=some u→w.cell? (ad.add j)=some u):=by
 rcases h with rfl|⟨ad,len,cap,Q,rfl,hlc,hb,hQ⟩
 ·exact⟨none,0,[],rfl,.inl rfl,⟨Nat.zero_le _,fun q hq=>absurd hq (List.not_mem_nil)⟩,.inl ⟨rfl,rfl,rfl⟩⟩
 ·have hl:((List.range len).map Q).length=len:=by simp
  have hat:∀i q,((List.range len).map Q)[i]?=some q→i<len∧q=Q i:=fun i q hi=>by
   obtain⟨h1,h2⟩:=List.getElem?_eq_some_iff.1 hi
   rw[hl] at h1
   exact⟨h1,by simpa using h2.symm⟩
  have hfl:∀j u,(flat ((List.range len).map Q))[j]?=some u→w.cell? (ad.add j)=some u:=fun j u hj=>by
   have hlt:j<len*4:=by
    have:=(List.getElem?_eq_some_iff.1 hj).1
    rw[flat_len,hl] at this
    exact this
   have e:j=(j/4)*4+j%4:=by omega
   have hi:j/4<len:=by omega
   rw[e,flat_at _ (j/4) (Q (j/4)) (by simp[hi]) (j%4) (by omega)] at hj
   rw[e,(hQ (j/4) (by omega)).1 (j%4) (by omega)]
   exact hj
  refine⟨some ad,cap,(List.range len).map Q,by rw[hl],?_,⟨by rw[hl];exact Nat.le_trans (Nat.mul_le_mul_right 40 hlc) hb,fun q hq=>?_⟩,.inr ⟨ad,rfl,hfl⟩⟩
  ·by_cases h0:len=0
   ·subst h0;exact .inl rfl
   ·right;right
    have hsp:ad.spot=none:=by
     have:=(hQ 0 (by omega)).1 0 (by omega)
     have:=World.cell?_spot this
     simpa [Addr.add] using this
    obtain⟨b,off,sp⟩:=ad
    simp only at hsp
    subst hsp
    refine⟨b,off,cap,rfl,by rw[hl];exact hlc,fun i q hi j hj=>?_⟩
    obtain⟨h1,rfl⟩:=hat i q hi
    have:=(hQ i (by omega)).1 j hj
    rw[show(⟨b,off,none⟩:Addr).add (i*4+j)=⟨b,off+(i*4+j),none⟩ by unfold Addr.add;split<;>simp_all] at this
    exact this
  ·obtain⟨i,hi,rfl⟩:=List.mem_map.1 hq
   have hi':=List.mem_range.1 hi
   have:=hQ i (by omega)
   exact⟨this.2.2.1,this.2.2.2.2⟩
end
end Go.Proofs.YthmdjhfbhbheeaaGreatDoor
