import Derived.Test.YtadfaiciolfgjaaGreatDoorLkR1
namespace Go.Proofs.YtadfaiciolfgjaaGreatDoor
open Go.Proofs.Tryz
set_option maxHeartbeats 1000000
set_option maxRecDepth 100000
section
open Go.RowKit
theorem insP_len1(x:Int)(l:List Int):(insP x l).length≤l.length+1:=by
 unfold insP
 rw[List.length_append,List.length_cons]
 have:(l.filter (fun a=>decide (a<x))).length+(l.filter (fun a=>decide (x<a))).length≤l.length:=by
  induction l with
  | nil=>simp
  | cons a l ih=>
   rw[List.filter_cons,List.filter_cons]
   rcases Int.lt_trichotomy a x with h|h|h
   ·have h2:¬x<a:=by omega
    simp[h,h2];omega
   ·subst h
    simp;omega
   ·have h2:¬a<x:=by omega
    simp[h,h2];omega
 omega
def iwB(q e:Lk):Bool:=decide (e.x≠q.x)&&(decide (e.r=q.r)&&!fitB e.c q.c)
def wayP(q:Lk)(acc:List Int)(l:List Lk):List Int:=l.foldl (fun acc e=>if iwB q e then insP e.x acc else acc) acc
theorem wayP_snoc(q:Lk)(acc:List Int)(l:List Lk)(e:Lk):wayP q acc (l++[e])=if iwB q e then insP e.x (wayP q acc l)else wayP q acc l:=by
 unfold wayP
 rw[List.foldl_append];rfl
theorem wayP_up(q:Lk):∀(l:List Lk) (acc:List Int),acc.Pairwise (·<·)→(wayP q acc l).Pairwise (·<·)
 | [],acc,h=>h
 | e::l,acc,h=>by
  show(wayP q (if iwB q e then insP e.x acc else acc) l).Pairwise _
  refine wayP_up q l _ ?_
  split
  ·exact insP_up h
  ·exact h
theorem wayP_len(q:Lk):∀(l:List Lk) (acc:List Int),(wayP q acc l).length≤acc.length+l.length
 | [],acc=>Nat.le_refl _
 | e::l,acc=>by
  show(wayP q (if iwB q e then insP e.x acc else acc) l).length≤_
  refine Nat.le_trans (wayP_len q l _) ?_
  rw[List.length_cons]
  split
  ·have:=insP_len1 e.x acc;omega
  ·omega
theorem wayP_mem(q:Lk)(y:Int):∀(l:List Lk) (acc:List Int),y∈wayP q acc l↔y∈acc∨∃e∈l,iwB q e=true∧e.x=y
 | [],acc=>by simp[wayP]
 | e::l,acc=>by
  show y∈wayP q (if iwB q e then insP e.x acc else acc) l↔_
  rw[wayP_mem q y l]
  cases h:iwB q e with
  | true=>
   rw[if_pos rfl,insP_mem]
   constructor
   ·rintro((h1|h1)|⟨e',h1,h2⟩)
    ·exact .inr ⟨e,by simp,h,h1.symm⟩
    ·exact .inl h1
    ·exact .inr ⟨e',by simp[h1],h2⟩
   ·rintro(h1|⟨e',h1,h2,h3⟩)
    ·exact .inl (.inr h1)
    ·rcases List.mem_cons.1 h1 with rfl|h1
     ·exact .inl (.inl h3.symm)
     ·exact .inr ⟨e',h1,h2,h3⟩
  | false=>
   rw[if_neg (by simp)]
   constructor
   ·rintro(h1|⟨e',h1,h2⟩)
    ·exact .inl h1
    ·exact .inr ⟨e',by simp[h1],h2⟩
   ·rintro(h1|⟨e',h1,h2,h3⟩)
    ·exact .inl h1
    ·rcases List.mem_cons.1 h1 with rfl|h1
     ·rw[h] at h2;cases h2
     ·exact .inr ⟨e',h1,h2,h3⟩
def inwP(R:Rt)(n:Nat)(q:Lk):List Int:=wayP q (wayP q [] R.hd) (R.aq.take n)
theorem take_lk{l:List Lk}{n:Nat}{x:Lk}(h:l[n]?=some x):l.take (n+1)=l.take n++[x]:=by rw[List.take_add_one,h];rfl
theorem inWay_r{w:World}{b:Nat}{R:Rt}{D:Nat→Prop}{vt vh va:Value}{tv:List (Tx×Value)}(h:RV w b R D vt vh va tv)(m:Nat)(q:Lk)(hq:R.aq[m]?=some q)(hl:R.hd.length<400000000000∧R.aq.length<400000000000) :
  Calls prog 29 #[ptr b,I (m:Int)] w fun e w'=>∃v,e=.returned v∧w'.ownsRow w.heap.size 3 1 v (inwP R m q).length ((inwP R m q).map fun z=>I z)∧G w w':=by
 obtain⟨ra,rcap,rfl⟩:=row_form h.rh
 obtain⟨qa,qcap,rfl⟩:=row_form h.ra
 obtain⟨gq,hgq,kc⟩:=row_cell lk_len h.ra hq
 obtain⟨x,⟨lv,lb,id⟩,c,up⟩:=q
 subst hgq
 have k0:w.cell? ⟨gq,m*6,none⟩=some (I x):=kc 0 (by omega)
 have k1:w.cell? ⟨gq,m*6+1,none⟩=some (I lv):=kc 1 (by omega)
 have k2:w.cell? ⟨gq,m*6+2,none⟩=some (.string lb):=kc 2 (by omega)
 have k3:w.cell? ⟨gq,m*6+3,none⟩=some (I id):=kc 3 (by omega)
 have k4:w.cell? ⟨gq,m*6+4,none⟩=some (I c):=kc 4 (by omega)
 have k5:w.cell? ⟨gq,m*6+5,none⟩=some (.bool up):=kc 5 (by omega)
 have q1:w.cell? ⟨gq,m*6+1+1,none⟩=some (.string lb):=k2
 have q2:w.cell? ⟨gq,m*6+1+2,none⟩=some (I id):=k3
 have hml:=(List.getElem?_eq_some_iff.1 hq).1
 have hmI:(m:Int)<(R.aq.length:Int):=by omega
 have hm0:(0:Int)≤(m:Int):=by omega
 have hbc:=h.blk.cell
 have H:=hide h;have HLL:=hide hl;have HML:=hide hml
 clear h hl kc hq hml
 go_enter func29,ntmps29
 go_wp2_with fail
 obtain⟨w1,hw1⟩:∃w1,w1=w.alloc (.cells #[I x,I lv,.string lb,I id,I c,.bool up] 73):=⟨_,rfl⟩
 rw[←hw1]
 have H1:Hid (Blk w1 w.heap.size 73 [I x,I lv,.string lb,I id,I c,.bool up]∧G w w1):=by rw[hw1];exact⟨Blk.new w [I x,I lv,.string lb,I id,I c,.bool up] 73,(G.refl w).alloc _⟩
 clear hw1 k0 k1 k2 k3 k4 k5 q1 q2 hbc
 go_loopw [6,7] (fun ov iv wr=>∃n:Nat,n≤R.hd.length∧iv=I (n:Int)∧wr.ownsRow w.heap.size 3 1 ov (wayP ⟨x,⟨lv,lb,id⟩,c,up⟩ [] (R.hd.take n)).length ((wayP ⟨x,⟨lv,lb,id⟩,c,up⟩ [] (R.hd.take n)).map fun z=>I z)∧G w1 wr) (fun _ iv _=>R.hd.length-(RowKit.intOf iv).toNat)
 case atStart=>exact⟨0,Nat.zero_le _,rfl,⟨rfl,.inl ⟨rfl,rfl⟩⟩,G.refl _⟩
 case round=>
  obtain⟨n,hn,rfl,how,hgw⟩:=hrel
  have hll:=HLL.out
  have hR:=H.out.G (H1.out.2.trans hgw)
  have hbc:=hR.blk.cell
  by_cases hlt:n<R.hd.length
  ·obtain⟨⟨ex,⟨el,eb,ei⟩,ec,eu⟩,he⟩:∃a,R.hd[n]?=some a:=⟨_,List.getElem?_eq_getElem hlt⟩
   obtain⟨ga,hga,kc⟩:=row_cell lk_len hR.rh he
   subst hga
   have k0:wr.cell? ⟨ga,n*6,none⟩=some (I ex):=kc 0 (by omega)
   have k1:wr.cell? ⟨ga,n*6+1,none⟩=some (I el):=kc 1 (by omega)
   have k2:wr.cell? ⟨ga,n*6+2,none⟩=some (.string eb):=kc 2 (by omega)
   have k3:wr.cell? ⟨ga,n*6+3,none⟩=some (I ei):=kc 3 (by omega)
   have k4:wr.cell? ⟨ga,n*6+4,none⟩=some (I ec):=kc 4 (by omega)
   have k5:wr.cell? ⟨ga,n*6+5,none⟩=some (.bool eu):=kc 5 (by omega)
   have q1:wr.cell? ⟨ga,n*6+1+1,none⟩=some (.string eb):=k2
   have q2:wr.cell? ⟨ga,n*6+1+2,none⟩=some (I ei):=k3
   have hec:=(Blk.new wr [I ex,I el,.string eb,I ei,I ec,.bool eu] 73).cell
   have hqc:=(H1.out.1.G (hgw.alloc (.cells #[I ex,I el,.string eb,I ei,I ec,.bool eu] 73))).cell
   have hnI:(n:Int)<(R.hd.length:Int):=by omega
   have hwn:wrap64 ((n:Int)+1)=(n:Int)+1:=by unfold wrap64;omega
   have HWN:=hide hwn;have HLT:=hide hlt;have HGW:=hide hgw;have HOW:=hide how
   have hst:=wayP_snoc ⟨x,⟨lv,lb,id⟩,c,up⟩ [] (R.hd.take n) ⟨ex,⟨el,eb,ei⟩,ec,eu⟩
   rw[←take_lk he] at hst
   clear hn hlt he hwn kc hll hgw hR how
   by_cases e1:ex=x
   ·subst e1
    have HST:=hide hst
    rw[if_neg (by simp[iwB])] at HST
    clear hst
    go_wp2_with fail
    exact⟨⟨n+1,HLT.out,by rw[HWN.out];exact rl1 n,by rw[HST.out];exact own_G HOW.out ((G.refl wr).alloc _),HGW.out.trans ((G.refl wr).alloc _)⟩,by rw[HWN.out];exact ms_end HLT.out⟩
   ·have d1:(ex != x)=true:=by simp[e1]
    have d2:(ex==x)=false:=by simp[e1]
    have d3:decide (ex=x)=false:=by simp[e1]
    by_cases f1:el=lv
    ·subst f1
     by_cases f2:eb=lb
     ·subst f2
      by_cases f3:ei=id
      ·subst f3
       have HG2:Hid (G wr (wr.alloc (.cells #[I ex,I el,.string eb,I ei,I ec,.bool eu] 73))):=(G.refl wr).alloc _
       have KF:=hide (rfits_any ec c (wr.alloc (.cells #[I ex,I el,.string eb,I ei,I ec,.bool eu] 73)))
       have KP:=hide (put_r (wr.alloc (.cells #[I ex,I el,.string eb,I ei,I ec,.bool eu] 73)) w.heap.size _ _ ex (own_G HOW.out HG2.out) (wayP_up _ _ _ .nil) (by have:=HLL.out;have h1:=wayP_len ⟨x,⟨el,eb,ei⟩,c,up⟩ (R.hd.take n) [];rw[List.length_take] at h1;simp only[List.length_nil] at h1;omega))
       cases hf:fitB ec c with
       | true=>
        rw[hf] at KF
        have HST:=hide hst
        rw[if_neg (by simp[iwB,hf])] at HST
        clear hst hf
        go_wp2_with (first|(go_at_call 63;with_reducible refine(KF.out).mono ?_;rintro e w' ⟨rfl,rfl⟩)|fail)
        exact⟨⟨n+1,HLT.out,by rw[HWN.out];exact rl1 n,by rw[HST.out];exact own_G HOW.out HG2.out,HGW.out.trans HG2.out⟩,by rw[HWN.out];exact ms_end HLT.out⟩
       | false=>
        rw[hf] at KF
        have HST:=hide hst
        rw[if_pos (by simp[iwB,hf,e1])] at HST
        clear hst hf
        go_wp2_with (first|(go_at_call 63;with_reducible refine(KF.out).mono ?_;rintro e w' ⟨rfl,rfl⟩)|(go_at_call 64;with_reducible refine(KP.out).mono ?_;rintro e w9 ⟨v9,rfl,o9,g9⟩)|fail)
        exact⟨⟨n+1,HLT.out,by rw[HWN.out];exact rl1 n,by rw[HST.out];exact own_lo o9 (Nat.le_trans H1.out.2.size (Nat.le_trans HGW.out.size HG2.out.size)),HGW.out.trans (HG2.out.trans g9)⟩,by rw[HWN.out];exact ms_end HLT.out⟩
      ·have d4:(ei==id)=false:=by simp[f3]
       have d5:decide (ei=id)=false:=by simp[f3]
       have HST:=hide hst
       rw[if_neg (by simp[iwB,f3])] at HST
       clear hst
       go_wp2_with fail
       exact⟨⟨n+1,HLT.out,by rw[HWN.out];exact rl1 n,by rw[HST.out];exact own_G HOW.out ((G.refl wr).alloc _),HGW.out.trans ((G.refl wr).alloc _)⟩,by rw[HWN.out];exact ms_end HLT.out⟩
     ·have d4:¬eb.toList=lb.toList:=fun q=>f2 (toList_inj q)
      have HST:=hide hst
      rw[if_neg (by simp[iwB,f2])] at HST
      clear hst
      go_wp2_with fail
      exact⟨⟨n+1,HLT.out,by rw[HWN.out];exact rl1 n,by rw[HST.out];exact own_G HOW.out ((G.refl wr).alloc _),HGW.out.trans ((G.refl wr).alloc _)⟩,by rw[HWN.out];exact ms_end HLT.out⟩
    ·have d4:(el==lv)=false:=by simp[f1]
     have d5:decide (el=lv)=false:=by simp[f1]
     have HST:=hide hst
     rw[if_neg (by simp[iwB,f1])] at HST
     clear hst
     go_wp2_with fail
     exact⟨⟨n+1,HLT.out,by rw[HWN.out];exact rl1 n,by rw[HST.out];exact own_G HOW.out ((G.refl wr).alloc _),HGW.out.trans ((G.refl wr).alloc _)⟩,by rw[HWN.out];exact ms_end HLT.out⟩
  ·have hne:n=R.hd.length:=by omega
   subst hne
   have hnI:¬((R.hd.length:Int)<(R.hd.length:Int)):=by omega
   rw[List.take_length] at how
   have HGW:=hide hgw;have HOW:=hide how
   clear hn hlt hll hgw hR how
   go_wp2_with fail
   clear hbc
   have H1:Hid (Blk wr w.heap.size 73 [I x,I lv,.string lb,I id,I c,.bool up]∧G w wr):=⟨H1.out.1.G HGW.out,H1.out.2.trans HGW.out⟩
   have HOW0:=HOW
   clear HGW HOW
   generalize wr=w2 at H1 HOW0⊢
   go_loopw [6,9] (fun ov iv wr=>∃n:Nat,n≤m∧iv=I (n:Int)∧wr.ownsRow w.heap.size 3 1 ov (wayP ⟨x,⟨lv,lb,id⟩,c,up⟩ (wayP ⟨x,⟨lv,lb,id⟩,c,up⟩ [] R.hd) (R.aq.take n)).length ((wayP ⟨x,⟨lv,lb,id⟩,c,up⟩ (wayP ⟨x,⟨lv,lb,id⟩,c,up⟩ [] R.hd) (R.aq.take n)).map fun z=>I z)∧G w2 wr) (fun _ iv _=>m-(RowKit.intOf iv).toNat)
   case atStart=>exact⟨0,Nat.zero_le _,rfl,HOW0.out,G.refl _⟩
   case round=>
    obtain⟨n,hn,rfl,how,hgw⟩:=hrel
    have hll:=HLL.out
    have hml:=HML.out
    have hR:=H.out.G (H1.out.2.trans hgw)
    have hbc:=hR.blk.cell
    by_cases hltm:n<m
    ·have hlt:n<R.aq.length:=by omega
     have HLTM:=hide hltm
     clear hltm hml
     obtain⟨⟨ex,⟨el,eb,ei⟩,ec,eu⟩,he⟩:∃a,R.aq[n]?=some a:=⟨_,List.getElem?_eq_getElem hlt⟩
     obtain⟨ga,hga,kc⟩:=row_cell lk_len hR.ra he
     have eg:ga=gq:=by simpa using hga.symm
     subst eg
     have k0:wr.cell? ⟨ga,n*6,none⟩=some (I ex):=kc 0 (by omega)
     have k1:wr.cell? ⟨ga,n*6+1,none⟩=some (I el):=kc 1 (by omega)
     have k2:wr.cell? ⟨ga,n*6+2,none⟩=some (.string eb):=kc 2 (by omega)
     have k3:wr.cell? ⟨ga,n*6+3,none⟩=some (I ei):=kc 3 (by omega)
     have k4:wr.cell? ⟨ga,n*6+4,none⟩=some (I ec):=kc 4 (by omega)
     have k5:wr.cell? ⟨ga,n*6+5,none⟩=some (.bool eu):=kc 5 (by omega)
     have q1:wr.cell? ⟨ga,n*6+1+1,none⟩=some (.string eb):=k2
     have q2:wr.cell? ⟨ga,n*6+1+2,none⟩=some (I ei):=k3
     have hec:=(Blk.new wr [I ex,I el,.string eb,I ei,I ec,.bool eu] 73).cell
     have hqc:=(H1.out.1.G (hgw.alloc (.cells #[I ex,I el,.string eb,I ei,I ec,.bool eu] 73))).cell
     have hnI:(n:Int)<(m:Int):=by have:=HLTM.out;omega
     have hwn:wrap64 ((n:Int)+1)=(n:Int)+1:=by unfold wrap64;omega
     have HWN:=hide hwn;have HLT:=hide hlt;have HGW:=hide hgw;have HOW:=hide how
     have hst:=wayP_snoc ⟨x,⟨lv,lb,id⟩,c,up⟩ (wayP ⟨x,⟨lv,lb,id⟩,c,up⟩ [] R.hd) (R.aq.take n) ⟨ex,⟨el,eb,ei⟩,ec,eu⟩
     rw[←take_lk he] at hst
     clear hn hlt he hwn kc hll hgw hR how
     by_cases e1:ex=x
     ·subst e1
      have HST:=hide hst
      rw[if_neg (by simp[iwB])] at HST
      clear hst
      go_wp2_with fail
      exact⟨⟨n+1,HLTM.out,by rw[HWN.out];exact rl1 n,by rw[HST.out];exact own_G HOW.out ((G.refl wr).alloc _),HGW.out.trans ((G.refl wr).alloc _)⟩,by rw[HWN.out];exact ms_end HLTM.out⟩
     ·have d1:(ex != x)=true:=by simp[e1]
      have d2:(ex==x)=false:=by simp[e1]
      have d3:decide (ex=x)=false:=by simp[e1]
      by_cases f1:el=lv
      ·subst f1
       by_cases f2:eb=lb
       ·subst f2
        by_cases f3:ei=id
        ·subst f3
         have HG2:Hid (G wr (wr.alloc (.cells #[I ex,I el,.string eb,I ei,I ec,.bool eu] 73))):=(G.refl wr).alloc _
         have KF:=hide (rfits_any ec c (wr.alloc (.cells #[I ex,I el,.string eb,I ei,I ec,.bool eu] 73)))
         have KP:=hide (put_r (wr.alloc (.cells #[I ex,I el,.string eb,I ei,I ec,.bool eu] 73)) w.heap.size _ _ ex (own_G HOW.out HG2.out) (wayP_up _ _ _ (wayP_up _ _ _ .nil)) (by have:=HLL.out;have h1:=wayP_len ⟨x,⟨el,eb,ei⟩,c,up⟩ (R.aq.take n) (wayP ⟨x,⟨el,eb,ei⟩,c,up⟩ [] R.hd);rw[List.length_take] at h1;have h2:=wayP_len ⟨x,⟨el,eb,ei⟩,c,up⟩ R.hd [];simp only[List.length_nil] at h2;omega))
         cases hf:fitB ec c with
         | true=>
          rw[hf] at KF
          have HST:=hide hst
          rw[if_neg (by simp[iwB,hf])] at HST
          clear hst hf
          go_wp2_with (first|(go_at_call 63;with_reducible refine(KF.out).mono ?_;rintro e w' ⟨rfl,rfl⟩)|fail)
          exact⟨⟨n+1,HLTM.out,by rw[HWN.out];exact rl1 n,by rw[HST.out];exact own_G HOW.out HG2.out,HGW.out.trans HG2.out⟩,by rw[HWN.out];exact ms_end HLTM.out⟩
         | false=>
          rw[hf] at KF
          have HST:=hide hst
          rw[if_pos (by simp[iwB,hf,e1])] at HST
          clear hst hf
          go_wp2_with (first|(go_at_call 63;with_reducible refine(KF.out).mono ?_;rintro e w' ⟨rfl,rfl⟩)|(go_at_call 64;with_reducible refine(KP.out).mono ?_;rintro e w9 ⟨v9,rfl,o9,g9⟩)|fail)
          exact⟨⟨n+1,HLTM.out,by rw[HWN.out];exact rl1 n,by rw[HST.out];exact own_lo o9 (Nat.le_trans H1.out.2.size (Nat.le_trans HGW.out.size HG2.out.size)),HGW.out.trans (HG2.out.trans g9)⟩,by rw[HWN.out];exact ms_end HLTM.out⟩
        ·have d4:(ei==id)=false:=by simp[f3]
         have d5:decide (ei=id)=false:=by simp[f3]
         have HST:=hide hst
         rw[if_neg (by simp[iwB,f3])] at HST
         clear hst
         go_wp2_with fail
         exact⟨⟨n+1,HLTM.out,by rw[HWN.out];exact rl1 n,by rw[HST.out];exact own_G HOW.out ((G.refl wr).alloc _),HGW.out.trans ((G.refl wr).alloc _)⟩,by rw[HWN.out];exact ms_end HLTM.out⟩
       ·have d4:¬eb.toList=lb.toList:=fun q=>f2 (toList_inj q)
        have HST:=hide hst
        rw[if_neg (by simp[iwB,f2])] at HST
        clear hst
        go_wp2_with fail
        exact⟨⟨n+1,HLTM.out,by rw[HWN.out];exact rl1 n,by rw[HST.out];exact own_G HOW.out ((G.refl wr).alloc _),HGW.out.trans ((G.refl wr).alloc _)⟩,by rw[HWN.out];exact ms_end HLTM.out⟩
      ·have d4:(el==lv)=false:=by simp[f1]
       have d5:decide (el=lv)=false:=by simp[f1]
       have HST:=hide hst
       rw[if_neg (by simp[iwB,f1])] at HST
       clear hst
       go_wp2_with fail
       exact⟨⟨n+1,HLTM.out,by rw[HWN.out];exact rl1 n,by rw[HST.out];exact own_G HOW.out ((G.refl wr).alloc _),HGW.out.trans ((G.refl wr).alloc _)⟩,by rw[HWN.out];exact ms_end HLTM.out⟩
    ·have hne:n=m:=by omega
     subst hne
     have hnI:¬((n:Int)<(n:Int)):=by omega
     have HGW:=hide hgw;have HOW:=hide how
     clear hn hltm hll hgw hR how hml
     go_wp2_with fail
     go_ret
     exact⟨_,rfl,HOW.out,H1.out.2.trans HGW.out⟩
end
section
open Go.RowKit Go.PlainAid
theorem rnm_any(s:ByteArray)(w:World):Calls prog 61 #[.string s] w fun e w'=>e=.returned (.bool (nameB s))∧w'=w:=by
 have hb:=get_bt s
 by_cases h:1≤s.size∧s.size≤8∧97≤bt s 0
 ·obtain⟨h1,h2,h3⟩:=h
  have h0:=bt_le s 0
  go_enter func61,ntmps61
  go_wp2
  go_loop [3] (fun i=>∃n:Nat,n≤s.size∧i=.int .i64 n∧∀j,j<n→chP (bt s j)) (fun i=>s.size-(RowKit.intOf i).toNat)
  case atStart=>exact⟨0,Nat.zero_le _,rfl,fun j hj=>absurd hj (Nat.not_lt_zero j)⟩
  case round=>
   obtain⟨n,hn,rfl,hv⟩:=hrel
   have HV:Hid (∀j,j<n→chP (bt s j)):=hv
   clear hv
   by_cases hlt:n<s.size
   ·have hI:(n:Int)<(s.size:Int):=by omega
    have x0:=bt_nonneg s n
    have x1:=bt_le s n
    by_cases hc:chP (bt s n)
    ·have HC:Hid (chP (bt s n)):=hc
     rcases hc with ⟨c1,c2⟩|⟨c1,c2⟩
     all_goals
      go_wp2
      go_round
      case rel=>exact⟨n+1,by omega,by go_num,fun j hj=>by
       rcases Nat.lt_succ_iff_lt_or_eq.1 hj with h|h
       ·exact HV.out j h
       ·rw[h];exact HC.out⟩
      case measure=>simp[RowKit.intOf];omega
    ·have HC:Hid (¬chP (bt s n)):=hc
     unfold chP at hc
     by_cases c1:97≤bt s n
     ·have c2:¬bt s n≤122:=by omega
      have c3:48≤bt s n:=by omega
      have c4:¬bt s n≤57:=by omega
      go_wp2
      go_ret
      exact⟨nameB_no (fun h=>HC.out (h.2.2.2 n hlt)),rfl⟩
     ·by_cases c2:48≤bt s n
      ·have c3:¬bt s n≤57:=by omega
       go_wp2
       go_ret
       exact⟨nameB_no (fun h=>HC.out (h.2.2.2 n hlt)),rfl⟩
      ·go_wp2
       go_ret
       exact⟨nameB_no (fun h=>HC.out (h.2.2.2 n hlt)),rfl⟩
   ·have hI:¬(n:Int)<(s.size:Int):=by omega
    go_wp2
    go_ret
    exact⟨nameB_yes ⟨h1,h2,h3,fun j hj=>HV.out j (by omega)⟩,rfl⟩
 ·have HN:Hid (¬NameP s):=fun hh=>h ⟨hh.1,hh.2.1,hh.2.2.1⟩
  by_cases h1:1≤s.size
  ·by_cases h2:s.size≤8
   ·have h3:¬97≤bt s 0:=fun h3=>h ⟨h1,h2,h3⟩
    clear h
    have x0:=bt_nonneg s 0
    go_enter func61,ntmps61
    go_wp2
    go_ret
    exact⟨nameB_no HN.out,rfl⟩
   ·clear h
    go_enter func61,ntmps61
    go_wp2
    go_ret
    exact⟨nameB_no HN.out,rfl⟩
  ·clear h
   go_enter func61,ntmps61
   go_wp2
   go_ret
   exact⟨nameB_no HN.out,rfl⟩
theorem resB_val{r:Rs}{v:Bool}(h:v=true↔ResP r):Ending.returned (.bool v)=.returned (.bool (resB r)):=by
 have:v=resB r:=by
  have h2:=resB_iff r
  cases v<;>cases hh:resB r<;>simp_all
 rw[this]
theorem res_r(r:Rs)(w:World):Calls prog 23 #[.agg #[I r.lv,.string r.lb,I r.id]] w fun e w'=>e=.returned (.bool (resB r))∧w'=w.alloc (.cells #[I r.lv,.string r.lb,I r.id] 33):=by
 obtain⟨a,b,c⟩:=r
 simp only
 obtain⟨q,hq⟩:∃q,resB ⟨a,b,c⟩=q:=⟨_,rfl⟩
 have HQ:=hide hq
 rw[hq]
 clear hq
 have HN:=hide (fun w=>rnm_any b w)
 by_cases h1:a=1
 ·subst h1
  by_cases hb:b=ByteArray.empty
  ·subst hb
   by_cases hc:c=0
   ·subst hc
    go_enter func23,ntmps23
    go_wp2_with (first|(go_at_call 61;refine(HN.out _).mono ?_;rintro e w' ⟨rfl,rfl⟩)|fail)
    go_ret
    refine⟨?_,rfl⟩
    rw[←HQ.out]
    exact resB_val (iff_of_true rfl (.inl ⟨rfl,rfl,rfl⟩))
   ·have HC:Hid (¬ResP ⟨1,ByteArray.empty,c⟩):=by simp[Hid,ResP,hc]
    have d1:(c==0)=false:=by simp[hc]
    have d2:decide (c=0)=false:=by simp[hc]
    go_enter func23,ntmps23
    go_wp2_with (first|(go_at_call 61;refine(HN.out _).mono ?_;rintro e w' ⟨rfl,rfl⟩)|fail)
    go_ret
    refine⟨?_,rfl⟩
    rw[←HQ.out]
    exact resB_val (iff_of_false (by simp) HC.out)
  ·have HC:Hid (¬ResP ⟨1,b,c⟩):=by simp[Hid,ResP,hb]
   have hl:¬b.toList=[]:=fun e=>hb (toList_nil.1 e)
   clear hb
   go_enter func23,ntmps23
   go_wp2_with (first|(go_at_call 61;refine(HN.out _).mono ?_;rintro e w' ⟨rfl,rfl⟩)|fail)
   go_ret
   refine⟨?_,rfl⟩
   rw[←HQ.out]
   exact resB_val (iff_of_false (by simp) HC.out)
 ·by_cases h2:a=2
  ·subst h2
   by_cases hn:NameP b
   ·rw[(nameB_iff b).2 hn] at HN
    have HH:=hide hn
    clear hn
    by_cases hc:c=0
    ·subst hc
     go_enter func23,ntmps23
     go_wp2_with (first|(go_at_call 61;refine(HN.out _).mono ?_;rintro e w' ⟨rfl,rfl⟩)|fail)
     go_ret
     refine⟨?_,rfl⟩
     rw[←HQ.out]
     exact resB_val (iff_of_true rfl (.inr (.inl ⟨rfl,HH.out,rfl⟩)))
    ·have HC:Hid (¬ResP ⟨2,b,c⟩):=by simp[Hid,ResP,hc]
     have d1:(c==0)=false:=by simp[hc]
     have d2:decide (c=0)=false:=by simp[hc]
     go_enter func23,ntmps23
     go_wp2_with (first|(go_at_call 61;refine(HN.out _).mono ?_;rintro e w' ⟨rfl,rfl⟩)|fail)
     go_ret
     refine⟨?_,rfl⟩
     rw[←HQ.out]
     exact resB_val (iff_of_false (by simp) HC.out)
   ·have e:nameB b=false:=by
     cases h:nameB b
     ·rfl
     ·exact absurd ((nameB_iff b).1 h) hn
    rw[e] at HN
    have HC:Hid (¬ResP ⟨2,b,c⟩):=by simp[Hid,ResP,hn]
    clear hn e
    go_enter func23,ntmps23
    go_wp2_with (first|(go_at_call 61;refine(HN.out _).mono ?_;rintro e w' ⟨rfl,rfl⟩)|fail)
    go_ret
    refine⟨?_,rfl⟩
    rw[←HQ.out]
    exact resB_val (iff_of_false (by simp) HC.out)
  ·by_cases h3:a=3
   ·subst h3
    by_cases hb:b=ByteArray.empty
    ·subst hb
     by_cases hc:1≤c
     ·have HC:Hid (ResP ⟨3,ByteArray.empty,c⟩):=by simp[Hid,ResP,hc]
      go_enter func23,ntmps23
      go_wp2_with (first|(go_at_call 61;refine(HN.out _).mono ?_;rintro e w' ⟨rfl,rfl⟩)|fail)
      go_ret
      refine⟨?_,rfl⟩
      rw[←HQ.out]
      exact resB_val (iff_of_true rfl HC.out)
     ·have HC:Hid (¬ResP ⟨3,ByteArray.empty,c⟩):=by simp only[Hid,ResP];omega
      go_enter func23,ntmps23
      go_wp2_with (first|(go_at_call 61;refine(HN.out _).mono ?_;rintro e w' ⟨rfl,rfl⟩)|fail)
      go_ret
      refine⟨?_,rfl⟩
      rw[←HQ.out]
      exact resB_val (iff_of_false (by simp) HC.out)
    ·have HC:Hid (¬ResP ⟨3,b,c⟩):=by simp[Hid,ResP,hb]
     have hl:¬b.toList=[]:=fun e=>hb (toList_nil.1 e)
     clear hb
     go_enter func23,ntmps23
     go_wp2_with (first|(go_at_call 61;refine(HN.out _).mono ?_;rintro e w' ⟨rfl,rfl⟩)|fail)
     go_ret
     refine⟨?_,rfl⟩
     rw[←HQ.out]
     exact resB_val (iff_of_false (by simp) HC.out)
   ·have HC:Hid (¬ResP ⟨a,b,c⟩):=by simp only[Hid,ResP];omega
    go_enter func23,ntmps23
    go_wp2_with (first|(go_at_call 61;refine(HN.out _).mono ?_;rintro e w' ⟨rfl,rfl⟩)|fail)
    go_ret
    refine⟨?_,rfl⟩
    rw[←HQ.out]
    exact resB_val (iff_of_false (by simp) HC.out)
end
section
open Go.RowKit
theorem idxI_cases{α:Type}(f:α→Bool)(l:List α):(idxI f l = -1∧∀a∈l,f a=false)∨∃(i:Nat) (a:α),idxI f l=(i:Int)∧l[i]?=some a∧f a=true∧∀j b,j<i→l[j]?=some b→f b=false:=by
 cases h:l.findIdx? f with
 | none=>
  have:=List.findIdx?_eq_none_iff.1 h
  exact .inl ⟨idxI_none this,this⟩
 | some i=>
  obtain⟨h1,h2,h3⟩:=List.findIdx?_eq_some_iff_getElem.1 h
  have hn:∀j b,j<i→l[j]?=some b→f b=false:=fun j b hj hb=>by
   obtain⟨k1,k2⟩:=List.getElem?_eq_some_iff.1 hb
   have:=h3 j hj
   rw[k2] at this
   simpa using this
  exact .inr ⟨i,l[i],idxI_some (List.getElem?_eq_getElem h1) h2 hn,List.getElem?_eq_getElem h1,h2,hn⟩
theorem mode_rno{w:World}{b:Nat}{R:Rt}{D:Nat→Prop}{vt vh va:Value}{tv:List (Tx×Value)}(h:RV w b R D vt vh va tv)(x:Int)(r:Rs)(hn:∀e∈R.tx,(e.x==x)=false)(hl:R.tx.length<2000000000000):Calls prog 74 #[ptr b,I x,.agg #[I r.lv,.string r.lb,I r.id]] w fun e w'=>e=.returned (.tuple #[I 0,I 80])∧G w w':=by
 have KP:=hide (place_r (h.G ((G.refl w).alloc (.cells #[I r.lv,.string r.lb,I r.id] 33))) x hl)
 rw[idxI_none hn] at KP
 clear h hn hl
 go_enter func74,ntmps74
 go_wp2_with (first|(go_at_call 22;with_reducible refine(KP.out).mono ?_;rintro e w' ⟨rfl,rfl⟩)|fail)
 exact bodyPost_ret (v:=.tuple #[I 0,I 80]) (by simp[results,results74,go_sem]) rfl ⟨rfl,(G.refl w).alloc _⟩
theorem mode_r{w:World}{b:Nat}{R:Rt}{D:Nat→Prop}{vt vh va:Value}{tv:List (Tx×Value)}(h:RV w b R D vt vh va tv)(x:Int)(r:Rs)(i:Nat)(hi:idxI (fun e:Tx=>e.x==x) R.tx=(i:Int))(hl:R.tx.length<2000000000000)(hh:R.hd.length<2000000000000):Calls prog 74 #[ptr b,I x,.agg #[I r.lv,.string r.lb,I r.id]] w fun e w'=>e=.returned (.tuple #[I (if resB r then hbI x r R.hd else 0),I (if resB r then 0 else 82)])∧G w w':=by
 have g1:G w (w.alloc (.cells #[I r.lv,.string r.lb,I r.id] 33)):=(G.refl w).alloc (.cells #[I r.lv,.string r.lb,I r.id] 33)
 have KP:=hide (place_r (h.G g1) x hl)
 rw[hi] at KP
 have KR:=hide (res_r r (w.alloc (.cells #[I r.lv,.string r.lb,I r.id] 33)))
 have g2:G w ((w.alloc (.cells #[I r.lv,.string r.lb,I r.id] 33)).alloc (.cells #[I r.lv,.string r.lb,I r.id] 33)):=g1.alloc _
 have KH:=hide (heldBy_r (h.G g2) x r hh)
 have hc:=(Blk.new w [I r.lv,.string r.lb,I r.id] 33).cell
 have hc2:=((Blk.new w [I r.lv,.string r.lb,I r.id] 33).G ((G.refl _).alloc (.cells #[I r.lv,.string r.lb,I r.id] 33))).cell
 have HG1:=hide g1;have HG2:=hide g2
 have hiI:¬(i:Int)<0:=by omega
 clear h hi hl hh g1 g2
 cases hb:resB r with
 | true=>
  rw[hb] at KR
  clear hb
  rw[if_pos rfl,if_pos rfl]
  go_enter func74,ntmps74
  go_wp2_with (first|(go_at_call 22;with_reducible refine(KP.out).mono ?_;rintro e w' ⟨rfl,rfl⟩)|(go_at_call 23;with_reducible refine(KR.out).mono ?_;rintro e w' ⟨rfl,rfl⟩)|(go_at_call 26;with_reducible refine(KH.out).mono ?_;rintro e w' ⟨rfl,g9⟩)|fail)
  exact bodyPost_ret (v:=.tuple #[I (hbI x r R.hd),I 0]) (by simp[results,results74,go_sem]) rfl ⟨rfl,HG2.out.trans g9⟩
 | false=>
  rw[hb] at KR
  clear hb
  rw[if_neg (by simp),if_neg (by simp)]
  go_enter func74,ntmps74
  go_wp2_with (first|(go_at_call 22;with_reducible refine(KP.out).mono ?_;rintro e w' ⟨rfl,rfl⟩)|(go_at_call 23;with_reducible refine(KR.out).mono ?_;rintro e w' ⟨rfl,rfl⟩)|fail)
  exact bodyPost_ret (v:=.tuple #[I 0,I 82]) (by simp[results,results74,go_sem]) rfl ⟨rfl,HG2.out⟩
theorem wounders_rno{w:World}{b:Nat}{R:Rt}{D:Nat→Prop}{vt vh va:Value}{tv:List (Tx×Value)}(h:RV w b R D vt vh va tv)(x:Int)(hn:∀e∈R.tx,(e.x==x)=false)(hl:R.tx.length<2000000000000):Calls prog 51 #[ptr b,I x] w fun e w'=>e=.returned (.tuple #[.slice none 0 0,I 80])∧w'=w:=by
 have KP:=hide (place_r h x hl)
 rw[idxI_none hn] at KP
 clear h hn hl
 go_enter func51,ntmps51
 go_wp2_with (first|(go_at_call 22;with_reducible refine(KP.out).mono ?_;rintro e w' ⟨rfl,rfl⟩)|fail)
 exact bodyPost_ret (v:=.tuple #[.slice none 0 0,I 80]) (by simp[results,results51,go_sem]) rfl ⟨rfl,rfl⟩
theorem wounders_r{w:World}{b:Nat}{R:Rt}{D:Nat→Prop}{vt vh va:Value}{tv:List (Tx×Value)}(h:RV w b R D vt vh va tv)(x:Int)(i:Nat)(t:Tx)(hi:idxI (fun e:Tx=>e.x==x) R.tx=(i:Int))(ht:R.tx[i]?=some t)(hl:R.tx.length<2000000000000)(hw:t.ws.length<4100000000000):Calls prog 51 #[ptr b,I x] w fun e w'=>∃v,e=.returned (.tuple #[v,I 0])∧w'.ownsRow w.heap.size 3 1 v t.ws.length (t.ws.map fun z=>I z)∧G w w':=by
 have KP:=hide (place_r h x hl)
 rw[hi] at KP
 obtain⟨tw,htw⟩:=h.at ht
 obtain⟨ra,rcap,rfl⟩:=row_form h.rt
 obtain⟨ga,hga,kc⟩:=row_cell tx_len h.rt htw
 subst hga
 have k2:w.cell? ⟨ga,i*3+2,none⟩=some tw:=kc 2 (by omega)
 have hbc:=h.blk.cell
 obtain⟨v9,w9,r1,r2,r3⟩:=app_rows w w.heap.size 0 (.slice none 0 0) tw t.ws ⟨rfl,.inl ⟨rfl,rfl⟩⟩ (h.rw_ _ (List.mem_of_getElem? htw)) hw (Nat.le_refl _)
 have HA:=hide r1;have HR:=hide r2
 have HG:Hid (G w w9):=grown_G (G.refl w) r3 (fun k hk=>by cases hk)
 have hlt:=(List.getElem?_eq_some_iff.1 htw).1
 have hiI:(i:Int)<(tv.length:Int):=by omega
 have hi0:¬(i:Int)<0:=by omega
 have hi1:(0:Int)≤(i:Int):=by omega
 clear h hi ht hl hw kc htw r1 r2 r3 hlt
 go_enter func51,ntmps51
 go_wp2_with (first|(go_at_call 22;with_reducible refine(KP.out).mono ?_;rintro e w' ⟨rfl,rfl⟩)|(at_builtin;refine wpList_append_run rfl _ _ 42 rfl _ _ rfl rfl HA.out ?_)|fail)
 exact bodyPost_ret (v:=.tuple #[v9,I 0]) (by simp[results,results51,go_sem]) rfl ⟨_,rfl,HR.out,HG.out⟩
theorem wounded_rno{w:World}{b:Nat}{R:Rt}{D:Nat→Prop}{vt vh va:Value}{tv:List (Tx×Value)}(h:RV w b R D vt vh va tv)(x:Int)(hn:∀e∈R.tx,(e.x==x)=false)(hl:R.tx.length<2000000000000):Calls prog 78 #[ptr b,I x] w fun e w'=>e=.returned (.tuple #[.bool false,I 80])∧w'=w:=by
 have KW:=hide (wounders_rno h x hn hl)
 clear h hn hl
 go_enter func78,ntmps78
 go_wp2_with (first|(go_at_call 51;with_reducible refine(KW.out).mono ?_;rintro e w' ⟨rfl,rfl⟩)|fail)
 exact bodyPost_ret (v:=.tuple #[.bool false,I 80]) (by simp[results,results78,go_sem]) rfl ⟨rfl,rfl⟩
theorem wounded_r{w:World}{b:Nat}{R:Rt}{D:Nat→Prop}{vt vh va:Value}{tv:List (Tx×Value)}(h:RV w b R D vt vh va tv)(x:Int)(i:Nat)(t:Tx)(hi:idxI (fun e:Tx=>e.x==x) R.tx=(i:Int))(ht:R.tx[i]?=some t)(hl:R.tx.length<2000000000000)(hw:t.ws.length<4100000000000):Calls prog 78 #[ptr b,I x] w fun e w'=>e=.returned (.tuple #[.bool (decide (0<t.ws.length)),I 0])∧G w w':=by
 have KW:=hide (wounders_r h x i t hi ht hl hw)
 clear h hi ht hl hw
 by_cases h0:0<t.ws.length
 ·have h1:(0:Int)<(t.ws.length:Int):=by omega
  have e1:decide (0<t.ws.length)=true:=by simp[h0]
  rw[e1]
  clear h0 e1
  go_enter func78,ntmps78
  go_wp2_with (first|(go_at_call 51;with_reducible refine(KW.out).mono ?_;rintro e w' ⟨v9,rfl,o9,g9⟩;obtain⟨a9,c9,rfl⟩:=row_form o9)|fail)
  exact bodyPost_ret (v:=.tuple #[.bool true,I 0]) (by simp[results,results78,go_sem];omega) rfl ⟨rfl,g9⟩
 ·have h1:¬(0:Int)<(t.ws.length:Int):=by omega
  have HZ:Hid (t.ws=[]):=List.eq_nil_of_length_eq_zero (by omega)
  have e1:decide (0<t.ws.length)=false:=by simp[HZ.out]
  rw[e1]
  clear h0 e1
  go_enter func78,ntmps78
  go_wp2_with (first|(go_at_call 51;with_reducible refine(KW.out).mono ?_;rintro e w' ⟨v9,rfl,o9,g9⟩;obtain⟨a9,c9,rfl⟩:=row_form o9)|fail)
  exact bodyPost_ret (v:=.tuple #[.bool false,I 0]) (by simp[results,results78,go_sem];exact HZ.out) rfl ⟨rfl,g9⟩
end
section
open Go.RowKit
theorem waiting_rno{w:World}{b:Nat}{R:Rt}{D:Nat→Prop}{vt vh va:Value}{tv:List (Tx×Value)}(h:RV w b R D vt vh va tv)(x:Int)(hn:∀e∈R.tx,(e.x==x)=false)(hl:R.tx.length<2000000000000):Calls prog 76 #[ptr b,I x] w fun e w'=>e=.returned (.tuple #[.agg #[I 0,.string ⟨#[]⟩,I 0],I 0,I 80])∧G w w':=by
 have KP:=hide (place_r (h.G ((G.refl w).alloc (.cells #[I 0,.string ⟨#[]⟩,I 0] 33))) x hl)
 rw[idxI_none hn] at KP
 clear h hn hl
 go_enter func76,ntmps76
 go_wp2_with (first|(go_at_call 22;with_reducible refine(KP.out).mono ?_;rintro e w' ⟨rfl,rfl⟩)|fail)
 exact bodyPost_ret (v:=.tuple #[.agg #[I 0,.string ⟨#[]⟩,I 0],I 0,I 80]) (by simp[results,results76,go_sem]) rfl ⟨rfl,(G.refl w).alloc _⟩
theorem waiting_rnone{w:World}{b:Nat}{R:Rt}{D:Nat→Prop}{vt vh va:Value}{tv:List (Tx×Value)}(h:RV w b R D vt vh va tv)(x:Int)(i:Nat)(hi:idxI (fun e:Tx=>e.x==x) R.tx=(i:Int))(hn:∀e∈R.aq,(e.x==x)=false)(hl:R.tx.length<2000000000000)(hq:R.aq.length<2000000000000):Calls prog 76 #[ptr b,I x] w fun e w'=>e=.returned (.tuple #[.agg #[I 0,.string ⟨#[]⟩,I 0],I 0,I 0])∧G w w':=by
 have KP:=hide (place_r (h.G ((G.refl w).alloc (.cells #[I 0,.string ⟨#[]⟩,I 0] 33))) x hl)
 have KQ:=hide (request_r (h.G ((G.refl w).alloc (.cells #[I 0,.string ⟨#[]⟩,I 0] 33))) x hq)
 rw[hi] at KP
 rw[idxI_none hn] at KQ
 have hiI:¬(i:Int)<0:=by omega
 clear h hi hn hl hq
 go_enter func76,ntmps76
 go_wp2_with (first|(go_at_call 22;with_reducible refine(KP.out).mono ?_;rintro e w' ⟨rfl,rfl⟩)|(go_at_call 25;with_reducible refine(KQ.out).mono ?_;rintro e w' ⟨rfl,rfl⟩)|fail)
 exact bodyPost_ret (v:=.tuple #[.agg #[I 0,.string ⟨#[]⟩,I 0],I 0,I 0]) (by simp[results,results76,go_sem]) rfl ⟨rfl,(G.refl w).alloc _⟩
theorem waiting_r{w:World}{b:Nat}{R:Rt}{D:Nat→Prop}{vt vh va:Value}{tv:List (Tx×Value)}(h:RV w b R D vt vh va tv)(x:Int)(i:Nat)(hi:idxI (fun e:Tx=>e.x==x) R.tx=(i:Int))(n:Nat)(q:Lk)(hj:idxI (fun e:Lk=>e.x==x) R.aq=(n:Int))(hjq:R.aq[n]?=some q)(hl:R.tx.length<2000000000000)(hq:R.aq.length<2000000000000):Calls prog 76 #[ptr b,I x] w fun e w'=>e=.returned (.tuple #[.agg #[I q.r.lv,.string q.r.lb,I q.r.id],I q.c,I 0])∧G w w':=by
 have gA:G w (w.alloc (.cells #[I 0,.string ⟨#[]⟩,I 0] 33)):=(G.refl w).alloc (.cells #[I 0,.string ⟨#[]⟩,I 0] 33)
 have KP:=hide (place_r (h.G gA) x hl)
 have KQ:=hide (request_r (h.G gA) x hq)
 rw[hi] at KP
 rw[hj] at KQ
 have hiI:¬(i:Int)<0:=by omega
 have hjI:¬(n:Int)<0:=by omega
 have hj0:(0:Int)≤(n:Int):=by omega
 have hlt:=(List.getElem?_eq_some_iff.1 hjq).1
 have hjl:(n:Int)<(R.aq.length:Int):=by omega
 have hj2:n<R.aq.length:=hlt
 obtain⟨ra,rcap,rfl⟩:=row_form h.ra
 obtain⟨ga,hga,kc⟩:=row_cell lk_len h.ra hjq
 subst hga
 have k1:w.cell? ⟨ga,n*6+1,none⟩=some (I q.r.lv):=kc 1 (by omega)
 have k2:w.cell? ⟨ga,n*6+1+1,none⟩=some (.string q.r.lb):=kc 2 (by omega)
 have k3:w.cell? ⟨ga,n*6+1+2,none⟩=some (I q.r.id):=kc 3 (by omega)
 have k4:w.cell? ⟨ga,n*6+4,none⟩=some (I q.c):=kc 4 (by omega)
 have hgl:ga<w.heap.size:=h.dl _ (h.da _ rfl)
 have hbl:b<w.heap.size:=h.blk.lt
 have hne:¬ga=w.heap.size:=by omega
 have hnb:¬b=w.heap.size:=by omega
 have hbc0:=h.blk.cell
 have HR:=hide h
 have HBX:=hide (Blk.new w [I 0,.string ⟨#[]⟩,I 0] 33)
 clear h hi hj hjq hl hq gA hlt kc
 go_enter func76,ntmps76
 go_wp2_with (first|(go_at_call 22;with_reducible refine(KP.out).mono ?_;rintro e w' ⟨rfl,rfl⟩)|(go_at_call 25;with_reducible refine(KQ.out).mono ?_;rintro e w' ⟨rfl,rfl⟩)|fail)
 have hR:=HR.out.G (((G.refl w).alloc (.cells #[I 0,.string ⟨#[]⟩,I 0] 33)).drew)
 have hbc:=hR.blk.cell
 have m1:((w.alloc (.cells #[I 0,.string ⟨#[]⟩,I 0] 33)).drew).cell? ⟨ga,n*6+1,none⟩=some (I q.r.lv):=(((G.refl w).alloc _).drew.cell hgl).trans k1
 have m2:((w.alloc (.cells #[I 0,.string ⟨#[]⟩,I 0] 33)).drew).cell? ⟨ga,n*6+1+1,none⟩=some (.string q.r.lb):=(((G.refl w).alloc _).drew.cell hgl).trans k2
 have m3:((w.alloc (.cells #[I 0,.string ⟨#[]⟩,I 0] 33)).drew).cell? ⟨ga,n*6+1+2,none⟩=some (I q.r.id):=(((G.refl w).alloc _).drew.cell hgl).trans k3
 have m4:((w.alloc (.cells #[I 0,.string ⟨#[]⟩,I 0] 33)).drew).cell? ⟨ga,n*6+4,none⟩=some (I q.c):=(((G.refl w).alloc _).drew.cell hgl).trans k4
 have hx1:=HBX.out.drew.cell
 have hx2:=HBX.out.drew.frozen
 clear hR
 go_region
 all_goals go_wp2
 all_goals exact bodyPost_ret (v:=.tuple #[.agg #[I q.r.lv,.string q.r.lb,I q.r.id],I q.c,I 0]) (by simp[results,results76,go_sem]) rfl ⟨rfl,((G.refl w).alloc _).drew⟩
end
section
open Go.RowKit
def putsP(l:List Int):List Int:=l.foldl (fun acc x=>insP x acc) []
theorem putsP_snoc(l:List Int)(x:Int):putsP (l++[x])=insP x (putsP l):=by
 unfold putsP
 rw[List.foldl_append];rfl
theorem putsP_go:∀(l acc:List Int),acc.Pairwise (·<·)→(l.foldl (fun acc x=>insP x acc) acc).Pairwise (·<·)∧(l.foldl (fun acc x=>insP x acc) acc).length≤acc.length+l.length∧∀y,y∈l.foldl (fun acc x=>insP x acc) acc↔y∈acc∨y∈l
 | [],acc,h=>⟨h,Nat.le_refl _,fun y=>by simp⟩
 | x::l,acc,h=>by
  obtain⟨h1,h2,h3⟩:=putsP_go l (insP x acc) (insP_up h)
  refine⟨h1,?_,fun y=>?_⟩
  ·rw[List.length_cons]
   have:=insP_len1 x acc
   show(l.foldl (fun acc x=>insP x acc) (insP x acc)).length≤_
   omega
  ·show y∈l.foldl (fun acc x=>insP x acc) (insP x acc)↔_
   rw[h3,insP_mem,List.mem_cons]
   constructor
   ·rintro((h|h)|h)
    ·exact .inr (.inl h)
    ·exact .inl h
    ·exact .inr (.inr h)
   ·rintro(h|h|h)
    ·exact .inl (.inr h)
    ·exact .inl (.inl h)
    ·exact .inr h
theorem putsP_up(l:List Int):(putsP l).Pairwise (·<·):=(putsP_go l [] .nil).1
theorem putsP_len(l:List Int):(putsP l).length≤l.length:=by
 have:=(putsP_go l [] .nil).2.1
 rw[List.length_nil,Nat.zero_add] at this
 exact this
theorem putsP_mem(l:List Int)(y:Int):y∈putsP l↔y∈l:=by
 have:=(putsP_go l [] .nil).2.2 y
 rw[putsP,this];simp
def livP(R:Rt):List Int:=putsP (R.tx.map Tx.x)
theorem live_r{w:World}{b:Nat}{R:Rt}{D:Nat→Prop}{vt vh va:Value}{tv:List (Tx×Value)}(h:RV w b R D vt vh va tv)(hl:R.tx.length<400000000000):Calls prog 46 #[ptr b] w fun e w'=>∃v,e=.returned v∧w'.ownsRow w.heap.size 3 1 v (livP R).length ((livP R).map fun z=>I z)∧G w w':=by
 obtain⟨ra,rcap,rfl⟩:=row_form h.rt
 have H:=hide h;have HLL:=hide hl
 clear h hl
 go_enter func46,ntmps46
 go_wp2_with fail
 go_loopw [3,4] (fun ov iv wr=>∃n:Nat,n≤tv.length∧iv=I (n:Int)∧wr.ownsRow w.heap.size 3 1 ov (putsP ((R.tx.take n).map Tx.x)).length ((putsP ((R.tx.take n).map Tx.x)).map fun z=>I z)∧G w wr) (fun _ iv _=>tv.length-(RowKit.intOf iv).toNat)
 case atStart=>exact⟨0,Nat.zero_le _,rfl,⟨rfl,.inl ⟨rfl,rfl⟩⟩,G.refl _⟩
 case round=>
  obtain⟨n,hn,rfl,how,hgw⟩:=hrel
  have hll:=HLL.out
  have hR:=H.out.G hgw
  have htl:=hR.tl
  have hbc:=hR.blk.cell
  by_cases hlt:n<tv.length
  ·obtain⟨⟨e,ev⟩,he⟩:∃a,tv[n]?=some a:=⟨_,List.getElem?_eq_getElem hlt⟩
   obtain⟨ga,hga,kc⟩:=row_cell tx_len hR.rt he
   subst hga
   have k0:wr.cell? ⟨ga,n*3,none⟩=some (I e.x):=kc 0 (by omega)
   have hnI:(n:Int)<(tv.length:Int):=by omega
   have hwn:wrap64 ((n:Int)+1)=(n:Int)+1:=by unfold wrap64;omega
   have hst:putsP ((R.tx.take (n+1)).map Tx.x)=insP e.x (putsP ((R.tx.take n).map Tx.x)):=by
    rw[List.take_add_one,at_fst H.out.tm he,Option.toList_some,List.map_append]
    exact putsP_snoc _ _
   have hpl:=putsP_len ((R.tx.take n).map Tx.x)
   rw[List.length_map,List.length_take] at hpl
   have KP:=hide (put_r wr w.heap.size u3 _ e.x how (putsP_up _) (by omega))
   have HWN:=hide hwn;have HLT:=hide hlt;have HGW:=hide hgw;have HST:=hide hst
   clear hn hlt he hwn kc hll hgw hR how hst hpl htl
   go_wp2_with (first|(go_at_call 64;with_reducible refine(KP.out).mono ?_;rintro e w9 ⟨v9,rfl,o9,g9⟩)|fail)
   exact⟨⟨n+1,HLT.out,by rw[HWN.out];exact rl1 n,by rw[HST.out];exact own_lo o9 HGW.out.size,HGW.out.trans g9⟩,by rw[HWN.out];exact ms_end HLT.out⟩
  ·have hne:n=tv.length:=by omega
   have hnI:¬((n:Int)<(tv.length:Int)):=by omega
   rw[hne,htl,List.take_length] at how
   have HGW:=hide hgw;have HOW:=hide how
   have hnI2:¬((tv.length:Int)<(tv.length:Int)):=by omega
   subst hne
   clear hn hlt hll hgw hR how htl
   go_wp2_with fail
   go_ret
   exact⟨_,rfl,HOW.out,HGW.out⟩
end
section
open Go.RowKit
theorem own_setK{W:World}{z e k n g cap j:Nat}{xs:List Value}{x:Value}(h:W.ownsRow z e k (.slice (some ⟨g,0,none⟩) n cap) n xs):(W.setCell ⟨g,j,none⟩ x).ownsRow z e k (.slice (some ⟨g,0,none⟩) n cap) n (xs.set j x):=by
 obtain⟨hl,h2⟩:=h
 refine⟨by rw[List.length_set];exact hl,?_⟩
 rcases h2 with ⟨h0,_⟩|⟨g',cap',cur,hv,hb,hg,hc,hm,hs,ht⟩
 ·cases h0
 ·cases hv
  refine .inr ⟨g,cap,cur.setIfInBounds j x,rfl,hb,?_,hc,hm,by simpa using hs,?_⟩
  ·simp[World.setCell,Array.getElem?_modify,hg]
  ·rw[Array.toList_setIfInBounds,List.take_set,ht]
theorem own_frozen{W:World}{z e k n g cap j:Nat}{xs:List Value}(h:W.ownsRow z e k (.slice (some ⟨g,0,none⟩) n cap) n xs):W.frozen? ⟨g,j,none⟩=false:=by
 rcases h.2 with ⟨h0,_⟩|⟨g',cap',cur,hv,hb,hg,_⟩
 ·cases h0
 ·cases hv
  simp[World.frozen?,hg]
theorem flat_set{α:Type}(f:α→List Value)(k:Nat)(hf:∀a,(f a).length=k):∀(l:List α) (n:Nat) (a a':α) (j:Nat) (v:Value),l[n]?=some a→j<k→f a'=(f a).set j v→(l.flatMap f).set (n*k+j) v=(l.set n a').flatMap f
 | [],n,a,a',j,v,h,_,_=>by simp at h
 | c::l,0,a,a',j,v,h,hj,he=>by
  simp at h
  subst h
  show(f c++l.flatMap f).set (0*k+j) v=f a'++l.flatMap f
  rw[Nat.zero_mul,Nat.zero_add,List.set_append,if_pos (by rw[hf];exact hj),he]
 | c::l,n+1,a,a',j,v,h,hj,he=>by
  have h1:=flat_set f k hf l n a a' j v (by simpa using h) hj he
  show(f c++l.flatMap f).set ((n+1)*k+j) v=f c++(l.set n a').flatMap f
  have e:(n+1)*k+j=k+(n*k+j):=by rw[Nat.succ_mul];omega
  rw[e,List.set_append,hf,if_neg (by omega),Nat.add_sub_cancel_left,h1]
theorem lkc_app(a b:List Lk):lkc (a++b)=lkc a++lkc b:=by simp[lkc]
theorem txc_app(a b:List (Tx×Value)):txc (a++b)=txc a++txc b:=by simp[txc]
theorem lkc_one{l:List Lk}:∀u∈lkc l,u.oneCell'=true:=fun u hu=>by
 obtain⟨a,-,ha⟩:=List.mem_flatMap.1 hu
 simp[Lk.cs] at ha
 rcases ha with rfl|rfl|rfl|rfl|rfl|rfl<;>rfl
theorem app_lk(w:World)(lo:Nat)(u:Value)(l ns:List Lk)(hu:w.ownsRow lo 73 6 u l.length (lkc l))(a:Addr)(m c:Nat)(hm:m=ns.length)(hc:∀j u,(lkc ns)[j]?=some u→w.cell? (a.add j)=some u)(hl:l.length+ns.length<2000000000000)(hlo:lo≤w.heap.size) :
  ∃v' w',(Builtin.append_ #[87,87] 87 #[u,.slice (some a) m c]).run prog w=.ok v' w'∧w'.ownsRow lo 73 6 v' (l++ns).length (lkc (l++ns))∧w.grownBy w' u.ownBlock∧(v'.ownBlock=u.ownBlock∨v'.ownBlock=some w.heap.size):=by
 obtain⟨i0,hi,hz0,hz1,hz2⟩:=info_parts (show(prog.info? 73).map (fun i=>(i.zero,i.size,i.bytes))=some (some (.agg #[.int .i64 0,.int .i64 0,.string ByteArray.empty,.int .i64 0,.int .i64 0,.bool false]),6,56)from by kernel_rfl)
 have hmx:(2000000000000:Nat)≤maxLen:=of_decide_eq_true (by kernel_rfl)
 obtain⟨v',w9,q1,q2,q3,-,q5⟩:=run_append_own_at (P:=prog) (w:=w) lo 87 87 73 i0 _ 6 56 underlying87 hi hz0 hz1 hz2 rfl (by decide) u _ _ hu a m c (lkc ns) (by rw[hm];exact flat_len Lk.cs 6 lk_len ns) hc lkc_one (by omega) (by omega) hlo
 refine⟨v',w9,q1,?_,q3,q5⟩
 rw[lkc_app,List.length_append,←hm]
 exact q2
theorem app_lk0(w:World)(lo:Nat)(u:Value)(l:List Lk)(hu:w.ownsRow lo 73 6 u l.length (lkc l)):(Builtin.append_ #[87,87] 87 #[u,.slice none 0 0]).run prog w=.ok u w:=by
 obtain⟨i0,hi,hz0,hz1,hz2⟩:=info_parts (show(prog.info? 73).map (fun i=>(i.zero,i.size,i.bytes))=some (some (.agg #[.int .i64 0,.int .i64 0,.string ByteArray.empty,.int .i64 0,.int .i64 0,.bool false]),6,56)from by kernel_rfl)
 exact run_append_owned_none w lo 87 87 73 i0 6 underlying87 hi u _ _ hu
theorem app_tx(w:World)(lo:Nat)(u:Value)(l ns:List (Tx×Value))(hu:w.ownsRow lo 115 3 u l.length (txc l))(a:Addr)(m c:Nat)(hm:m=ns.length)(hc:∀j u,(txc ns)[j]?=some u→w.cell? (a.add j)=some u)(h1:∀u∈txc ns,u.oneCell'=true)(hl:l.length+ns.length<2000000000000)(hlo:lo≤w.heap.size) :
  ∃v' w',(Builtin.append_ #[86,86] 86 #[u,.slice (some a) m c]).run prog w=.ok v' w'∧w'.ownsRow lo 115 3 v' (l++ns).length (txc (l++ns))∧w.grownBy w' u.ownBlock∧(v'.ownBlock=u.ownBlock∨v'.ownBlock=some w.heap.size):=by
 obtain⟨i0,hi,hz0,hz1,hz2⟩:=info_parts (show(prog.info? 115).map (fun i=>(i.zero,i.size,i.bytes))=some (some (.agg #[.int .i64 0,.int .i64 0,.slice none 0 0]),3,40)from by kernel_rfl)
 have hmx:(2000000000000:Nat)≤maxLen:=of_decide_eq_true (by kernel_rfl)
 obtain⟨v',w9,q1,q2,q3,-,q5⟩:=run_append_own_at (P:=prog) (w:=w) lo 86 86 115 i0 _ 3 40 underlying86 hi hz0 hz1 hz2 rfl (by decide) u _ _ hu a m c (txc ns) (by rw[hm];exact flat_len txC 3 tx_len ns) hc h1 (by omega) (by omega) hlo
 refine⟨v',w9,q1,?_,q3,q5⟩
 rw[txc_app,List.length_append,←hm]
 exact q2
def Rst(w:World)(D:Nat→Prop)(b:Nat)(R':Rt)(w':World):Prop:=∃D':Nat→Prop,RT w' b R' D'∧Chg D w w'∧∀k,D' k→D k∨w.heap.size≤k
theorem Rst.of_G{w w':World}{b:Nat}{R:Rt}{D:Nat→Prop}(h:RT w b R D)(g:G w w'):Rst w D b R w':=⟨D,h.G g,g.chg,fun _ hk=>.inl hk⟩
section
variable {w w2:World} {b:Nat} {R:Rt} {D:Nat→Prop} {vt vh va v9:Value} {tv:List (Tx×Value)}
theorem RV.ends(_h:RV w b R D vt vh va tv){w':World}{D':Nat→Prop}{R':Rt}{vt' vh' va':Value}{tv':List (Tx×Value)}(h':RV w' b R' D' vt' vh' va' tv')(c:Chg D w w')(hd:∀k,D' k→D k∨w.heap.size≤k):Rst w D b R' w':=⟨D',⟨_,_,_,_,h'⟩,c,hd⟩
theorem RV.putA(h:RV w b R D vt vh va tv)(c:Chg (fun k=>va.ownBlock=some k) w w2){aq:List Lk}(hv:w2.ownsRow 0 73 6 v9 aq.length (lkc aq))(ho:∀k,v9.ownBlock=some k→va.ownBlock=some k∨w.heap.size≤k) :
  RV (w2.setCell ⟨b,2,none⟩ v9) b ⟨R.tx,R.hd,aq⟩ (fun k=>D k∨v9.ownBlock=some k) vt vh v9 tv∧Chg D w (w2.setCell ⟨b,2,none⟩ v9)∧∀k,(D k∨v9.ownBlock=some k)→D k∨w.heap.size≤k:=by
 have hnb:¬va.ownBlock=some b:=own_ne h.ra h.blk (by decide)
 have hb2:=h.blk.chg c hnb
 have c2:Chg (fun k=>k=b) w2 (w2.setCell ⟨b,2,none⟩ v9):=chg_setCell w2 v9 (.inl rfl)
 have hnew:∀k,(D k∨v9.ownBlock=some k)→D k∨w.heap.size≤k:=fun k hk=>by
  rcases hk with hk|hk
  ·exact .inl hk
  ·rcases ho k hk with hk|hk
   ·exact .inl (h.da k hk)
   ·exact .inr hk
 refine⟨⟨h.tm,hb2.set 2 v9,own_chg (own_chg h.rt c (fun k hk e=>own_apart h.rt h.ra (by decide) k hk e)) c2 (fun k hk e=>own_ne h.rt h.blk (by decide) (e▸hk)),own_chg (own_chg h.rh c (fun k hk e=>h.sp k hk e)) c2 (fun k hk e=>own_ne h.rh h.blk (by decide) (e▸hk)),own_chg hv c2 (fun k hk e=>own_ne hv hb2 (by decide) (e▸hk)),fun e he=>own_chg (own_chg (h.rw_ e he) c (fun k hk e2=>own_apart (h.rw_ e he) h.ra (by decide) k hk e2)) c2 (fun k hk e2=>own_ne (h.rw_ e he) h.blk (by decide) (e2▸hk)),.inl h.db,fun k hk=>.inl (h.dt k hk),fun k hk=>.inl (h.dh k hk),fun k hk=>.inr hk,fun e he k hk=>.inl (h.dw e he k hk),fun k hk e=>?_,fun k hk=>?_⟩,?_,hnew⟩
 ·rcases ho k e with e2|e2
  ·exact h.sp k hk e2
  ·have:=own_lt h.rh hk;omega
 ·have hs:(w2.setCell ⟨b,2,none⟩ v9).heap.size=w2.heap.size:=World.size_setCell _ _ _
  rw[hs]
  rcases hk with hk|hk
  ·exact Nat.lt_of_lt_of_le (h.dl k hk) c.size
  ·exact own_lt hv hk
 ·exact(c.mono (fun k hk=>h.da k hk)).trans (c2.mono (fun k hk=>hk▸h.db))
theorem RV.putH(h:RV w b R D vt vh va tv)(c:Chg (fun k=>vh.ownBlock=some k) w w2){hd:List Lk}(hv:w2.ownsRow 0 73 6 v9 hd.length (lkc hd))(ho:∀k,v9.ownBlock=some k→vh.ownBlock=some k∨w.heap.size≤k) :
  RV (w2.setCell ⟨b,1,none⟩ v9) b ⟨R.tx,hd,R.aq⟩ (fun k=>D k∨v9.ownBlock=some k) vt v9 va tv∧Chg D w (w2.setCell ⟨b,1,none⟩ v9)∧∀k,(D k∨v9.ownBlock=some k)→D k∨w.heap.size≤k:=by
 have hnb:¬vh.ownBlock=some b:=own_ne h.rh h.blk (by decide)
 have hb2:=h.blk.chg c hnb
 have c2:Chg (fun k=>k=b) w2 (w2.setCell ⟨b,1,none⟩ v9):=chg_setCell w2 v9 (.inl rfl)
 have hnew:∀k,(D k∨v9.ownBlock=some k)→D k∨w.heap.size≤k:=fun k hk=>by
  rcases hk with hk|hk
  ·exact .inl hk
  ·rcases ho k hk with hk|hk
   ·exact .inl (h.dh k hk)
   ·exact .inr hk
 refine⟨⟨h.tm,hb2.set 1 v9,own_chg (own_chg h.rt c (fun k hk e=>own_apart h.rt h.rh (by decide) k hk e)) c2 (fun k hk e=>own_ne h.rt h.blk (by decide) (e▸hk)),own_chg hv c2 (fun k hk e=>own_ne hv hb2 (by decide) (e▸hk)),own_chg (own_chg h.ra c (fun k hk e=>h.sp k e hk)) c2 (fun k hk e=>own_ne h.ra h.blk (by decide) (e▸hk)),fun e he=>own_chg (own_chg (h.rw_ e he) c (fun k hk e2=>own_apart (h.rw_ e he) h.rh (by decide) k hk e2)) c2 (fun k hk e2=>own_ne (h.rw_ e he) h.blk (by decide) (e2▸hk)),.inl h.db,fun k hk=>.inl (h.dt k hk),fun k hk=>.inr hk,fun k hk=>.inl (h.da k hk),fun e he k hk=>.inl (h.dw e he k hk),fun k hk e=>?_,fun k hk=>?_⟩,?_,hnew⟩
 ·rcases ho k hk with e2|e2
  ·exact h.sp k e2 e
  ·have:=own_lt h.ra e;omega
 ·have hs:(w2.setCell ⟨b,1,none⟩ v9).heap.size=w2.heap.size:=World.size_setCell _ _ _
  rw[hs]
  rcases hk with hk|hk
  ·exact Nat.lt_of_lt_of_le (h.dl k hk) c.size
  ·exact own_lt hv hk
 ·exact(c.mono (fun k hk=>h.dh k hk)).trans (c2.mono (fun k hk=>hk▸h.db))
theorem RV.putT(h:RV w b R D vt vh va tv)(c:Chg (fun k=>vt.ownBlock=some k) w w2){tv':List (Tx×Value)}(hv:w2.ownsRow 0 115 3 v9 tv'.length (txc tv'))(ho:∀k,v9.ownBlock=some k→vt.ownBlock=some k∨w.heap.size≤k)
  (hw:∀e∈tv',e∈tv∨(e.1.ws=[]∧e.2=.slice none 0 0)) :
  RV (w2.setCell ⟨b,0,none⟩ v9) b ⟨tv'.map Prod.fst,R.hd,R.aq⟩ (fun k=>D k∨v9.ownBlock=some k) v9 vh va tv'∧Chg D w (w2.setCell ⟨b,0,none⟩ v9)∧∀k,(D k∨v9.ownBlock=some k)→D k∨w.heap.size≤k:=by
 have hnb:¬vt.ownBlock=some b:=own_ne h.rt h.blk (by decide)
 have hb2:=h.blk.chg c hnb
 have c2:Chg (fun k=>k=b) w2 (w2.setCell ⟨b,0,none⟩ v9):=chg_setCell w2 v9 (.inl rfl)
 have hnew:∀k,(D k∨v9.ownBlock=some k)→D k∨w.heap.size≤k:=fun k hk=>by
  rcases hk with hk|hk
  ·exact .inl hk
  ·rcases ho k hk with hk|hk
   ·exact .inl (h.dt k hk)
   ·exact .inr hk
 refine⟨⟨rfl,hb2.set 0 v9,own_chg hv c2 (fun k hk e=>own_ne hv hb2 (by decide) (e▸hk)),own_chg (own_chg h.rh c (fun k hk e=>own_apart h.rh h.rt (by decide) k hk e)) c2 (fun k hk e=>own_ne h.rh h.blk (by decide) (e▸hk)),own_chg (own_chg h.ra c (fun k hk e=>own_apart h.ra h.rt (by decide) k hk e)) c2 (fun k hk e=>own_ne h.ra h.blk (by decide) (e▸hk)),fun e he=>?_,.inl h.db,fun k hk=>.inr hk,fun k hk=>.inl (h.dh k hk),fun k hk=>.inl (h.da k hk),fun e he k hk=>?_,h.sp,fun k hk=>?_⟩,?_,hnew⟩
 ·rcases hw e he with h1|⟨h1,h2⟩
  ·exact own_chg (own_chg (h.rw_ e h1) c (fun k hk e2=>own_apart (h.rw_ e h1) h.rt (by decide) k hk e2)) c2 (fun k hk e2=>own_ne (h.rw_ e h1) h.blk (by decide) (e2▸hk))
  ·rw[h1,h2]
   exact⟨rfl,.inl ⟨rfl,rfl⟩⟩
 ·rcases hw e he with h1|⟨h1,h2⟩
  ·exact .inl (h.dw e h1 k hk)
  ·rw[h2] at hk;cases hk
 ·have hs:(w2.setCell ⟨b,0,none⟩ v9).heap.size=w2.heap.size:=World.size_setCell _ _ _
  rw[hs]
  rcases hk with hk|hk
  ·exact Nat.lt_of_lt_of_le (h.dl k hk) c.size
  ·exact own_lt hv hk
 ·exact(c.mono (fun k hk=>h.dt k hk)).trans (c2.mono (fun k hk=>hk▸h.db))
theorem RV.setH{gh cap:Nat}(h:RV w b R D vt (.slice (some ⟨gh,0,none⟩) R.hd.length cap) va tv){i:Nat}{e:Lk}(he:R.hd[i]?=some e)(c:Int) :
  RV (w.setCell ⟨gh,i*6+4,none⟩ (I c)) b ⟨R.tx,R.hd.set i {e with c:=c},R.aq⟩ D vt (.slice (some ⟨gh,0,none⟩) R.hd.length cap) va tv∧Chg D w (w.setCell ⟨gh,i*6+4,none⟩ (I c)):=by
 have c2:Chg (fun k=>k=gh) w (w.setCell ⟨gh,i*6+4,none⟩ (I c)):=chg_setCell w _ (.inl rfl)
 have hob:(Value.slice (some ⟨gh,0,none⟩) R.hd.length cap).ownBlock=some gh:=rfl
 have hrow:=own_setK (j:=i*6+4) (x:=I c) h.rh
 have he2:(lkc R.hd).set (i*6+4) (I c)=lkc (R.hd.set i {e with c:=c}):=flat_set Lk.cs 6 lk_len R.hd i e {e with c:=c} 4 (I c) he (by omega) rfl
 rw[he2] at hrow
 refine⟨⟨h.tm,h.blk.chg c2 (fun e2=>own_ne h.rh h.blk (by decide) (e2▸hob)),own_chg h.rt c2 (fun k hk e2=>own_apart h.rt h.rh (by decide) k hk (e2▸hob)),by rw[List.length_set];exact hrow,own_chg h.ra c2 (fun k hk e2=>h.sp k (e2▸hob) hk),fun a ha=>own_chg (h.rw_ a ha) c2 (fun k hk e2=>own_apart (h.rw_ a ha) h.rh (by decide) k hk (e2▸hob)),h.db,h.dt,h.dh,h.da,h.dw,h.sp,fun k hk=>?_⟩,c2.mono (fun k hk=>hk▸h.dh gh rfl)⟩
 have hs:(w.setCell ⟨gh,i*6+4,none⟩ (I c)).heap.size=w.heap.size:=World.size_setCell _ _ _
 rw[hs];exact h.dl k hk
theorem RV.setW{gt cap:Nat}(h:RV w b R D (.slice (some ⟨gt,0,none⟩) tv.length cap) vh va tv){w1:World}(g:Go.Proofs.YtadfaiciolfgjaaGreatDoor.G w w1){u:Nat}{e:Tx}{ev:Value}(he:tv[u]?=some (e,ev)){ws:List Int}(hv:w1.ownsRow w.heap.size 3 1 v9 ws.length (ws.map fun z=>I z)) :
  RV (w1.setCell ⟨gt,u*3+2,none⟩ v9) b ⟨R.tx.set u ⟨e.x,e.st,ws⟩,R.hd,R.aq⟩ (fun k=>D k∨v9.ownBlock=some k) (.slice (some ⟨gt,0,none⟩) tv.length cap) vh va (tv.set u (⟨e.x,e.st,ws⟩,v9))∧Chg D w (w1.setCell ⟨gt,u*3+2,none⟩ v9)∧∀k,(D k∨v9.ownBlock=some k)→D k∨w.heap.size≤k:=by
 have h1:=h.G g
 have c2:Chg (fun k=>k=gt) w1 (w1.setCell ⟨gt,u*3+2,none⟩ v9):=chg_setCell w1 _ (.inl rfl)
 have hob:(Value.slice (some ⟨gt,0,none⟩) tv.length cap).ownBlock=some gt:=rfl
 have hrow:=own_setK (j:=u*3+2) (x:=v9) h1.rt
 have he2:(txc tv).set (u*3+2) v9=txc (tv.set u (⟨e.x,e.st,ws⟩,v9)):=flat_set txC 3 tx_len tv u (e,ev) (⟨e.x,e.st,ws⟩,v9) 2 v9 he (by omega) rfl
 rw[he2] at hrow
 have hnew:∀k,(D k∨v9.ownBlock=some k)→D k∨w.heap.size≤k:=fun k hk=>by
  rcases hk with hk|hk
  ·exact .inl hk
  ·exact .inr (World.ownsRow.lt hv k hk).1
 have hs:(w1.setCell ⟨gt,u*3+2,none⟩ v9).heap.size=w1.heap.size:=World.size_setCell _ _ _
 have hset:∀a∈tv.set u (⟨e.x,e.st,ws⟩,v9),a∈tv∨a=(⟨e.x,e.st,ws⟩,v9):=fun a ha=>List.mem_or_eq_of_mem_set ha
 refine⟨⟨by rw[List.map_set,h.tm],h1.blk.chg c2 (fun e2=>own_ne h1.rt h1.blk (by decide) (e2▸hob)),by rw[List.length_set];exact hrow,own_chg h1.rh c2 (fun k hk e2=>own_apart h1.rh h1.rt (by decide) k hk (e2▸hob)),own_chg h1.ra c2 (fun k hk e2=>own_apart h1.ra h1.rt (by decide) k hk (e2▸hob)),fun a ha=>?_,.inl h.db,fun k hk=>.inl (h.dt k hk),fun k hk=>.inl (h.dh k hk),fun k hk=>.inl (h.da k hk),fun a ha k hk=>?_,h.sp,fun k hk=>?_⟩,(g.chg.mono (fun k hk=>hk)).trans (c2.mono (fun k hk=>hk▸h.dt gt rfl)),hnew⟩
 ·rcases hset a ha with ha|rfl
  ·exact own_chg (h1.rw_ a ha) c2 (fun k hk e2=>own_apart (h1.rw_ a ha) h1.rt (by decide) k hk (e2▸hob))
  ·exact own_chg (own_lo hv (Nat.zero_le _)) c2 (fun k hk e2=>own_apart hv h1.rt (by decide) k hk (e2▸hob))
 ·rcases hset a ha with ha|rfl
  ·exact .inl (h.dw a ha k hk)
  ·exact .inr hk
 ·rw[hs]
  rcases hk with hk|hk
  ·exact Nat.lt_of_lt_of_le (h.dl k hk) g.size
  ·exact own_lt hv hk
end
end
end Go.Proofs.YtadfaiciolfgjaaGreatDoor
