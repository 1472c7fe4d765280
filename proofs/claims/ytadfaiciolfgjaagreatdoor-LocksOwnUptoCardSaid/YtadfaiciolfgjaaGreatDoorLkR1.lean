import Derived.LoopTactic
import Derived.Test.YtadfaiciolfgjaaGreatDoorLp1
namespace Go.Proofs.YtadfaiciolfgjaaGreatDoor
open Go.Proofs.Tryz
set_option maxHeartbeats 1000000
set_option maxRecDepth 100000
section
open Go.RowKit
theorem at_fst{tv:List (Tx×Value)}{l:List Tx}(h:tv.map Prod.fst=l){n:Nat}{e:Tx}{v:Value}(hn:tv[n]?=some (e,v)):l[n]?=some e:=by
 rw[←h,List.getElem?_map,hn];rfl
theorem place_r{w:World}{b:Nat}{R:Rt}{D:Nat→Prop}{vt vh va:Value}{tv:List (Tx×Value)}(h:RV w b R D vt vh va tv)(x:Int)(hl:R.tx.length<2000000000000):Calls prog 22 #[ptr b,I x] w fun e w'=>e=.returned (I (idxI (fun e:Tx=>e.x==x) R.tx))∧w'=w:=by
 obtain⟨ra,rcap,rfl⟩:=row_form h.rt
 have hbc:=h.blk.cell
 have H:=hide h;have HL:=hide hl
 clear h hl
 go_enter func22,ntmps22
 go_wp2_with fail
 go_loopw [5] (fun iv wr=>∃n:Nat,n≤tv.length∧iv=I (n:Int)∧wr=w∧∀(j:Nat) (e:Tx),j<n→R.tx[j]?=some e→(e.x==x)=false) (fun iv _=>tv.length-(RowKit.intOf iv).toNat)
 case atStart=>exact⟨0,Nat.zero_le _,rfl,rfl,fun j e hj _=>by omega⟩
 case round=>
  obtain⟨n,hn,rfl,hwr,hno⟩:=hrel
  subst hwr
  have hll:=HL.out
  have htl:=H.out.tl
  by_cases hlt:n<tv.length
  ·obtain⟨⟨e,ev⟩,he⟩:∃a,tv[n]?=some a:=⟨_,List.getElem?_eq_getElem hlt⟩
   obtain⟨ga,hga,kc⟩:=row_cell tx_len H.out.rt he
   subst hga
   have k0:wr.cell? ⟨ga,n*3,none⟩=some (I e.x):=kc 0 (by omega)
   have hnI:(n:Int)<(tv.length:Int):=by omega
   have hwn:wrap64 ((n:Int)+1)=(n:Int)+1:=by unfold wrap64;omega
   have HWN:=hide hwn;have HLT:=hide hlt;have HE:=hide (at_fst H.out.tm he);have HNO:=hide hno
   clear hn hno hlt he hwn kc hll htl
   by_cases e1:e.x=x
   ·rw[e1] at k0
    have HE1:=hide e1
    clear e1
    go_wp2
    go_ret
    rw[idxI_some HE.out (by simp[HE1.out]) (fun j c hj hc=>HNO.out j c hj hc)]
    exact⟨rfl,rfl⟩
   ·have d1:(e.x==x)=false:=by simp[e1]
    have d2:decide (e.x=x)=false:=by simp[e1]
    have HD1:=hide d1
    go_wp2
    refine⟨⟨n+1,HLT.out,by rw[HWN.out];exact rl1 n,by first|rfl|trivial,fun j c hj hc=>?_⟩,by rw[HWN.out];exact ms_end HLT.out⟩
    by_cases ej:j=n
    ·subst ej
     rw[HE.out] at hc
     cases hc
     exact HD1.out
    ·exact HNO.out j c (by omega) hc
  ·have hne:n=tv.length:=by omega
   subst hne
   have hnI:¬((tv.length:Int)<(tv.length:Int)):=by omega
   have HNO:=hide hno
   have HTL:=hide htl
   clear hn hlt hno hll htl
   go_wp2
   go_ret
   rw[idxI_none (fun e he=>by
    obtain⟨j,hj⟩:=List.mem_iff_getElem?.1 he
    exact HNO.out j e (by have:=(List.getElem?_eq_some_iff.1 hj).1;have:=HTL.out;omega) hj)]
   exact⟨rfl,rfl⟩
theorem request_r{w:World}{b:Nat}{R:Rt}{D:Nat→Prop}{vt vh va:Value}{tv:List (Tx×Value)}(h:RV w b R D vt vh va tv)(x:Int)(hl:R.aq.length<2000000000000):Calls prog 25 #[ptr b,I x] w fun e w'=>e=.returned (I (idxI (fun e:Lk=>e.x==x) R.aq))∧w'=w:=by
 obtain⟨ra,rcap,rfl⟩:=row_form h.ra
 have hbc:=h.blk.cell
 have H:=hide h;have HL:=hide hl
 clear h hl
 go_enter func25,ntmps25
 go_wp2_with fail
 go_loopw [5] (fun iv wr=>∃n:Nat,n≤R.aq.length∧iv=I (n:Int)∧wr=w∧∀(j:Nat) (e:Lk),j<n→R.aq[j]?=some e→(e.x==x)=false) (fun iv _=>R.aq.length-(RowKit.intOf iv).toNat)
 case atStart=>exact⟨0,Nat.zero_le _,rfl,rfl,fun j e hj _=>by omega⟩
 case round=>
  obtain⟨n,hn,rfl,hwr,hno⟩:=hrel
  subst hwr
  have hll:=HL.out
  have htl:=H.out.tl
  by_cases hlt:n<R.aq.length
  ·obtain⟨e,he⟩:∃a,R.aq[n]?=some a:=⟨_,List.getElem?_eq_getElem hlt⟩
   obtain⟨ga,hga,kc⟩:=row_cell lk_len H.out.ra he
   subst hga
   have k0:wr.cell? ⟨ga,n*6,none⟩=some (I e.x):=kc 0 (by omega)
   have hnI:(n:Int)<(R.aq.length:Int):=by omega
   have hwn:wrap64 ((n:Int)+1)=(n:Int)+1:=by unfold wrap64;omega
   have HWN:=hide hwn;have HLT:=hide hlt;have HE:=hide he;have HNO:=hide hno
   clear hn hno hlt he hwn kc hll htl
   by_cases e1:e.x=x
   ·rw[e1] at k0
    have HE1:=hide e1
    clear e1
    go_wp2
    go_ret
    rw[idxI_some HE.out (by simp[HE1.out]) (fun j c hj hc=>HNO.out j c hj hc)]
    exact⟨rfl,rfl⟩
   ·have d1:(e.x==x)=false:=by simp[e1]
    have d2:decide (e.x=x)=false:=by simp[e1]
    have HD1:=hide d1
    go_wp2
    refine⟨⟨n+1,HLT.out,by rw[HWN.out];exact rl1 n,by first|rfl|trivial,fun j c hj hc=>?_⟩,by rw[HWN.out];exact ms_end HLT.out⟩
    by_cases ej:j=n
    ·subst ej
     rw[HE.out] at hc
     cases hc
     exact HD1.out
    ·exact HNO.out j c (by omega) hc
  ·have hne:n=R.aq.length:=by omega
   subst hne
   have hnI:¬((R.aq.length:Int)<(R.aq.length:Int)):=by omega
   have HNO:=hide hno
   have HTL:=hide htl
   clear hn hlt hno hll htl
   go_wp2
   go_ret
   rw[idxI_none (fun e he=>by
    obtain⟨j,hj⟩:=List.mem_iff_getElem?.1 he
    exact HNO.out j e (by have:=(List.getElem?_eq_some_iff.1 hj).1;have:=HTL.out;omega) hj)]
   exact⟨rfl,rfl⟩
def hbI(x:Int)(r:Rs)(l:List Lk):Int:=match l.find? (fun e=>decide (e.x=x∧e.r=r))with|some e=>e.c|none=>0
theorem hbI_some{x:Int}{r:Rs}{l:List Lk}{i:Nat}{a:Lk}(ha:l[i]?=some a)(h1:a.x=x)(h2:a.r=r)(hn:∀j b,j<i→l[j]?=some b→¬(b.x=x∧b.r=r)):hbI x r l=a.c:=by
 have:l.find? (fun e=>decide (e.x=x∧e.r=r))=some a:=by
  rw[List.find?_eq_some_iff_getElem]
  obtain⟨k1,k2⟩:=List.getElem?_eq_some_iff.1 ha
  refine⟨by simp[h1,h2],i,k1,k2,fun j hj=>?_⟩
  have:=hn j _ hj (List.getElem?_eq_getElem (by omega))
  rw[Bool.not_eq_true',decide_eq_false_iff_not]
  exact this
 unfold hbI
 rw[this]
theorem hbI_none{x:Int}{r:Rs}{l:List Lk}(hn:∀a∈l,¬(a.x=x∧a.r=r)):hbI x r l=0:=by
 have:l.find? (fun e=>decide (e.x=x∧e.r=r))=none:=by
  rw[List.find?_eq_none]
  intro a ha
  simpa using hn a ha
 unfold hbI
 rw[this]
theorem heldBy_r{w:World}{b:Nat}{R:Rt}{D:Nat→Prop}{vt vh va:Value}{tv:List (Tx×Value)}(h:RV w b R D vt vh va tv)(x:Int)(r:Rs)(hl:R.hd.length<2000000000000):Calls prog 26 #[ptr b,I x,.agg #[I r.lv,.string r.lb,I r.id]] w fun e w'=>e=.returned (I (hbI x r R.hd))∧G w w':=by
 obtain⟨ra,rcap,rfl⟩:=row_form h.rh
 have H:=hide h;have HL:=hide hl
 clear h hl
 go_enter func26,ntmps26
 go_wp2_with fail
 obtain⟨w1,hw1⟩:∃w1,w1=w.alloc (.cells #[I r.lv,.string r.lb,I r.id] 33):=⟨_,rfl⟩
 rw[←hw1]
 have H1:Hid (Blk w1 w.heap.size 33 [I r.lv,.string r.lb,I r.id]∧G w w1):=by rw[hw1];exact⟨Blk.new w [I r.lv,.string r.lb,I r.id] 33,(G.refl w).alloc _⟩
 clear hw1
 generalize w.heap.size=rb at H1⊢
 go_loopw [7] (fun iv wr=>∃n:Nat,n≤R.hd.length∧iv=I (n:Int)∧G w1 wr∧∀(j:Nat) (e:Lk),j<n→R.hd[j]?=some e→¬(e.x=x∧e.r=r)) (fun iv _=>R.hd.length-(RowKit.intOf iv).toNat)
 case atStart=>exact⟨0,Nat.zero_le _,rfl,G.refl _,fun j e hj _=>by omega⟩
 case round=>
  obtain⟨n,hn,rfl,hgw,hno⟩:=hrel
  have hll:=HL.out
  have hR:=H.out.G (H1.out.2.trans hgw)
  have hbc:=hR.blk.cell
  by_cases hlt:n<R.hd.length
  ·obtain⟨e,he⟩:∃a,R.hd[n]?=some a:=⟨_,List.getElem?_eq_getElem hlt⟩
   obtain⟨ga,hga,kc⟩:=row_cell lk_len hR.rh he
   subst hga
   have k0:wr.cell? ⟨ga,n*6,none⟩=some (I e.x):=kc 0 (by omega)
   have q1:wr.cell? ⟨ga,n*6+1,none⟩=some (I e.r.lv):=kc 1 (by omega)
   have q2:wr.cell? ⟨ga,n*6+1+1,none⟩=some (.string e.r.lb):=kc 2 (by omega)
   have q3:wr.cell? ⟨ga,n*6+1+2,none⟩=some (I e.r.id):=kc 3 (by omega)
   have q4:=(H1.out.1.G hgw).cell
   have hnI:(n:Int)<(R.hd.length:Int):=by omega
   have hwn:wrap64 ((n:Int)+1)=(n:Int)+1:=by unfold wrap64;omega
   have HWN:=hide hwn;have HLT:=hide hlt;have HE:=hide he;have HNO:=hide hno;have HGW:=hide hgw
   clear hn hno hlt he hwn kc hll hgw hR
   by_cases e1:e.x=x
   ·by_cases e2:e.r=r
    ·have HE1:=hide (And.intro e1 e2)
     rw[e1] at k0
     rw[e2] at q1 q2 q3
     clear e1 e2
     go_wp2
     go_quiet (fail)
     generalize hV:World.drewN wr _=V
     have HGV:Hid (G wr V):=by rw[←hV];exact(G.refl wr).drewN _
     clear hV hbc q1 q2 q3 q4 k0
     have hR:=H.out.G (H1.out.2.trans (HGW.out.trans HGV.out))
     have hbc:=hR.blk.cell
     obtain⟨gb,hgb,kc⟩:=row_cell lk_len hR.rh HE.out
     have eg:ga=gb:=by simpa using hgb
     subst eg
     have k4:V.cell? ⟨ga,n*6+4,none⟩=some (I e.c):=kc 4 (by omega)
     clear hgb kc hR
     go_wp2
     go_ret
     rw[hbI_some HE.out HE1.out.1 HE1.out.2 HNO.out]
     exact⟨rfl,H1.out.2.trans (HGW.out.trans HGV.out)⟩
    ·have HNE:Hid (¬(e.x=x∧e.r=r)):=fun hh=>e2 hh.2
     rw[e1] at k0
     clear e1
     by_cases f1:e.r.lv=r.lv
     ·rw[f1] at q1
      by_cases f2:e.r.lb=r.lb
      ·rw[f2] at q2
       have f3:¬e.r.id=r.id:=fun f3=>e2 (by
        cases he2:e.r
        cases hr2:r
        rw[he2,hr2] at f1 f2 f3
        simp at f1 f2 f3
        simp[f1,f2,f3])
       have d3:decide (e.r.id=r.id)=false:=by simp[f3]
       have d4:(e.r.id==r.id)=false:=by simp[f3]
       clear e2 f1 f2
       go_wp2
       go_quiet (fail)
       generalize hV:World.drewN wr _=V
       have HGV:Hid (G wr V):=by rw[←hV];exact(G.refl wr).drewN _
       clear hV hbc q1 q2 q3 q4 k0
       go_wp2
       refine⟨⟨n+1,HLT.out,by rw[HWN.out];exact rl1 n,HGW.out.trans HGV.out,fun j c hj hc=>?_⟩,by rw[HWN.out];exact ms_end HLT.out⟩
       by_cases ej:j=n
       ·subst ej
        rw[HE.out] at hc
        cases hc
        exact HNE.out
       ·exact HNO.out j c (by omega) hc
      ·have d2:¬e.r.lb.toList=r.lb.toList:=fun q=>f2 (toList_inj q)
       clear e2 f1
       go_wp2
       go_quiet (fail)
       generalize hV:World.drewN wr _=V
       have HGV:Hid (G wr V):=by rw[←hV];exact(G.refl wr).drewN _
       clear hV hbc q1 q2 q3 q4 k0
       go_wp2
       refine⟨⟨n+1,HLT.out,by rw[HWN.out];exact rl1 n,HGW.out.trans HGV.out,fun j c hj hc=>?_⟩,by rw[HWN.out];exact ms_end HLT.out⟩
       by_cases ej:j=n
       ·subst ej
        rw[HE.out] at hc
        cases hc
        exact HNE.out
       ·exact HNO.out j c (by omega) hc
     ·have d3:decide (e.r.lv=r.lv)=false:=by simp[f1]
      have d4:(e.r.lv==r.lv)=false:=by simp[f1]
      clear e2
      go_wp2
      go_quiet (fail)
      generalize hV:World.drewN wr _=V
      have HGV:Hid (G wr V):=by rw[←hV];exact(G.refl wr).drewN _
      clear hV hbc q1 q2 q3 q4 k0
      go_wp2
      refine⟨⟨n+1,HLT.out,by rw[HWN.out];exact rl1 n,HGW.out.trans HGV.out,fun j c hj hc=>?_⟩,by rw[HWN.out];exact ms_end HLT.out⟩
      by_cases ej:j=n
      ·subst ej
       rw[HE.out] at hc
       cases hc
       exact HNE.out
      ·exact HNO.out j c (by omega) hc
   ·have HNE:Hid (¬(e.x=x∧e.r=r)):=fun hh=>e1 hh.1
    have d1:(e.x==x)=false:=by simp[e1]
    have d2:decide (e.x=x)=false:=by simp[e1]
    go_wp2
    go_quiet (fail)
    generalize hV:World.drewN wr _=V
    have HGV:Hid (G wr V):=by rw[←hV];exact(G.refl wr).drewN _
    clear hV hbc q1 q2 q3 q4 k0
    go_wp2
    refine⟨⟨n+1,HLT.out,by rw[HWN.out];exact rl1 n,HGW.out.trans HGV.out,fun j c hj hc=>?_⟩,by rw[HWN.out];exact ms_end HLT.out⟩
    by_cases ej:j=n
    ·subst ej
     rw[HE.out] at hc
     cases hc
     exact HNE.out
    ·exact HNO.out j c (by omega) hc
  ·have hne:n=R.hd.length:=by omega
   subst hne
   have hnI:¬((R.hd.length:Int)<(R.hd.length:Int)):=by omega
   have HNO:=hide hno;have HGW:=hide hgw
   clear hn hlt hno hll hgw hR
   go_wp2
   go_ret
   rw[hbI_none (fun e he=>by
    obtain⟨j,hj⟩:=List.mem_iff_getElem?.1 he
    exact HNO.out j e (List.getElem?_eq_some_iff.1 hj).1 hj)]
   exact⟨rfl,H1.out.2.trans HGW.out⟩
end
section
open Go.RowKit
def insP(x:Int)(l:List Int):List Int:=l.filter (fun a=>decide (a<x))++x::l.filter (fun a=>decide (x<a))
theorem insP_up{x:Int}{l:List Int}(h:l.Pairwise (·<·)):(insP x l).Pairwise (·<·):=by
 unfold insP
 rw[List.pairwise_append,List.pairwise_cons]
 refine⟨h.sublist List.filter_sublist,⟨fun a ha=>?_,h.sublist List.filter_sublist⟩,fun a ha b hb=>?_⟩
 ·simpa using (List.mem_filter.1 ha).2
 ·have h1:a<x:=by simpa using (List.mem_filter.1 ha).2
  rcases List.mem_cons.1 hb with rfl|hb
  ·exact h1
  ·have h2:x<b:=by simpa using (List.mem_filter.1 hb).2
   omega
theorem insP_mem{x:Int}{l:List Int}(y:Int):y∈insP x l↔y=x∨y∈l:=by
 unfold insP
 rw[List.mem_append,List.mem_cons,List.mem_filter,List.mem_filter]
 simp only[decide_eq_true_eq]
 constructor
 ·rintro(h|h|h)
  ·exact .inr h.1
  ·exact .inl h
  ·exact .inr h.1
 ·rintro(h|h)
  ·exact .inr (.inl h)
  ·rcases Int.lt_trichotomy y x with k|k|k
   ·exact .inl ⟨h,k⟩
   ·exact .inr (.inl k)
   ·exact .inr (.inr ⟨h,k⟩)
theorem insP_len(x:Int)(l:List Int):(insP x l).length≤2*l.length+1:=by
 unfold insP
 rw[List.length_append,List.length_cons]
 have h1:=List.length_filter_le (fun a=>decide (a<x)) l
 have h2:=List.length_filter_le (fun a=>decide (x<a)) l
 omega
def dnP(x:Int)(l:List Int):Bool:=l.any fun a=>decide (x≤a)
def outP(x:Int)(l:List Int):List Int:=l.filter (fun a=>decide (a<x))++((if dnP x l then [x] else [])++l.filter (fun a=>decide (x<a)))
section
variable {x a:Int} {l:List Int}
theorem gt_none(h:dnP x l=false):l.filter (fun a=>decide (x<a))=[]:=by
 rw[List.filter_eq_nil_iff]
 intro a ha hx
 have hx:x<a:=by simpa using hx
 have:dnP x l=true:=by
  unfold dnP
  rw[List.any_eq_true]
  exact⟨a,ha,by simp;omega⟩
 rw[h] at this;cases this
theorem dn_snoc:dnP x (l++[a])=(dnP x l || decide (x≤a)):=by simp[dnP]
theorem out_lt(hd:dnP x l=false)(ha:a<x):dnP x (l++[a])=false∧outP x (l++[a])=outP x l++[a]:=by
 have h1:dnP x (l++[a])=false:=by rw[dn_snoc,hd];simp;omega
 refine⟨h1,?_⟩
 unfold outP
 rw[h1,hd,gt_none h1,gt_none hd,List.filter_append]
 simp[ha]
theorem out_eq(hd:dnP x l=false):dnP x (l++[x])=true∧outP x (l++[x])=outP x l++[x]:=by
 have h1:dnP x (l++[x])=true:=by rw[dn_snoc];simp
 refine⟨h1,?_⟩
 unfold outP
 rw[h1,hd,gt_none hd,List.filter_append,List.filter_append,gt_none hd]
 simp
theorem out_gt1(hd:dnP x l=false)(ha:x<a):dnP x (l++[a])=true∧outP x (l++[a])=(outP x l++[x])++[a]:=by
 have h1:dnP x (l++[a])=true:=by rw[dn_snoc,Bool.or_eq_true];exact .inr (by simp;omega)
 refine⟨h1,?_⟩
 have h2:¬a<x:=by omega
 unfold outP
 rw[h1,hd,gt_none hd,List.filter_append,List.filter_append,gt_none hd]
 simp[ha,h2]
theorem out_gt2(hd:dnP x l=true)(ha:x<a):dnP x (l++[a])=true∧outP x (l++[a])=outP x l++[a]:=by
 have h1:dnP x (l++[a])=true:=by rw[dn_snoc,hd];rfl
 refine⟨h1,?_⟩
 have h2:¬a<x:=by omega
 unfold outP
 rw[h1,hd,List.filter_append,List.filter_append]
 simp[ha,h2]
theorem out_fin(l:List Int):insP x l=if dnP x l then outP x l else outP x l++[x]:=by
 unfold insP outP
 cases h:dnP x l with
 | true=>simp
 | false=>rw[gt_none h];simp
theorem out_len(l:List Int):(outP x l).length≤2*l.length+1:=by
 have h:=insP_len x l
 rw[out_fin] at h
 split at h
 ·exact h
 ·rw[List.length_append] at h
  omega
end
theorem put_r(w:World)(lo:Nat)(v:Value)(l:List Int)(x:Int)(hrow:w.ownsRow lo 3 1 v l.length (l.map fun z=>I z))(hup:l.Pairwise (·<·))(hl:l.length<1000000000000) :
  Calls prog 64 #[v,I x] w fun e w'=>∃v',e=.returned v'∧w'.ownsRow w.heap.size 3 1 v' (insP x l).length ((insP x l).map fun z=>I z)∧G w w':=by
 obtain⟨la,lc,rfl⟩:=row_form hrow
 have HROW:=hide hrow;have HUP:=hide hup;have HLL:=hide hl
 clear hrow hup hl
 go_enter func64,ntmps64
 go_wp2_with fail
 go_loopw [5,6,7] (fun ov dv iv wr=>∃n:Nat,n≤l.length∧dv=.bool (dnP x (l.take n))∧iv=I (n:Int)∧wr.ownsRow w.heap.size 3 1 ov (outP x (l.take n)).length ((outP x (l.take n)).map fun z=>I z)∧G w wr) (fun _ _ iv _=>l.length-(RowKit.intOf iv).toNat)
 case atStart=>exact⟨0,Nat.zero_le _,rfl,rfl,⟨rfl,.inl ⟨rfl,rfl⟩⟩,G.refl _⟩
 case round=>
  obtain⟨n,hn,rfl,rfl,hro,hgw⟩:=hrel
  have hll:=HLL.out
  have hol:=out_len (x:=x) (l.take n)
  rw[List.length_take] at hol
  have HOL:Hid ((outP x (l.take n)).length<2000000000010):=by show _<_;omega
  by_cases hlt:n<l.length
  ·obtain⟨a,ha⟩:∃a,l[n]?=some a:=⟨_,List.getElem?_eq_getElem hlt⟩
   obtain⟨ga,hga,ka⟩:=int_at (own_G HROW.out hgw) ha
   subst hga
   have hnI:(n:Int)<(l.length:Int):=by omega
   have hwn:wrap64 ((n:Int)+1)=(n:Int)+1:=by unfold wrap64;omega
   have HWN:=hide hwn;have HLT:=hide hlt;have HR0:=hide hro;have HG0:=hide hgw
   have htk:=take_one ha
   have hbelow:dnP x (l.take n)=true→x<a:=fun hd=>by
    unfold dnP at hd
    obtain⟨z,hz,hzx⟩:=List.any_eq_true.1 hd
    obtain⟨j,hj⟩:=List.mem_iff_getElem?.1 hz
    rw[List.getElem?_take] at hj
    by_cases hjn:j<n
    ·rw[if_pos hjn] at hj
     obtain⟨l1,e1⟩:=List.getElem?_eq_some_iff.1 hj
     obtain⟨l2,e2⟩:=List.getElem?_eq_some_iff.1 ha
     have:=List.pairwise_iff_getElem.1 HUP.out j n l1 l2 hjn
     rw[e1,e2] at this
     have hzx:x≤z:=by simpa using hzx
     omega
    ·rw[if_neg hjn] at hj;cases hj
   have HAT:=hide ha
   clear hn hlt hro hgw hol hll hwn ha
   cases hd:dnP x (l.take n)with
   | true=>
    have hxa:=hbelow hd
    have HST:=hide (out_gt2 hd hxa)
    rw[←htk] at HST
    have d1:(a != x)=true:=by simp;omega
    have d2:(a==x)=false:=by simp;omega
    have d3:¬a=x:=by omega
    clear hbelow hd htk
    obtain⟨v9,w9,r1,r2,r3⟩:=app_one wr w.heap.size u5 _ a HR0.out (by have:=HOL.out;first|omega|(simp only[List.length_append,List.length_cons,List.length_nil];omega)) HG0.out.size
    have HA9:=hide r1
    have HR9:=hide r2
    have HG9:Hid (G w w9):=grown_G (HG0.out.alloc _) r3 (fun k hk=>(World.ownsRow.lt HR0.out k hk).1)
    have HL9:Hid (w9.ownsRow lo 3 1 (.slice (some ⟨ga,0,none⟩) l.length lc) l.length (l.map fun z=>I z)):=own_G HROW.out HG9.out
    clear r1 r2 r3
    obtain⟨gb,hgb,k9⟩:=int_at HL9.out (show l[n]?=some a from HAT.out)
    have eg:ga=gb:=by simpa using hgb
    subst eg
    clear hgb
    go_wp2_with (first|(at_builtin;refine wpList_append_run rfl _ _ 42 rfl _ _ rfl rfl HA9.out ?_)|fail)
    exact⟨⟨n+1,HLT.out,by rw[HST.out.1],by rw[HWN.out];exact rl1 n,by rw[HST.out.2];exact HR9.out,HG9.out⟩,by rw[HWN.out];exact ms_end HLT.out⟩
   | false=>
    clear hbelow
    rcases Int.lt_trichotomy a x with hax|hax|hax
    ·have HST:=hide (out_lt hd hax)
     rw[←htk] at HST
     have d1:(a != x)=true:=by simp;omega
     have d2:(a==x)=false:=by simp;omega
     have d3:¬x≤a:=by omega
     have d4:decide (x≤a)=false:=by simp;omega
     have d5:¬a=x:=by omega
     clear hd htk
     obtain⟨v9,w9,r1,r2,r3⟩:=app_one wr w.heap.size u5 _ a HR0.out (by have:=HOL.out;first|omega|(simp only[List.length_append,List.length_cons,List.length_nil];omega)) HG0.out.size
     have HA9:=hide r1
     have HR9:=hide r2
     have HG9:Hid (G w w9):=grown_G (HG0.out.alloc _) r3 (fun k hk=>(World.ownsRow.lt HR0.out k hk).1)
     have HL9:Hid (w9.ownsRow lo 3 1 (.slice (some ⟨ga,0,none⟩) l.length lc) l.length (l.map fun z=>I z)):=own_G HROW.out HG9.out
     clear r1 r2 r3
     obtain⟨gb,hgb,k9⟩:=int_at HL9.out (show l[n]?=some a from HAT.out)
     have eg:ga=gb:=by simpa using hgb
     subst eg
     clear hgb
     go_wp2_with (first|(at_builtin;refine wpList_append_run rfl _ _ 42 rfl _ _ rfl rfl HA9.out ?_)|fail)
     exact⟨⟨n+1,HLT.out,by rw[HST.out.1],by rw[HWN.out];exact rl1 n,by rw[HST.out.2];exact HR9.out,HG9.out⟩,by rw[HWN.out];exact ms_end HLT.out⟩
    ·subst hax
     have HST:=hide (out_eq hd)
     rw[←htk] at HST
     have d3:a≤a:=Int.le_refl _
     clear hd htk
     obtain⟨v9,w9,r1,r2,r3⟩:=app_one wr w.heap.size u5 _ a HR0.out (by have:=HOL.out;first|omega|(simp only[List.length_append,List.length_cons,List.length_nil];omega)) HG0.out.size
     have HA9:=hide r1
     have HR9:=hide r2
     have HG9:Hid (G w w9):=grown_G (HG0.out.alloc _) r3 (fun k hk=>(World.ownsRow.lt HR0.out k hk).1)
     have HL9:Hid (w9.ownsRow lo 3 1 (.slice (some ⟨ga,0,none⟩) l.length lc) l.length (l.map fun z=>I z)):=own_G HROW.out HG9.out
     clear r1 r2 r3
     obtain⟨gb,hgb,k9⟩:=int_at HL9.out (show l[n]?=some a from HAT.out)
     have eg:ga=gb:=by simpa using hgb
     subst eg
     clear hgb
     go_wp2_with (first|(at_builtin;refine wpList_append_run rfl _ _ 42 rfl _ _ rfl rfl HA9.out ?_)|fail)
     exact⟨⟨n+1,HLT.out,by rw[HST.out.1],by rw[HWN.out];exact rl1 n,by rw[HST.out.2];exact HR9.out,HG9.out⟩,by rw[HWN.out];exact ms_end HLT.out⟩
    ·have HST:=hide (out_gt1 hd hax)
     rw[←htk] at HST
     have d1:(a != x)=true:=by simp;omega
     have d2:(a==x)=false:=by simp;omega
     have d3:x≤a:=by omega
     have d4:decide (x≤a)=true:=by simp;omega
     have d5:¬a=x:=by omega
     clear hd htk
     obtain⟨v8,w8,r1,r2,r3⟩:=app_one wr w.heap.size u5 _ x HR0.out (by have:=HOL.out;first|omega|(simp only[List.length_append,List.length_cons,List.length_nil];omega)) HG0.out.size
     have HA8:=hide r1
     have HR8:=hide r2
     have HG8:Hid (G w w8):=grown_G (HG0.out.alloc _) r3 (fun k hk=>(World.ownsRow.lt HR0.out k hk).1)
     have HL8:Hid (w8.ownsRow lo 3 1 (.slice (some ⟨ga,0,none⟩) l.length lc) l.length (l.map fun z=>I z)):=own_G HROW.out HG8.out
     clear r1 r2 r3
     obtain⟨gb,hgb,k8⟩:=int_at HL8.out (show l[n]?=some a from HAT.out)
     have eg:ga=gb:=by simpa using hgb
     subst eg
     clear hgb
     obtain⟨v9,w9,r1,r2,r3⟩:=app_one w8 w.heap.size v8 _ a HR8.out (by have:=HOL.out;first|omega|(simp only[List.length_append,List.length_cons,List.length_nil];omega)) HG8.out.size
     have HA9:=hide r1
     have HR9:=hide r2
     have HG9:Hid (G w w9):=grown_G (HG8.out.alloc _) r3 (fun k hk=>(World.ownsRow.lt HR8.out k hk).1)
     have HL9:Hid (w9.ownsRow lo 3 1 (.slice (some ⟨ga,0,none⟩) l.length lc) l.length (l.map fun z=>I z)):=own_G HROW.out HG9.out
     clear r1 r2 r3
     obtain⟨gb,hgb,k9⟩:=int_at HL9.out (show l[n]?=some a from HAT.out)
     have eg:ga=gb:=by simpa using hgb
     subst eg
     clear hgb
     go_wp2_with (first|(at_builtin;refine wpList_append_run rfl _ _ 42 rfl _ _ rfl rfl HA8.out ?_)|(at_builtin;refine wpList_append_run rfl _ _ 42 rfl _ _ rfl rfl HA9.out ?_)|fail)
     exact⟨⟨n+1,HLT.out,by rw[HST.out.1],by rw[HWN.out];exact rl1 n,by rw[HST.out.2];exact HR9.out,HG9.out⟩,by rw[HWN.out];exact ms_end HLT.out⟩
  ·have hne:n=l.length:=by omega
   subst hne
   have hnI:¬((l.length:Int)<(l.length:Int)):=by omega
   rw[List.take_length] at hro HOL⊢
   have hfin:=out_fin (x:=x) l
   have HR0:=hide hro;have HG0:=hide hgw
   clear hn hlt hro hgw hol hll
   cases hd:dnP x l with
   | true=>
    rw[hd,if_pos rfl] at hfin
    have HF:=hide hfin
    clear hd hfin
    go_wp2
    go_ret
    exact⟨_,rfl,by rw[HF.out];exact HR0.out,HG0.out⟩
   | false=>
    rw[hd,if_neg (by simp)] at hfin
    have HF:=hide hfin
    clear hd hfin
    obtain⟨v9,w9,r1,r2,r3⟩:=app_one wr w.heap.size u5 _ x HR0.out (by have:=HOL.out;omega) HG0.out.size
    have HA9:=hide r1
    have HR9:=hide r2
    have HG9:Hid (G w w9):=grown_G (HG0.out.alloc _) r3 (fun k hk=>(World.ownsRow.lt HR0.out k hk).1)
    clear r1 r2 r3
    go_wp2_with (first|(at_builtin;refine wpList_append_run rfl _ _ 42 rfl _ _ rfl rfl HA9.out ?_)|fail)
    go_ret
    exact⟨_,rfl,by rw[HF.out];exact HR9.out,HG9.out⟩
end
section
open Go.RowKit
theorem rmode_any(a:Int)(w:World):Calls prog 24 #[I a] w fun e w'=>e=.returned (.bool (modeB a))∧w'=w:=by
 by_cases h1:1≤a
 ·by_cases h2:a≤5
  ·go_enter func24,ntmps24
   go_wp2
   go_ret
   exact⟨by rw[modeB_pos h1 h2];rfl,rfl⟩
  ·go_enter func24,ntmps24
   go_wp2
   go_ret
   exact⟨by rw[modeB_neg (by omega)];rfl,rfl⟩
 ·go_enter func24,ntmps24
  go_wp2
  go_ret
  exact⟨by rw[modeB_neg (by omega)];rfl,rfl⟩
theorem cov_0(w:World):Calls prog 62 #[I 0] w fun e w'=>e=.returned (I 0)∧w'=w:=by
 go_enter func62,ntmps62
 go_wp2
 go_ret
 exact⟨rfl,rfl⟩
theorem cov_1(w:World):Calls prog 62 #[I 1] w fun e w'=>e=.returned (I 1)∧w'=w:=by
 go_enter func62,ntmps62
 go_wp2
 go_ret
 exact⟨rfl,rfl⟩
theorem cov_2(w:World):Calls prog 62 #[I 2] w fun e w'=>e=.returned (I 3)∧w'=w:=by
 go_enter func62,ntmps62
 go_wp2
 go_ret
 exact⟨rfl,rfl⟩
theorem cov_3(w:World):Calls prog 62 #[I 3] w fun e w'=>e=.returned (I 5)∧w'=w:=by
 go_enter func62,ntmps62
 go_wp2
 go_ret
 exact⟨rfl,rfl⟩
theorem cov_4(w:World):Calls prog 62 #[I 4] w fun e w'=>e=.returned (I 7)∧w'=w:=by
 go_enter func62,ntmps62
 go_wp2
 go_ret
 exact⟨rfl,rfl⟩
theorem cov_5(w:World):Calls prog 62 #[I 5] w fun e w'=>e=.returned (I 15)∧w'=w:=by
 go_enter func62,ntmps62
 go_wp2
 go_ret
 exact⟨rfl,rfl⟩
theorem rfits_1(b:Int)(hb:1≤b∧b≤5)(w:World):Calls prog 63 #[I 1,I b] w fun e w'=>e=.returned (.bool (fitB 1 b))∧w'=w:=by
 have h:b=1∨b=2∨b=3∨b=4∨b=5:=by omega
 have ka:=rmode_any 1 w
 have kb:=rmode_any b w
 have c1:=hide (cov_1 w)
 rw[modeB_pos (by decide) (by decide)] at ka
 rw[modeB_pos hb.1 hb.2] at kb
 clear hb
 have KA:=hide ka;have KB:=hide kb
 clear ka kb
 rcases h with rfl|rfl|rfl|rfl|rfl
 ·have c2:=hide (cov_1 w)
  go_enter func63,ntmps63
  go_wp2_with (first|(go_at_call 24;with_reducible refine(KA.out).mono ?_;rintro e w' ⟨rfl,rfl⟩)|(go_at_call 24;with_reducible refine(KB.out).mono ?_;rintro e w' ⟨rfl,rfl⟩)|(go_at_call 62;with_reducible refine(c1.out).mono ?_;rintro e w' ⟨rfl,rfl⟩)|(go_at_call 62;with_reducible refine(c2.out).mono ?_;rintro e w' ⟨rfl,rfl⟩)|fail)
  go_ret
  exact⟨rfl,rfl⟩
 ·have c2:=hide (cov_2 w)
  go_enter func63,ntmps63
  go_wp2_with (first|(go_at_call 24;with_reducible refine(KA.out).mono ?_;rintro e w' ⟨rfl,rfl⟩)|(go_at_call 24;with_reducible refine(KB.out).mono ?_;rintro e w' ⟨rfl,rfl⟩)|(go_at_call 62;with_reducible refine(c1.out).mono ?_;rintro e w' ⟨rfl,rfl⟩)|(go_at_call 62;with_reducible refine(c2.out).mono ?_;rintro e w' ⟨rfl,rfl⟩)|fail)
  go_ret
  exact⟨rfl,rfl⟩
 ·have c2:=hide (cov_3 w)
  go_enter func63,ntmps63
  go_wp2_with (first|(go_at_call 24;with_reducible refine(KA.out).mono ?_;rintro e w' ⟨rfl,rfl⟩)|(go_at_call 24;with_reducible refine(KB.out).mono ?_;rintro e w' ⟨rfl,rfl⟩)|(go_at_call 62;with_reducible refine(c1.out).mono ?_;rintro e w' ⟨rfl,rfl⟩)|(go_at_call 62;with_reducible refine(c2.out).mono ?_;rintro e w' ⟨rfl,rfl⟩)|fail)
  go_ret
  exact⟨rfl,rfl⟩
 ·have c2:=hide (cov_4 w)
  go_enter func63,ntmps63
  go_wp2_with (first|(go_at_call 24;with_reducible refine(KA.out).mono ?_;rintro e w' ⟨rfl,rfl⟩)|(go_at_call 24;with_reducible refine(KB.out).mono ?_;rintro e w' ⟨rfl,rfl⟩)|(go_at_call 62;with_reducible refine(c1.out).mono ?_;rintro e w' ⟨rfl,rfl⟩)|(go_at_call 62;with_reducible refine(c2.out).mono ?_;rintro e w' ⟨rfl,rfl⟩)|fail)
  go_ret
  exact⟨rfl,rfl⟩
 ·have c2:=hide (cov_5 w)
  go_enter func63,ntmps63
  go_wp2_with (first|(go_at_call 24;with_reducible refine(KA.out).mono ?_;rintro e w' ⟨rfl,rfl⟩)|(go_at_call 24;with_reducible refine(KB.out).mono ?_;rintro e w' ⟨rfl,rfl⟩)|(go_at_call 62;with_reducible refine(c1.out).mono ?_;rintro e w' ⟨rfl,rfl⟩)|(go_at_call 62;with_reducible refine(c2.out).mono ?_;rintro e w' ⟨rfl,rfl⟩)|fail)
  go_ret
  exact⟨rfl,rfl⟩
theorem rfits_2(b:Int)(hb:1≤b∧b≤5)(w:World):Calls prog 63 #[I 2,I b] w fun e w'=>e=.returned (.bool (fitB 2 b))∧w'=w:=by
 have h:b=1∨b=2∨b=3∨b=4∨b=5:=by omega
 have ka:=rmode_any 2 w
 have kb:=rmode_any b w
 have c1:=hide (cov_2 w)
 rw[modeB_pos (by decide) (by decide)] at ka
 rw[modeB_pos hb.1 hb.2] at kb
 clear hb
 have KA:=hide ka;have KB:=hide kb
 clear ka kb
 rcases h with rfl|rfl|rfl|rfl|rfl
 ·have c2:=hide (cov_1 w)
  go_enter func63,ntmps63
  go_wp2_with (first|(go_at_call 24;with_reducible refine(KA.out).mono ?_;rintro e w' ⟨rfl,rfl⟩)|(go_at_call 24;with_reducible refine(KB.out).mono ?_;rintro e w' ⟨rfl,rfl⟩)|(go_at_call 62;with_reducible refine(c1.out).mono ?_;rintro e w' ⟨rfl,rfl⟩)|(go_at_call 62;with_reducible refine(c2.out).mono ?_;rintro e w' ⟨rfl,rfl⟩)|fail)
  go_ret
  exact⟨rfl,rfl⟩
 ·have c2:=hide (cov_2 w)
  go_enter func63,ntmps63
  go_wp2_with (first|(go_at_call 24;with_reducible refine(KA.out).mono ?_;rintro e w' ⟨rfl,rfl⟩)|(go_at_call 24;with_reducible refine(KB.out).mono ?_;rintro e w' ⟨rfl,rfl⟩)|(go_at_call 62;with_reducible refine(c1.out).mono ?_;rintro e w' ⟨rfl,rfl⟩)|(go_at_call 62;with_reducible refine(c2.out).mono ?_;rintro e w' ⟨rfl,rfl⟩)|fail)
  go_ret
  exact⟨rfl,rfl⟩
 ·have c2:=hide (cov_3 w)
  go_enter func63,ntmps63
  go_wp2_with (first|(go_at_call 24;with_reducible refine(KA.out).mono ?_;rintro e w' ⟨rfl,rfl⟩)|(go_at_call 24;with_reducible refine(KB.out).mono ?_;rintro e w' ⟨rfl,rfl⟩)|(go_at_call 62;with_reducible refine(c1.out).mono ?_;rintro e w' ⟨rfl,rfl⟩)|(go_at_call 62;with_reducible refine(c2.out).mono ?_;rintro e w' ⟨rfl,rfl⟩)|fail)
  go_ret
  exact⟨rfl,rfl⟩
 ·have c2:=hide (cov_4 w)
  go_enter func63,ntmps63
  go_wp2_with (first|(go_at_call 24;with_reducible refine(KA.out).mono ?_;rintro e w' ⟨rfl,rfl⟩)|(go_at_call 24;with_reducible refine(KB.out).mono ?_;rintro e w' ⟨rfl,rfl⟩)|(go_at_call 62;with_reducible refine(c1.out).mono ?_;rintro e w' ⟨rfl,rfl⟩)|(go_at_call 62;with_reducible refine(c2.out).mono ?_;rintro e w' ⟨rfl,rfl⟩)|fail)
  go_ret
  exact⟨rfl,rfl⟩
 ·have c2:=hide (cov_5 w)
  go_enter func63,ntmps63
  go_wp2_with (first|(go_at_call 24;with_reducible refine(KA.out).mono ?_;rintro e w' ⟨rfl,rfl⟩)|(go_at_call 24;with_reducible refine(KB.out).mono ?_;rintro e w' ⟨rfl,rfl⟩)|(go_at_call 62;with_reducible refine(c1.out).mono ?_;rintro e w' ⟨rfl,rfl⟩)|(go_at_call 62;with_reducible refine(c2.out).mono ?_;rintro e w' ⟨rfl,rfl⟩)|fail)
  go_ret
  exact⟨rfl,rfl⟩
theorem rfits_3(b:Int)(hb:1≤b∧b≤5)(w:World):Calls prog 63 #[I 3,I b] w fun e w'=>e=.returned (.bool (fitB 3 b))∧w'=w:=by
 have h:b=1∨b=2∨b=3∨b=4∨b=5:=by omega
 have ka:=rmode_any 3 w
 have kb:=rmode_any b w
 have c1:=hide (cov_3 w)
 rw[modeB_pos (by decide) (by decide)] at ka
 rw[modeB_pos hb.1 hb.2] at kb
 clear hb
 have KA:=hide ka;have KB:=hide kb
 clear ka kb
 rcases h with rfl|rfl|rfl|rfl|rfl
 ·have c2:=hide (cov_1 w)
  go_enter func63,ntmps63
  go_wp2_with (first|(go_at_call 24;with_reducible refine(KA.out).mono ?_;rintro e w' ⟨rfl,rfl⟩)|(go_at_call 24;with_reducible refine(KB.out).mono ?_;rintro e w' ⟨rfl,rfl⟩)|(go_at_call 62;with_reducible refine(c1.out).mono ?_;rintro e w' ⟨rfl,rfl⟩)|(go_at_call 62;with_reducible refine(c2.out).mono ?_;rintro e w' ⟨rfl,rfl⟩)|fail)
  go_ret
  exact⟨rfl,rfl⟩
 ·have c2:=hide (cov_2 w)
  go_enter func63,ntmps63
  go_wp2_with (first|(go_at_call 24;with_reducible refine(KA.out).mono ?_;rintro e w' ⟨rfl,rfl⟩)|(go_at_call 24;with_reducible refine(KB.out).mono ?_;rintro e w' ⟨rfl,rfl⟩)|(go_at_call 62;with_reducible refine(c1.out).mono ?_;rintro e w' ⟨rfl,rfl⟩)|(go_at_call 62;with_reducible refine(c2.out).mono ?_;rintro e w' ⟨rfl,rfl⟩)|fail)
  go_ret
  exact⟨rfl,rfl⟩
 ·have c2:=hide (cov_3 w)
  go_enter func63,ntmps63
  go_wp2_with (first|(go_at_call 24;with_reducible refine(KA.out).mono ?_;rintro e w' ⟨rfl,rfl⟩)|(go_at_call 24;with_reducible refine(KB.out).mono ?_;rintro e w' ⟨rfl,rfl⟩)|(go_at_call 62;with_reducible refine(c1.out).mono ?_;rintro e w' ⟨rfl,rfl⟩)|(go_at_call 62;with_reducible refine(c2.out).mono ?_;rintro e w' ⟨rfl,rfl⟩)|fail)
  go_ret
  exact⟨rfl,rfl⟩
 ·have c2:=hide (cov_4 w)
  go_enter func63,ntmps63
  go_wp2_with (first|(go_at_call 24;with_reducible refine(KA.out).mono ?_;rintro e w' ⟨rfl,rfl⟩)|(go_at_call 24;with_reducible refine(KB.out).mono ?_;rintro e w' ⟨rfl,rfl⟩)|(go_at_call 62;with_reducible refine(c1.out).mono ?_;rintro e w' ⟨rfl,rfl⟩)|(go_at_call 62;with_reducible refine(c2.out).mono ?_;rintro e w' ⟨rfl,rfl⟩)|fail)
  go_ret
  exact⟨rfl,rfl⟩
 ·have c2:=hide (cov_5 w)
  go_enter func63,ntmps63
  go_wp2_with (first|(go_at_call 24;with_reducible refine(KA.out).mono ?_;rintro e w' ⟨rfl,rfl⟩)|(go_at_call 24;with_reducible refine(KB.out).mono ?_;rintro e w' ⟨rfl,rfl⟩)|(go_at_call 62;with_reducible refine(c1.out).mono ?_;rintro e w' ⟨rfl,rfl⟩)|(go_at_call 62;with_reducible refine(c2.out).mono ?_;rintro e w' ⟨rfl,rfl⟩)|fail)
  go_ret
  exact⟨rfl,rfl⟩
theorem rfits_4(b:Int)(hb:1≤b∧b≤5)(w:World):Calls prog 63 #[I 4,I b] w fun e w'=>e=.returned (.bool (fitB 4 b))∧w'=w:=by
 have h:b=1∨b=2∨b=3∨b=4∨b=5:=by omega
 have ka:=rmode_any 4 w
 have kb:=rmode_any b w
 have c1:=hide (cov_4 w)
 rw[modeB_pos (by decide) (by decide)] at ka
 rw[modeB_pos hb.1 hb.2] at kb
 clear hb
 have KA:=hide ka;have KB:=hide kb
 clear ka kb
 rcases h with rfl|rfl|rfl|rfl|rfl
 ·have c2:=hide (cov_1 w)
  go_enter func63,ntmps63
  go_wp2_with (first|(go_at_call 24;with_reducible refine(KA.out).mono ?_;rintro e w' ⟨rfl,rfl⟩)|(go_at_call 24;with_reducible refine(KB.out).mono ?_;rintro e w' ⟨rfl,rfl⟩)|(go_at_call 62;with_reducible refine(c1.out).mono ?_;rintro e w' ⟨rfl,rfl⟩)|(go_at_call 62;with_reducible refine(c2.out).mono ?_;rintro e w' ⟨rfl,rfl⟩)|fail)
  go_ret
  exact⟨rfl,rfl⟩
 ·have c2:=hide (cov_2 w)
  go_enter func63,ntmps63
  go_wp2_with (first|(go_at_call 24;with_reducible refine(KA.out).mono ?_;rintro e w' ⟨rfl,rfl⟩)|(go_at_call 24;with_reducible refine(KB.out).mono ?_;rintro e w' ⟨rfl,rfl⟩)|(go_at_call 62;with_reducible refine(c1.out).mono ?_;rintro e w' ⟨rfl,rfl⟩)|(go_at_call 62;with_reducible refine(c2.out).mono ?_;rintro e w' ⟨rfl,rfl⟩)|fail)
  go_ret
  exact⟨rfl,rfl⟩
 ·have c2:=hide (cov_3 w)
  go_enter func63,ntmps63
  go_wp2_with (first|(go_at_call 24;with_reducible refine(KA.out).mono ?_;rintro e w' ⟨rfl,rfl⟩)|(go_at_call 24;with_reducible refine(KB.out).mono ?_;rintro e w' ⟨rfl,rfl⟩)|(go_at_call 62;with_reducible refine(c1.out).mono ?_;rintro e w' ⟨rfl,rfl⟩)|(go_at_call 62;with_reducible refine(c2.out).mono ?_;rintro e w' ⟨rfl,rfl⟩)|fail)
  go_ret
  exact⟨rfl,rfl⟩
 ·have c2:=hide (cov_4 w)
  go_enter func63,ntmps63
  go_wp2_with (first|(go_at_call 24;with_reducible refine(KA.out).mono ?_;rintro e w' ⟨rfl,rfl⟩)|(go_at_call 24;with_reducible refine(KB.out).mono ?_;rintro e w' ⟨rfl,rfl⟩)|(go_at_call 62;with_reducible refine(c1.out).mono ?_;rintro e w' ⟨rfl,rfl⟩)|(go_at_call 62;with_reducible refine(c2.out).mono ?_;rintro e w' ⟨rfl,rfl⟩)|fail)
  go_ret
  exact⟨rfl,rfl⟩
 ·have c2:=hide (cov_5 w)
  go_enter func63,ntmps63
  go_wp2_with (first|(go_at_call 24;with_reducible refine(KA.out).mono ?_;rintro e w' ⟨rfl,rfl⟩)|(go_at_call 24;with_reducible refine(KB.out).mono ?_;rintro e w' ⟨rfl,rfl⟩)|(go_at_call 62;with_reducible refine(c1.out).mono ?_;rintro e w' ⟨rfl,rfl⟩)|(go_at_call 62;with_reducible refine(c2.out).mono ?_;rintro e w' ⟨rfl,rfl⟩)|fail)
  go_ret
  exact⟨rfl,rfl⟩
theorem rfits_5(b:Int)(hb:1≤b∧b≤5)(w:World):Calls prog 63 #[I 5,I b] w fun e w'=>e=.returned (.bool (fitB 5 b))∧w'=w:=by
 have h:b=1∨b=2∨b=3∨b=4∨b=5:=by omega
 have ka:=rmode_any 5 w
 have kb:=rmode_any b w
 have c1:=hide (cov_5 w)
 rw[modeB_pos (by decide) (by decide)] at ka
 rw[modeB_pos hb.1 hb.2] at kb
 clear hb
 have KA:=hide ka;have KB:=hide kb
 clear ka kb
 rcases h with rfl|rfl|rfl|rfl|rfl
 ·have c2:=hide (cov_1 w)
  go_enter func63,ntmps63
  go_wp2_with (first|(go_at_call 24;with_reducible refine(KA.out).mono ?_;rintro e w' ⟨rfl,rfl⟩)|(go_at_call 24;with_reducible refine(KB.out).mono ?_;rintro e w' ⟨rfl,rfl⟩)|(go_at_call 62;with_reducible refine(c1.out).mono ?_;rintro e w' ⟨rfl,rfl⟩)|(go_at_call 62;with_reducible refine(c2.out).mono ?_;rintro e w' ⟨rfl,rfl⟩)|fail)
  go_ret
  exact⟨rfl,rfl⟩
 ·have c2:=hide (cov_2 w)
  go_enter func63,ntmps63
  go_wp2_with (first|(go_at_call 24;with_reducible refine(KA.out).mono ?_;rintro e w' ⟨rfl,rfl⟩)|(go_at_call 24;with_reducible refine(KB.out).mono ?_;rintro e w' ⟨rfl,rfl⟩)|(go_at_call 62;with_reducible refine(c1.out).mono ?_;rintro e w' ⟨rfl,rfl⟩)|(go_at_call 62;with_reducible refine(c2.out).mono ?_;rintro e w' ⟨rfl,rfl⟩)|fail)
  go_ret
  exact⟨rfl,rfl⟩
 ·have c2:=hide (cov_3 w)
  go_enter func63,ntmps63
  go_wp2_with (first|(go_at_call 24;with_reducible refine(KA.out).mono ?_;rintro e w' ⟨rfl,rfl⟩)|(go_at_call 24;with_reducible refine(KB.out).mono ?_;rintro e w' ⟨rfl,rfl⟩)|(go_at_call 62;with_reducible refine(c1.out).mono ?_;rintro e w' ⟨rfl,rfl⟩)|(go_at_call 62;with_reducible refine(c2.out).mono ?_;rintro e w' ⟨rfl,rfl⟩)|fail)
  go_ret
  exact⟨rfl,rfl⟩
 ·have c2:=hide (cov_4 w)
  go_enter func63,ntmps63
  go_wp2_with (first|(go_at_call 24;with_reducible refine(KA.out).mono ?_;rintro e w' ⟨rfl,rfl⟩)|(go_at_call 24;with_reducible refine(KB.out).mono ?_;rintro e w' ⟨rfl,rfl⟩)|(go_at_call 62;with_reducible refine(c1.out).mono ?_;rintro e w' ⟨rfl,rfl⟩)|(go_at_call 62;with_reducible refine(c2.out).mono ?_;rintro e w' ⟨rfl,rfl⟩)|fail)
  go_ret
  exact⟨rfl,rfl⟩
 ·have c2:=hide (cov_5 w)
  go_enter func63,ntmps63
  go_wp2_with (first|(go_at_call 24;with_reducible refine(KA.out).mono ?_;rintro e w' ⟨rfl,rfl⟩)|(go_at_call 24;with_reducible refine(KB.out).mono ?_;rintro e w' ⟨rfl,rfl⟩)|(go_at_call 62;with_reducible refine(c1.out).mono ?_;rintro e w' ⟨rfl,rfl⟩)|(go_at_call 62;with_reducible refine(c2.out).mono ?_;rintro e w' ⟨rfl,rfl⟩)|fail)
  go_ret
  exact⟨rfl,rfl⟩
theorem rfits_any(a b:Int)(w:World):Calls prog 63 #[I a,I b] w fun e w'=>e=.returned (.bool (fitB a b))∧w'=w:=by
 by_cases h1:1≤a∧a≤5
 ·by_cases h2:1≤b∧b≤5
  ·have h:a=1∨a=2∨a=3∨a=4∨a=5:=by omega
   rcases h with rfl|rfl|rfl|rfl|rfl
   ·exact rfits_1 b h2 w
   ·exact rfits_2 b h2 w
   ·exact rfits_3 b h2 w
   ·exact rfits_4 b h2 w
   ·exact rfits_5 b h2 w
  ·have ka:=rmode_any a w
   have kb:=rmode_any b w
   rw[modeB_pos h1.1 h1.2] at ka
   rw[modeB_neg h2] at kb
   have e:fitB a b=false:=by simp[fitB,modeB_neg h2]
   rw[e]
   have KA:=hide ka;have KB:=hide kb
   clear ka kb
   go_enter func63,ntmps63
   go_wp2_with (first|(go_at_call 24;with_reducible refine(KA.out).mono ?_;rintro e w' ⟨rfl,rfl⟩)|(go_at_call 24;with_reducible refine(KB.out).mono ?_;rintro e w' ⟨rfl,rfl⟩)|fail)
   go_ret
   exact⟨rfl,rfl⟩
 ·have ka:=rmode_any a w
  rw[modeB_neg h1] at ka
  have e:fitB a b=false:=by simp[fitB,modeB_neg h1]
  rw[e]
  have KA:=hide ka
  clear ka
  go_enter func63,ntmps63
  go_wp2_with (first|(go_at_call 24;with_reducible refine(KA.out).mono ?_;rintro e w' ⟨rfl,rfl⟩)|fail)
  go_ret
  exact⟨rfl,rfl⟩
end
end Go.Proofs.YtadfaiciolfgjaaGreatDoor
