import Derived.Test.YtoefbpldmlebdaaGreatDoorLq1
namespace Go.Proofs.YtoefbpldmlebdaaGreatDoor
open Go.Proofs.Tryz
set_option maxHeartbeats 1000000
set_option maxRecDepth 100000
section
open Go.RowKit
theorem hol_some{x:Int}{r:Rs}{c:Int}{l:List Lk}{n:Nat}{e:Lk}(he:l[n]?=some e)(h1:e.x=x)(h2:e.r=r)(hn:∀j a,j<n→l[j]?=some a→¬(a.x=x∧a.r=r)):holP x r c l=l.set n {e with c:=c}:=by
 have:l.findIdx? (fun e=>decide (e.x=x∧e.r=r))=some n:=by
  rw[List.findIdx?_eq_some_iff_getElem]
  obtain⟨k1,k2⟩:=List.getElem?_eq_some_iff.1 he
  refine⟨k1,by rw[k2];simp[h1,h2],fun j hj=>?_⟩
  have:=hn j _ hj (List.getElem?_eq_getElem (by omega))
  simpa using this
 unfold holP
 rw[this]
 apply List.ext_getElem?
 intro j
 show(l.modify n fun e=>{e with c:=c})[j]?=_
 rw[List.getElem?_modify,List.getElem?_set]
 by_cases hj:n=j
 ·subst hj
  rw[if_pos rfl,if_pos (List.getElem?_eq_some_iff.1 he).1,he];simp
 ·rw[if_neg hj]
  cases l[j]?<;>simp[hj]
theorem hol_none{x:Int}{r:Rs}{c:Int}{l:List Lk}(hn:∀a∈l,¬(a.x=x∧a.r=r)):holP x r c l=l++[⟨x,r,c,false⟩]:=by
 have:l.findIdx? (fun e=>decide (e.x=x∧e.r=r))=none:=by
  rw[List.findIdx?_eq_none_iff]
  intro a ha
  simpa using hn a ha
 unfold holP
 rw[this]
theorem hold_r{w:World}{b:Nat}{R:Rt}{D:Nat→Prop}{vt vh va:Value}{tv:List (Tx×Value)}(h:RV w b R D vt vh va tv)(x:Int)(r:Rs)(c:Int)(hl:R.hd.length<400000000000):Calls prog 89 #[ptr b,I x,.agg #[I r.lv,.string r.lb,I r.id],I c] w fun e w'=>e=.returned (.tuple #[])∧Rst w D b ⟨R.tx,holP x r c R.hd,R.aq⟩ w':=by
 obtain⟨ra,rcap,rfl⟩:=row_form h.rh
 have H:=hide h;have HL:=hide hl
 clear h hl
 go_enter func89,ntmps89
 go_wp2_with fail
 obtain⟨w1,hw1⟩:∃w1,w1=w.alloc (.cells #[I r.lv,.string r.lb,I r.id] 27):=⟨_,rfl⟩
 rw[←hw1]
 have H1:Hid (Blk w1 w.heap.size 27 [I r.lv,.string r.lb,I r.id]∧G w w1):=by rw[hw1];exact⟨Blk.new w [I r.lv,.string r.lb,I r.id] 27,(G.refl w).alloc _⟩
 clear hw1
 obtain⟨rb,hrb⟩:∃rb,rb=w.heap.size:=⟨_,rfl⟩
 have HRB:=hide hrb
 rw[←hrb] at H1⊢
 clear hrb
 go_loopw [8] (fun iv wr=>∃n:Nat,n≤R.hd.length∧iv=I (n:Int)∧G w1 wr∧∀(j:Nat) (e:Lk),j<n→R.hd[j]?=some e→¬(e.x=x∧e.r=r)) (fun iv _=>R.hd.length-(RowKit.intOf iv).toNat)
 case atStart=>exact⟨0,Nat.zero_le _,rfl,G.refl _,fun j e hj _=>by omega⟩
 case round=>
  obtain⟨n,hn,rfl,hgw,hno⟩:=hrel
  have hll:=HL.out
  have hR:=H.out.G (H1.out.2.trans hgw)
  have hbc:=hR.blk.cell
  by_cases hlt:n<R.hd.length
  ·obtain⟨e,he⟩:∃a,R.hd[n]?=some a:=⟨_,List.getElem?_eq_getElem hlt⟩
   obtain⟨ga,hga,kc⟩:=row_cell lk_len hR.rh he
   subst hga
   have k0:wr.cell? ⟨ga,n*6,none⟩=some (I e.x):=kc 0 (by omega)
   have q1:wr.cell? ⟨ga,n*6+1,none⟩=some (I e.r.lv):=kc 1 (by omega)
   have q2:wr.cell? ⟨ga,n*6+1+1,none⟩=some (.string e.r.lb):=kc 2 (by omega)
   have q3:wr.cell? ⟨ga,n*6+1+2,none⟩=some (I e.r.id):=kc 3 (by omega)
   have q4:=(H1.out.1.G hgw).cell
   have hnI:(n:Int)<(R.hd.length:Int):=by omega
   have hwn:wrap64 ((n:Int)+1)=(n:Int)+1:=by unfold wrap64;omega
   have HWN:=hide hwn;have HLT:=hide hlt;have HE:=hide he;have HNO:=hide hno;have HGW:=hide hgw
   clear hn hno hlt he hwn kc hll hgw hR
   by_cases e1:e.x=x
   ·by_cases e2:e.r=r
    ·have HE1:=hide (And.intro e1 e2)
     rw[e1] at k0
     rw[e2] at q1 q2 q3
     clear e1 e2
     go_wp2
     go_quiet (fail)
     generalize hV:World.drewN wr _=V
     have HGV:Hid (G wr V):=by rw[←hV];exact(G.refl wr).drewN _
     clear hV hbc q1 q2 q3 q4 k0
     have HGD:Hid (G w V):=H1.out.2.trans (HGW.out.trans HGV.out)
     have hR:=H.out.G HGD.out
     have hbc:=hR.blk.cell
     obtain⟨gb,hgb,kc⟩:=row_cell lk_len hR.rh HE.out
     have eg:ga=gb:=by simpa using hgb
     subst eg
     have k4:V.cell? ⟨ga,n*6+4,none⟩=some (I e.c):=kc 4 (by omega)
     have kz:V.frozen? ⟨ga,n*6+4,none⟩=false:=own_frozen hR.rh
     obtain⟨p1,p2⟩:=hR.setH HE.out c
     have HP:Hid (Rst w D b ⟨R.tx,holP x r c R.hd,R.aq⟩ (V.setCell ⟨ga,n*6+4,none⟩ (I c))):=by
      rw[hol_some HE.out HE1.out.1 HE1.out.2 HNO.out]
      exact H.out.ends p1 (HGD.out.chg.trans p2) (fun k hk=>.inl hk)
     clear hgb kc hR p1 p2
     go_wp2
     exact bodyPost_ret (v:=.tuple #[]) (by simp[results,results89,go_sem]) rfl ⟨rfl,HP.out⟩
    ·have HNE:Hid (¬(e.x=x∧e.r=r)):=fun hh=>e2 hh.2
     rw[e1] at k0
     clear e1
     by_cases f1:e.r.lv=r.lv
     ·rw[f1] at q1
      by_cases f2:e.r.lb=r.lb
      ·rw[f2] at q2
       have f3:¬e.r.id=r.id:=fun f3=>e2 (by
        cases he2:e.r
        cases hr2:r
        rw[he2,hr2] at f1 f2 f3
        simp at f1 f2 f3
        simp[f1,f2,f3])
       have d3:decide (e.r.id=r.id)=false:=by simp[f3]
       have d4:(e.r.id==r.id)=false:=by simp[f3]
       clear e2 f1 f2
       go_wp2
       go_quiet (fail)
       generalize hV:World.drewN wr _=V
       have HGV:Hid (G wr V):=by rw[←hV];exact(G.refl wr).drewN _
       clear hV hbc q1 q2 q3 q4 k0
       go_wp2
       refine⟨⟨n+1,HLT.out,by rw[HWN.out];exact rl1 n,HGW.out.trans HGV.out,fun j c hj hc=>?_⟩,by rw[HWN.out];exact ms_end HLT.out⟩
       by_cases ej:j=n
       ·subst ej
        rw[HE.out] at hc
        cases hc
        exact HNE.out
       ·exact HNO.out j c (by omega) hc
      ·have d2:¬e.r.lb.toList=r.lb.toList:=fun q=>f2 (toList_inj q)
       clear e2 f1
       go_wp2
       go_quiet (fail)
       generalize hV:World.drewN wr _=V
       have HGV:Hid (G wr V):=by rw[←hV];exact(G.refl wr).drewN _
       clear hV hbc q1 q2 q3 q4 k0
       go_wp2
       refine⟨⟨n+1,HLT.out,by rw[HWN.out];exact rl1 n,HGW.out.trans HGV.out,fun j c hj hc=>?_⟩,by rw[HWN.out];exact ms_end HLT.out⟩
       by_cases ej:j=n
       ·subst ej
        rw[HE.out] at hc
        cases hc
        exact HNE.out
       ·exact HNO.out j c (by omega) hc
     ·have d3:decide (e.r.lv=r.lv)=false:=by simp[f1]
      have d4:(e.r.lv==r.lv)=false:=by simp[f1]
      clear e2
      go_wp2
      go_quiet (fail)
      generalize hV:World.drewN wr _=V
      have HGV:Hid (G wr V):=by rw[←hV];exact(G.refl wr).drewN _
      clear hV hbc q1 q2 q3 q4 k0
      go_wp2
      refine⟨⟨n+1,HLT.out,by rw[HWN.out];exact rl1 n,HGW.out.trans HGV.out,fun j c hj hc=>?_⟩,by rw[HWN.out];exact ms_end HLT.out⟩
      by_cases ej:j=n
      ·subst ej
       rw[HE.out] at hc
       cases hc
       exact HNE.out
      ·exact HNO.out j c (by omega) hc
   ·have HNE:Hid (¬(e.x=x∧e.r=r)):=fun hh=>e1 hh.1
    have d1:(e.x==x)=false:=by simp[e1]
    have d2:decide (e.x=x)=false:=by simp[e1]
    go_wp2
    go_quiet (fail)
    generalize hV:World.drewN wr _=V
    have HGV:Hid (G wr V):=by rw[←hV];exact(G.refl wr).drewN _
    clear hV hbc q1 q2 q3 q4 k0
    go_wp2
    refine⟨⟨n+1,HLT.out,by rw[HWN.out];exact rl1 n,HGW.out.trans HGV.out,fun j c hj hc=>?_⟩,by rw[HWN.out];exact ms_end HLT.out⟩
    by_cases ej:j=n
    ·subst ej
     rw[HE.out] at hc
     cases hc
     exact HNE.out
    ·exact HNO.out j c (by omega) hc
  ·have hne:n=R.hd.length:=by omega
   subst hne
   have hnI:¬((R.hd.length:Int)<(R.hd.length:Int)):=by omega
   have HNO:Hid (∀a∈R.hd,¬(a.x=x∧a.r=r)):=fun e he=>by
    obtain⟨j,hj⟩:=List.mem_iff_getElem?.1 he
    exact hno j e (List.getElem?_eq_some_iff.1 hj).1 hj
   have hW:G w wr:=H1.out.2.trans hgw
   have g6:G wr (wr.alloc (.cells #[I x,I r.lv,.string r.lb,I r.id,I c,.bool false] 107)).drew:=((G.refl wr).alloc _).drew
   obtain⟨v9,w9,r1,r2,r3,r4⟩:=app_lk (wr.alloc (.cells #[I x,I r.lv,.string r.lb,I r.id,I c,.bool false] 107)).drew 0 (.slice ra R.hd.length rcap) R.hd [⟨x,r,c,false⟩] (own_G hR.rh g6) ⟨wr.heap.size,0,none⟩ 1 1 rfl (fun j u hj=>by
    have:=((Blk.new wr [I x,I r.lv,.string r.lb,I r.id,I c,.bool false] 107).drew).cell j
    rw[Addr.add_mid,Nat.zero_add,this]
    exact hj) (by simp;omega) (Nat.zero_le _)
   have hcg:Chg (fun k=>(Value.slice ra R.hd.length rcap).ownBlock=some k) wr w9:=g6.chg.trans ⟨r3.os,r3.tape,r3.output,r3.size,fun k hk hn=>r3.block k hk (fun e=>hn e.symm)⟩
   obtain⟨p1,p2,p3⟩:=hR.putH hcg r2 (fun k hk=>by
    rcases r4 with e|e
    ·rw[e] at hk;exact .inl hk
    ·rw[e] at hk;cases hk;exact .inr g6.size)
   have HP:Hid (Rst w D b ⟨R.tx,holP x r c R.hd,R.aq⟩ (w9.setCell ⟨b,1,none⟩ v9)):=by
    rw[hol_none HNO.out]
    exact H.out.ends p1 (hW.chg.trans p2) (fun k hk=>by
     rcases p3 k hk with hk|hk
     ·exact .inl hk
     ·exact .inr (Nat.le_trans hW.size hk))
   obtain⟨a9,c9,hv9⟩:=row_form r2
   obtain⟨n9,hn9⟩:∃n9,n9=(R.hd++[(⟨x,r,c,false⟩:Lk)]).length:=⟨_,rfl⟩
   rw[←hn9] at hv9
   subst hv9
   clear hn9
   have HR9:=hide r1
   have HB9:=hide (hR.blk.chg hcg (own_ne hR.rh hR.blk (by decide)))
   have HX9:Hid (Blk w9 rb 27 [I r.lv,.string r.lb,I r.id]):=(H1.out.1.G hgw).chg hcg (own_ne hR.rh (H1.out.1.G hgw) (by decide))
   have HS5:Hid ((fun V=>(∀j,V.cell? ⟨b,j,none⟩=([vt,.slice ra R.hd.length rcap,va]:List Value)[j]?)∧(∀j,V.cell? ⟨rb,j,none⟩=([I r.lv,.string r.lb,I r.id]:List Value)[j]?)) wr.drew):=⟨(hR.blk.drew).cell,((H1.out.1.G hgw).drew).cell⟩
   have HS6:Hid ((fun V=>(∀j,V.cell? ⟨b,j,none⟩=([vt,.slice ra R.hd.length rcap,va]:List Value)[j]?)∧(∀j,V.cell? ⟨rb,j,none⟩=([I r.lv,.string r.lb,I r.id]:List Value)[j]?)) (wr.alloc (.cells #[I x,I r.lv,.string r.lb,I r.id,I c,.bool false] 107)).drew):=⟨(hR.blk.G g6).cell,((H1.out.1.G hgw).G g6).cell⟩
   clear hn hlt hno hll hgw hR r1 r2 r3 r4 hcg p1 p2 p3 hW g6
   go_wp2_with fail
   refine wp_region_noPanic ?_
   refine wp_region_L (S:=(fun V=>(∀j,V.cell? ⟨b,j,none⟩=([vt,.slice ra R.hd.length rcap,va]:List Value)[j]?)∧(∀j,V.cell? ⟨rb,j,none⟩=([I r.lv,.string r.lb,I r.id]:List Value)[j]?))) 13 (by kernel_rfl) (HS5.out) (fun hHeld=>?_)
   refine wpAnyL_take (i:=0) (v:=?_) rfl (by kernel_rfl) (by kernel_rfl) (by kernel_rfl) (by kernel_rfl) (fun _ _ _ h=>h) (Or.inl ⟨by rfl,?_⟩) hHeld ?_
   rotate_left 1
   ·(intro w hSw;obtain⟨q1,q2⟩:=hSw;go_simp;try with_reducible rfl)
   try simp only[Act.put,List.getElem_toArray,List.getElem_cons_zero,List.setIfInBounds_toArray]
   refine wpAnyL_take (i:=1) (v:=?_) rfl (by kernel_rfl) (by kernel_rfl) (by kernel_rfl) (by kernel_rfl) (fun _ _ _ h=>h) (Or.inl ⟨by rfl,?_⟩) hHeld ?_
   rotate_left 1
   ·(intro w hSw;obtain⟨q1,q2⟩:=hSw;go_simp;try with_reducible rfl)
   try simp only[Act.put,List.getElem_toArray,List.getElem_cons_zero,List.getElem_cons_succ,List.setIfInBounds_toArray,List.set_cons_zero,List.set_cons_succ]
   refine wpAnyL_take (i:=2) (v:=?_) rfl (by kernel_rfl) (by kernel_rfl) (by kernel_rfl) (by kernel_rfl) (fun _ _ _ h=>h) (Or.inl ⟨by rfl,?_⟩) hHeld ?_
   rotate_left 1
   ·(intro w hSw;obtain⟨q1,q2⟩:=hSw;go_simp;try with_reducible rfl)
   try simp only[Act.put,List.getElem_toArray,List.getElem_cons_zero,List.getElem_cons_succ,List.setIfInBounds_toArray,List.set_cons_zero,List.set_cons_succ]
   refine wpAnyL_take (i:=3) (v:=?_) rfl (by kernel_rfl) (by kernel_rfl) (by kernel_rfl) (by kernel_rfl) (fun _ _ _ h=>h) (Or.inl ⟨by rfl,?_⟩) hHeld ?_
   rotate_left 1
   ·(intro w hSw;obtain⟨q1,q2⟩:=hSw;go_simp;try with_reducible rfl)
   try simp only[Act.put,List.getElem_toArray,List.getElem_cons_zero,List.getElem_cons_succ,List.setIfInBounds_toArray,List.set_cons_zero,List.set_cons_succ]
   refine wpAnyL_take (i:=4) (v:=?_) rfl (by kernel_rfl) (by kernel_rfl) (by kernel_rfl) (by kernel_rfl) (fun _ _ _ h=>h) (Or.inl ⟨by rfl,?_⟩) hHeld ?_
   rotate_left 1
   ·(intro w hSw;obtain⟨q1,q2⟩:=hSw;go_simp;try with_reducible rfl)
   try simp only[Act.put,List.getElem_toArray,List.getElem_cons_zero,List.getElem_cons_succ,List.setIfInBounds_toArray,List.set_cons_zero,List.set_cons_succ]
   refine wpAnyL_take (i:=5) (v:=?_) rfl (by kernel_rfl) (by kernel_rfl) (by kernel_rfl) (by kernel_rfl) (fun _ _ _ h=>h) (Or.inl ⟨by rfl,?_⟩) hHeld ?_
   rotate_left 1
   ·(intro w hSw;obtain⟨q1,q2⟩:=hSw;go_simp;try with_reducible rfl)
   try simp only[Act.put,List.getElem_toArray,List.getElem_cons_zero,List.getElem_cons_succ,List.setIfInBounds_toArray,List.set_cons_zero,List.set_cons_succ]
   refine wpAnyL_take (i:=6) (v:=?_) rfl (by kernel_rfl) (by kernel_rfl) (by kernel_rfl) (by kernel_rfl) (fun _ _ _ h=>h) (Or.inl ⟨by rfl,?_⟩) hHeld ?_
   rotate_left 1
   ·(intro w hSw;obtain⟨q1,q2⟩:=hSw;go_simp;try with_reducible rfl)
   try simp only[Act.put,List.getElem_toArray,List.getElem_cons_zero,List.getElem_cons_succ,List.setIfInBounds_toArray,List.set_cons_zero,List.set_cons_succ]
   refine wpAnyL_take (i:=7) (v:=?_) rfl (by kernel_rfl) (by kernel_rfl) (by kernel_rfl) (by kernel_rfl) (fun _ _ _ h=>h) (Or.inl ⟨by rfl,?_⟩) hHeld ?_
   rotate_left 1
   ·(intro w hSw;obtain⟨q1,q2⟩:=hSw;go_simp;try with_reducible rfl)
   try simp only[Act.put,List.getElem_toArray,List.getElem_cons_zero,List.getElem_cons_succ,List.setIfInBounds_toArray,List.set_cons_zero,List.set_cons_succ]
   refine wpAnyL_take (i:=8) (v:=?_) rfl (by kernel_rfl) (by kernel_rfl) (by kernel_rfl) (by kernel_rfl) (fun _ _ _ h=>h) (Or.inl ⟨by rfl,?_⟩) hHeld ?_
   rotate_left 1
   ·(intro w hSw;obtain⟨q1,q2⟩:=hSw;go_simp;try with_reducible rfl)
   try simp only[Act.put,List.getElem_toArray,List.getElem_cons_zero,List.getElem_cons_succ,List.setIfInBounds_toArray,List.set_cons_zero,List.set_cons_succ]
   refine wpAnyL_one (i:=9) (by kernel_rfl) rfl (by kernel_rfl) (fun K hK=>?_)
   clear hHeld
   go_simp
   refine hK.out _ _ (HS6.out) (fun hHeld=>?_)
   clear hK K
   try simp only[Act.put,List.getElem_toArray,List.getElem_cons_zero,List.getElem_cons_succ,List.setIfInBounds_toArray,List.set_cons_zero,List.set_cons_succ]
   refine wpAnyL_one (i:=10) (by kernel_rfl) rfl (by kernel_rfl) (fun K hK=>?_)
   clear hHeld
   refine(if_pos rfl).mpr ?_
   refine wp_of_exec (exec_append _ _ 103 rfl (.slice ra R.hd.length rcap) (.slice (some ⟨wr.heap.size,0,none⟩) 1 1) rfl rfl 103 rfl HR9.out) ?_
   refine hK.out _ _ (⟨HB9.out.cell,HX9.out.cell⟩) (fun hHeld=>?_)
   clear hK K
   try simp only[Act.put,List.getElem_toArray,List.getElem_cons_zero,List.getElem_cons_succ,List.setIfInBounds_toArray,List.set_cons_zero,List.set_cons_succ]
   refine wpAnyL_take2 12 (i:=11) (v:=?_) rfl (by kernel_rfl) (by kernel_rfl) (by kernel_rfl) (by kernel_rfl) (fun _ _ _ h=>h) (Or.inl ⟨by rfl,?_⟩) hHeld ?_
   rotate_left 1
   ·(intro w hSw;(try dsimp only at hSw);go_simp;try with_reducible rfl)
   try simp only[Act.put,List.getElem_toArray,List.getElem_cons_zero,List.getElem_cons_succ,List.setIfInBounds_toArray,List.set_cons_zero,List.set_cons_succ]
   refine wpAnyL_take (i:=12) (v:=?_) rfl (by kernel_rfl) (by kernel_rfl) (by kernel_rfl) (by kernel_rfl) (fun _ _ _ h=>h) (Or.inl ⟨by rfl,?_⟩) hHeld ?_
   rotate_left 1
   ·(intro w hSw;(try dsimp only at hSw);go_simp;try with_reducible rfl)
   try simp only[Act.put,List.getElem_toArray,List.getElem_cons_zero,List.getElem_cons_succ,List.setIfInBounds_toArray,List.set_cons_zero,List.set_cons_succ]
   refine wpAnyL_last (by kernel_rfl) rfl (by kernel_rfl) (fun K hK=>?_)
   clear hHeld
   have hc7:=HB9.out.cell
   have hz7:=HB9.out.frozen
   go_simp
   refine hK.out _ _ ?_
   clear hK K
   refine NoPanic.normal ?_
   go_wp2_with fail
   exact bodyPost_end (v:=.tuple #[]) (by simp[results,results89,go_sem]) rfl ⟨rfl,HP.out⟩
end
section
open Go.RowKit
def fromN(p:Lk→Bool)(l:List Lk)(k:Nat):Nat:=k+(l.drop k).findIdx p
theorem fromN_end(p:Lk→Bool)(l:List Lk):fromN p l l.length=l.length:=by simp[fromN]
theorem fromN_zero(p:Lk→Bool)(l:List Lk):fromN p l 0=l.findIdx p:=by simp[fromN]
theorem fromN_yes{p:Lk→Bool}{l:List Lk}{k:Nat}{a:Lk}(h:l[k]?=some a)(hp:p a=true):fromN p l k=k:=by
 obtain⟨h1,h2⟩:=List.getElem?_eq_some_iff.1 h
 unfold fromN
 rw[List.drop_eq_getElem_cons h1,h2,List.findIdx_cons,hp]
 rfl
theorem fromN_no{p:Lk→Bool}{l:List Lk}{k:Nat}{a:Lk}(h:l[k]?=some a)(hp:p a=false):fromN p l k=fromN p l (k+1):=by
 obtain⟨h1,h2⟩:=List.getElem?_eq_some_iff.1 h
 unfold fromN
 rw[List.drop_eq_getElem_cons h1,h2,List.findIdx_cons,hp]
 show k+((l.drop (k+1)).findIdx p+1)=_
 omega
theorem fromN_le(p:Lk→Bool)(l:List Lk)(k:Nat)(hk:k≤l.length):fromN p l k≤l.length:=by
 unfold fromN
 have:=List.findIdx_le_length (p:=p) (xs:=l.drop k)
 rw[List.length_drop] at this
 omega
end
section
open Go.RowKit
theorem enter_nil_false{w:World}{b:Nat}{tx:List Tx}{hd:List Lk}{D:Nat→Prop}{vt vh:Value}{tv:List (Tx×Value)}(h:RV w b ⟨tx,hd,([]:List Lk)⟩ D vt vh (.slice none 0 0) tv)(x lv:Int)(lb:ByteArray)(id c:Int):Calls prog 86 #[ptr b,.agg #[I x,I lv,.string lb,I id,I c,.bool false]] w fun e w'=>e=.returned (I (entN ⟨x,⟨lv,lb,id⟩,c,false⟩ ([]:List Lk):Int))∧Rst w D b ⟨tx,hd,entP ⟨x,⟨lv,lb,id⟩,c,false⟩ ([]:List Lk)⟩ w':=by
 have H:=hide h
 have hbc0:=h.blk.cell
 have HBX:Hid (Blk (w.alloc (.cells #[I x,I lv,.string lb,I id,I c,.bool false] 107)) w.heap.size 107 [I x,I lv,.string lb,I id,I c,.bool false]∧G w (w.alloc (.cells #[I x,I lv,.string lb,I id,I c,.bool false] 107))):=⟨Blk.new w _ 107,(G.refl w).alloc _⟩
 have hc0:=HBX.out.1.cell
 have hR:=h.G HBX.out.2
 have hbb:=hR.blk.cell
 have HEN:Hid (0=entN ⟨x,⟨lv,lb,id⟩,c,false⟩ ([]:List Lk)):=by simp[Hid,entN]
 clear h
 have r1:=app_lk0 (w.alloc (.cells #[I x,I lv,.string lb,I id,I c,.bool false] 107)) (w.alloc (.cells #[I x,I lv,.string lb,I id,I c,.bool false] 107)).heap.size (.slice none 0 0) [] ⟨rfl,.inl ⟨rfl,rfl⟩⟩
 obtain⟨v1,w1,e1⟩:∃v1 w1,v1=Value.slice none 0 0∧w1=(w.alloc (.cells #[I x,I lv,.string lb,I id,I c,.bool false] 107)):=⟨_,_,rfl,rfl⟩
 have r2:(w.alloc (.cells #[I x,I lv,.string lb,I id,I c,.bool false] 107)).ownsRow (w.alloc (.cells #[I x,I lv,.string lb,I id,I c,.bool false] 107)).heap.size 107 6 (.slice none 0 0) ([]:List Lk).length (lkc []):=⟨rfl,.inl ⟨rfl,rfl⟩⟩
 have g1:G (w.alloc (.cells #[I x,I lv,.string lb,I id,I c,.bool false] 107)) (w.alloc (.cells #[I x,I lv,.string lb,I id,I c,.bool false] 107)):=G.refl _
 clear e1 v1 w1
 have hqb1:=(HBX.out.1.G g1).cell
 obtain⟨v2,w2,s1,s2,s3,-⟩:=app_lk ((w.alloc (.cells #[I x,I lv,.string lb,I id,I c,.bool false] 107)).alloc (.cells #[I x,I lv,.string lb,I id,I c,.bool false] 107)) (w.alloc (.cells #[I x,I lv,.string lb,I id,I c,.bool false] 107)).heap.size (.slice none 0 0) ([]:List Lk) [⟨x,⟨lv,lb,id⟩,c,false⟩] (own_G r2 ((G.refl (w.alloc (.cells #[I x,I lv,.string lb,I id,I c,.bool false] 107))).alloc _)) ⟨(w.alloc (.cells #[I x,I lv,.string lb,I id,I c,.bool false] 107)).heap.size,0,none⟩ 1 1 rfl (fun j u hj=>by
  have:=(Blk.new (w.alloc (.cells #[I x,I lv,.string lb,I id,I c,.bool false] 107)) [I x,I lv,.string lb,I id,I c,.bool false] 107).cell j
  rw[Addr.add_mid,Nat.zero_add,this]
  exact hj) (by simp) ((g1.alloc _).size)
 have g2:G (w.alloc (.cells #[I x,I lv,.string lb,I id,I c,.bool false] 107)) w2:=grown_G (g1.alloc _) s3 (fun k hk=>(World.ownsRow.lt r2 k hk).1)
 obtain⟨x2,y2,hv2⟩:=row_form s2
 obtain⟨n2,hn2⟩:∃n2,n2=(([]:List Lk)++[(⟨x,⟨lv,lb,id⟩,c,false⟩:Lk)]).length:=⟨_,rfl⟩
 rw[←hn2] at hv2
 subst hv2
 clear hn2 s3
 rw[World.size_alloc] at s1
 have q1:=app_lk0 w2 (w.alloc (.cells #[I x,I lv,.string lb,I id,I c,.bool false] 107)).heap.size (.slice x2 n2 y2) ([]++[(⟨x,⟨lv,lb,id⟩,c,false⟩:Lk)]) s2
 have q2:=s2
 have g3:G (w.alloc (.cells #[I x,I lv,.string lb,I id,I c,.bool false] 107)) w2:=g2
 have hap:entP ⟨x,⟨lv,lb,id⟩,c,false⟩ ([]:List Lk)=[]++[⟨x,⟨lv,lb,id⟩,c,false⟩]:=by simp[entP]
 obtain⟨p1,p2,p3⟩:=hR.putA g3.chg (own_lo q2 (Nat.zero_le _)) (fun k hk=>.inr (World.ownsRow.lt q2 k hk).1)
 have HP:Hid (Rst w D b ⟨tx,hd,entP ⟨x,⟨lv,lb,id⟩,c,false⟩ []⟩ (w2.setCell ⟨b,2,none⟩ (.slice x2 n2 y2))):=by
  rw[hap]
  exact H.out.ends p1 (HBX.out.2.chg.trans p2) (fun k hk=>by
   rcases p3 k hk with hk|hk
   ·exact .inl hk
   ·exact .inr (Nat.le_trans HBX.out.2.size hk))
 have hbc:=hR.blk.cell
 have hb1:=(hR.blk.G g1).cell
 have hb2:=(hR.blk.G g2).cell
 have hb3:=(hR.blk.G g3).cell
 have hz3:=(hR.blk.G g3).frozen
 have HA:=hide r1;have HB:=hide s1;have HC:=hide q1
 clear r1 r2 s1 s2 q1 q2 p1 p2 p3 hap hR g1 g2 g3
 go_enter func86,ntmps86
 go_wp2_with (first|(at_builtin;refine wpList_append_run rfl _ _ 103 rfl _ _ rfl rfl HA.out ?_;refine Hid.out ?_)|fail)
 unfold Hid
 go_wp2_with (first|(at_builtin;refine wpList_append_run rfl _ _ 103 rfl _ _ rfl rfl HB.out ?_;refine Hid.out ?_)|fail)
 unfold Hid
 go_wp2_with (first|(at_builtin;refine wpList_append_run rfl _ _ 103 rfl _ _ rfl rfl HC.out ?_)|fail)
 go_ret
 exact⟨by first|(rw[←HEN.out];rfl)|rw[←HEN.out],HP.out⟩
end
section
open Go.RowKit
theorem enter_nil_true{w:World}{b:Nat}{tx:List Tx}{hd:List Lk}{D:Nat→Prop}{vt vh:Value}{tv:List (Tx×Value)}(h:RV w b ⟨tx,hd,([]:List Lk)⟩ D vt vh (.slice none 0 0) tv)(x lv:Int)(lb:ByteArray)(id c:Int):Calls prog 86 #[ptr b,.agg #[I x,I lv,.string lb,I id,I c,.bool true]] w fun e w'=>e=.returned (I (entN ⟨x,⟨lv,lb,id⟩,c,true⟩ ([]:List Lk):Int))∧Rst w D b ⟨tx,hd,entP ⟨x,⟨lv,lb,id⟩,c,true⟩ ([]:List Lk)⟩ w':=by
 have H:=hide h
 have hbc0:=h.blk.cell
 have HBX:Hid (Blk (w.alloc (.cells #[I x,I lv,.string lb,I id,I c,.bool true] 107)) w.heap.size 107 [I x,I lv,.string lb,I id,I c,.bool true]∧G w (w.alloc (.cells #[I x,I lv,.string lb,I id,I c,.bool true] 107))):=⟨Blk.new w _ 107,(G.refl w).alloc _⟩
 have hc0:=HBX.out.1.cell
 have hR:=h.G HBX.out.2
 have hbb:=hR.blk.cell
 clear h hR
 go_enter func86,ntmps86
 go_wp2_with fail
 obtain⟨w1,hw1⟩:∃w1,w1=(w.alloc (.cells #[I x,I lv,.string lb,I id,I c,.bool true] 107)):=⟨_,rfl⟩
 rw[←hw1] at HBX⊢
 obtain⟨rb,hrb⟩:∃rb,rb=w.heap.size:=⟨_,rfl⟩
 have HRB:=hide hrb
 rw[←hrb] at HBX⊢
 clear hw1 hrb hc0 hbb hbc0
 go_loopw [5,6] (fun av iv wr=>∃k:Nat,k≤([]:List Lk).length∧iv=I ((k:Int)-1)∧av=I (fromN (fun e:Lk=>decide (e.r=⟨lv,lb,id⟩)&&!e.up) ([]:List Lk) k:Int)∧G w1 wr) (fun _ iv _=>(RowKit.intOf iv+1).toNat)
 case atStart=>exact⟨([]:List Lk).length,Nat.le_refl _,by simp,by first|(rw[fromN_end];done)|(rw[fromN_end];rfl),G.refl _⟩
 case round=>
  obtain⟨k,hk,rfl,rfl,hgw⟩:=hrel
  have hR:=H.out.G (HBX.out.2.trans hgw)
  have hbc:=hR.blk.cell
  cases k with
  | zero=>
   have hi:¬((0:Int)≤((0:Nat):Int)-1):=by omega
   have ha:=fromN_le (fun e:Lk=>decide (e.r=⟨lv,lb,id⟩)&&!e.up) ([]:List Lk) 0 (Nat.zero_le _)
   have HEN:Hid (fromN (fun e:Lk=>decide (e.r=⟨lv,lb,id⟩)&&!e.up) ([]:List Lk) 0=entN ⟨x,⟨lv,lb,id⟩,c,true⟩ ([]:List Lk)):=by
    rw[fromN_zero]
    simp[Hid,entN]
   obtain⟨a,hae⟩:∃a,a=fromN (fun e:Lk=>decide (e.r=⟨lv,lb,id⟩)&&!e.up) ([]:List Lk) 0:=⟨_,rfl⟩
   rw[←hae] at ha HEN⊢
   clear hae
   have HBX:Hid (Blk wr rb 107 [I x,I lv,.string lb,I id,I c,.bool true]∧G w wr):=⟨HBX.out.1.G hgw,HBX.out.2.trans hgw⟩
   clear hgw hk
   have ha0:a=0:=by simpa using ha
   subst ha0
   have r1:=app_lk0 wr wr.heap.size (.slice none 0 0) [] ⟨rfl,.inl ⟨rfl,rfl⟩⟩
   obtain⟨v1,w1,e1⟩:∃v1 w1,v1=Value.slice none 0 0∧w1=wr:=⟨_,_,rfl,rfl⟩
   have r2:wr.ownsRow wr.heap.size 107 6 (.slice none 0 0) ([]:List Lk).length (lkc []):=⟨rfl,.inl ⟨rfl,rfl⟩⟩
   have g1:G wr wr:=G.refl _
   clear e1 v1 w1
   have hqb1:=(HBX.out.1.G g1).cell
   obtain⟨v2,w2,s1,s2,s3,-⟩:=app_lk (wr.alloc (.cells #[I x,I lv,.string lb,I id,I c,.bool true] 107)) wr.heap.size (.slice none 0 0) ([]:List Lk) [⟨x,⟨lv,lb,id⟩,c,true⟩] (own_G r2 ((G.refl wr).alloc _)) ⟨wr.heap.size,0,none⟩ 1 1 rfl (fun j u hj=>by
    have:=(Blk.new wr [I x,I lv,.string lb,I id,I c,.bool true] 107).cell j
    rw[Addr.add_mid,Nat.zero_add,this]
    exact hj) (by simp) ((g1.alloc _).size)
   have g2:G wr w2:=grown_G (g1.alloc _) s3 (fun k hk=>(World.ownsRow.lt r2 k hk).1)
   obtain⟨x2,y2,hv2⟩:=row_form s2
   obtain⟨n2,hn2⟩:∃n2,n2=(([]:List Lk)++[(⟨x,⟨lv,lb,id⟩,c,true⟩:Lk)]).length:=⟨_,rfl⟩
   rw[←hn2] at hv2
   subst hv2
   clear hn2 s3
   have q1:=app_lk0 w2 wr.heap.size (.slice x2 n2 y2) ([]++[(⟨x,⟨lv,lb,id⟩,c,true⟩:Lk)]) s2
   have q2:=s2
   have g3:G wr w2:=g2
   have hap:entP ⟨x,⟨lv,lb,id⟩,c,true⟩ ([]:List Lk)=[]++[⟨x,⟨lv,lb,id⟩,c,true⟩]:=by simp[entP]
   obtain⟨p1,p2,p3⟩:=hR.putA g3.chg (own_lo q2 (Nat.zero_le _)) (fun k hk=>.inr (World.ownsRow.lt q2 k hk).1)
   have HP:Hid (Rst w D b ⟨tx,hd,entP ⟨x,⟨lv,lb,id⟩,c,true⟩ []⟩ (w2.setCell ⟨b,2,none⟩ (.slice x2 n2 y2))):=by
    rw[hap]
    exact H.out.ends p1 (HBX.out.2.chg.trans p2) (fun k hk=>by
     rcases p3 k hk with hk|hk
     ·exact .inl hk
     ·exact .inr (Nat.le_trans HBX.out.2.size hk))
   have hbc:=hR.blk.cell
   have hb1:=(hR.blk.G g1).cell
   have hb2:=(hR.blk.G g2).cell
   have hb3:=(hR.blk.G g3).cell
   have hz3:=(hR.blk.G g3).frozen
   have HA:=hide r1;have HB:=hide s1;have HC:=hide q1
   clear r1 r2 s1 s2 q1 q2 p1 p2 p3 hap hR g1 g2 g3
   go_wp2_with (first|(at_builtin;refine wpList_append_run rfl _ _ 103 rfl _ _ rfl rfl HA.out ?_;refine Hid.out ?_)|fail)
   unfold Hid
   go_wp2_with (first|(at_builtin;refine wpList_append_run rfl _ _ 103 rfl _ _ rfl rfl HB.out ?_;refine Hid.out ?_)|fail)
   unfold Hid
   go_wp2_with (first|(at_builtin;refine wpList_append_run rfl _ _ 103 rfl _ _ rfl rfl HC.out ?_)|fail)
   go_ret
   exact⟨by first|(rw[←HEN.out];rfl)|rw[←HEN.out],HP.out⟩
  | succ j=>exact absurd hk (by simp)
end
section
open Go.RowKit
theorem enter_at_false{w:World}{b ga cap:Nat}{tx:List Tx}{hd aq:List Lk}{D:Nat→Prop}{vt vh:Value}{tv:List (Tx×Value)}(h:RV w b ⟨tx,hd,aq⟩ D vt vh (.slice (some ⟨ga,0,none⟩) aq.length cap) tv)(x lv:Int)(lb:ByteArray)(id c:Int)(hl:aq.length<400000000000)(hcap:aq.length≤cap):Calls prog 86 #[ptr b,.agg #[I x,I lv,.string lb,I id,I c,.bool false]] w fun e w'=>e=.returned (I (entN ⟨x,⟨lv,lb,id⟩,c,false⟩ aq:Int))∧Rst w D b ⟨tx,hd,entP ⟨x,⟨lv,lb,id⟩,c,false⟩ aq⟩ w':=by
 have H:=hide h
 have hbc0:=h.blk.cell
 have HBX:Hid (Blk (w.alloc (.cells #[I x,I lv,.string lb,I id,I c,.bool false] 107)) w.heap.size 107 [I x,I lv,.string lb,I id,I c,.bool false]∧G w (w.alloc (.cells #[I x,I lv,.string lb,I id,I c,.bool false] 107))):=⟨Blk.new w _ 107,(G.refl w).alloc _⟩
 have hc0:=HBX.out.1.cell
 have hR:=h.G HBX.out.2
 have hbb:=hR.blk.cell
 have HEN:Hid (aq.length=entN ⟨x,⟨lv,lb,id⟩,c,false⟩ aq):=by simp[Hid,entN]
 have ha:aq.length≤aq.length:=Nat.le_refl _
 by_cases hcn:cap=aq.length
 ·subst hcn
  clear h hcap
  have hcells:∀Z,G (w.alloc (.cells #[I x,I lv,.string lb,I id,I c,.bool false] 107)) Z→∀j u,(lkc aq)[j]?=some u→Z.cell? ⟨ga,j,none⟩=some u:=fun Z hZ j u hj=>by
   have h2:=(hR.G hZ).ra
   have hjl:=(List.getElem?_eq_some_iff.1 hj).1
   rw[show(lkc aq).length=aq.length*6 from flat_len Lk.cs 6 lk_len aq] at hjl
   rw[h2.cellAt j hjl];exact hj
  obtain⟨v1,w1,r1,r2,r3,-⟩:=app_lk (w.alloc (.cells #[I x,I lv,.string lb,I id,I c,.bool false] 107)) (w.alloc (.cells #[I x,I lv,.string lb,I id,I c,.bool false] 107)).heap.size (.slice none 0 0) [] (aq.take aq.length) ⟨rfl,.inl ⟨rfl,rfl⟩⟩ ⟨ga,0,none⟩ aq.length aq.length (by rw[List.length_take];omega) (fun j u hj=>by
   rw[Addr.add_mid,Nat.zero_add]
   refine hcells (w.alloc (.cells #[I x,I lv,.string lb,I id,I c,.bool false] 107)) (G.refl _) j u ?_
   have e:=lkc_app (aq.take aq.length) (aq.drop aq.length)
   rw[List.take_append_drop] at e
   rw[e,List.getElem?_append_left (List.getElem?_eq_some_iff.1 hj).1];exact hj) (by rw[List.length_take,List.length_nil];omega) (Nat.le_refl _)
  have g1:G (w.alloc (.cells #[I x,I lv,.string lb,I id,I c,.bool false] 107)) w1:=grown_G (G.refl _) r3 (fun k hk=>by cases hk)
  rw[List.nil_append] at r2
  obtain⟨x1,y1,hv1⟩:=row_form r2
  obtain⟨n1,hn1⟩:∃n1,n1=(aq.take aq.length).length:=⟨_,rfl⟩
  rw[←hn1] at hv1
  subst hv1
  clear hn1 r3
  have hqb1:=(HBX.out.1.G g1).cell
  obtain⟨v2,w2,s1,s2,s3,-⟩:=app_lk (w1.alloc (.cells #[I x,I lv,.string lb,I id,I c,.bool false] 107)) (w.alloc (.cells #[I x,I lv,.string lb,I id,I c,.bool false] 107)).heap.size (.slice x1 n1 y1) (aq.take aq.length) [⟨x,⟨lv,lb,id⟩,c,false⟩] (own_G r2 ((G.refl w1).alloc _)) ⟨w1.heap.size,0,none⟩ 1 1 rfl (fun j u hj=>by
   have:=(Blk.new w1 [I x,I lv,.string lb,I id,I c,.bool false] 107).cell j
   rw[Addr.add_mid,Nat.zero_add,this]
   exact hj) (by rw[List.length_take,List.length_singleton];omega) ((g1.alloc _).size)
  have g2:G (w.alloc (.cells #[I x,I lv,.string lb,I id,I c,.bool false] 107)) w2:=grown_G (g1.alloc _) s3 (fun k hk=>(World.ownsRow.lt r2 k hk).1)
  obtain⟨x2,y2,hv2⟩:=row_form s2
  obtain⟨n2,hn2⟩:∃n2,n2=((aq.take aq.length)++[(⟨x,⟨lv,lb,id⟩,c,false⟩:Lk)]).length:=⟨_,rfl⟩
  rw[←hn2] at hv2
  subst hv2
  clear hn2 s3
  obtain⟨v3,w3,q1,q2,q3,-⟩:=app_lk w2 (w.alloc (.cells #[I x,I lv,.string lb,I id,I c,.bool false] 107)).heap.size (.slice x2 n2 y2) ((aq.take aq.length)++[⟨x,⟨lv,lb,id⟩,c,false⟩]) (aq.drop aq.length) s2 ⟨ga,0,none⟩ 0 0 (by rw[List.length_drop];try omega) (fun j u hj=>by
   rw[List.drop_of_length_le (Nat.le_refl _)] at hj;cases hj) (by rw[List.length_append,List.length_take,List.length_drop,List.length_singleton];omega) g2.size
  have g3:G (w.alloc (.cells #[I x,I lv,.string lb,I id,I c,.bool false] 107)) w3:=grown_G g2 q3 (fun k hk=>(World.ownsRow.lt s2 k hk).1)
  obtain⟨x3,y3,hv3⟩:=row_form q2
  obtain⟨n3,hn3⟩:∃n3,n3=((aq.take aq.length)++[(⟨x,⟨lv,lb,id⟩,c,false⟩:Lk)]++aq.drop aq.length).length:=⟨_,rfl⟩
  rw[←hn3] at hv3
  subst hv3
  clear hn3 q3
  have hap:entP ⟨x,⟨lv,lb,id⟩,c,false⟩ aq=(aq.take aq.length)++[⟨x,⟨lv,lb,id⟩,c,false⟩]++aq.drop aq.length:=by
   unfold entP
   rw[←HEN.out,List.append_assoc];rfl
  obtain⟨p1,p2,p3⟩:=hR.putA g3.chg (own_lo q2 (Nat.zero_le _)) (fun k hk=>.inr (World.ownsRow.lt q2 k hk).1)
  have HP:Hid (Rst w D b ⟨tx,hd,entP ⟨x,⟨lv,lb,id⟩,c,false⟩ aq⟩ (w3.setCell ⟨b,2,none⟩ (.slice x3 n3 y3))):=by
   rw[hap]
   exact H.out.ends p1 (HBX.out.2.chg.trans p2) (fun k hk=>by
    rcases p3 k hk with hk|hk
    ·exact .inl hk
    ·exact .inr (Nat.le_trans HBX.out.2.size hk))
  have hbc:=hR.blk.cell
  have hb1:=(hR.blk.G g1).cell
  have hb2:=(hR.blk.G g2).cell
  have hb3:=(hR.blk.G g3).cell
  have hz3:=(hR.blk.G g3).frozen
  have HA:=hide r1;have HB:=hide s1;have HC:=hide q1
  clear hcells
  clear r1 r2 s1 s2 q1 q2 p1 p2 p3 hap hR g1 g2 g3
  go_enter func86,ntmps86
  go_wp2_with (first|(at_builtin;refine wpList_append_run rfl _ _ 103 rfl _ _ rfl rfl HA.out ?_;refine Hid.out ?_)|fail)
  unfold Hid
  go_wp2_with (first|(at_builtin;refine wpList_append_run rfl _ _ 103 rfl _ _ rfl rfl HB.out ?_;refine Hid.out ?_)|fail)
  unfold Hid
  go_wp2_with (first|(at_builtin;refine wpList_append_run rfl _ _ 103 rfl _ _ rfl rfl HC.out ?_)|fail)
  go_ret
  exact⟨by first|(rw[←HEN.out];rfl)|rw[←HEN.out],HP.out⟩
 ·have hcI:(aq.length:Int)≤(cap:Int):=by omega
  clear h
  have hcells:∀Z,G (w.alloc (.cells #[I x,I lv,.string lb,I id,I c,.bool false] 107)) Z→∀j u,(lkc aq)[j]?=some u→Z.cell? ⟨ga,j,none⟩=some u:=fun Z hZ j u hj=>by
   have h2:=(hR.G hZ).ra
   have hjl:=(List.getElem?_eq_some_iff.1 hj).1
   rw[show(lkc aq).length=aq.length*6 from flat_len Lk.cs 6 lk_len aq] at hjl
   rw[h2.cellAt j hjl];exact hj
  obtain⟨v1,w1,r1,r2,r3,-⟩:=app_lk (w.alloc (.cells #[I x,I lv,.string lb,I id,I c,.bool false] 107)) (w.alloc (.cells #[I x,I lv,.string lb,I id,I c,.bool false] 107)).heap.size (.slice none 0 0) [] (aq.take aq.length) ⟨rfl,.inl ⟨rfl,rfl⟩⟩ ⟨ga,0,none⟩ aq.length cap (by rw[List.length_take];omega) (fun j u hj=>by
   rw[Addr.add_mid,Nat.zero_add]
   refine hcells (w.alloc (.cells #[I x,I lv,.string lb,I id,I c,.bool false] 107)) (G.refl _) j u ?_
   have e:=lkc_app (aq.take aq.length) (aq.drop aq.length)
   rw[List.take_append_drop] at e
   rw[e,List.getElem?_append_left (List.getElem?_eq_some_iff.1 hj).1];exact hj) (by rw[List.length_take,List.length_nil];omega) (Nat.le_refl _)
  have g1:G (w.alloc (.cells #[I x,I lv,.string lb,I id,I c,.bool false] 107)) w1:=grown_G (G.refl _) r3 (fun k hk=>by cases hk)
  rw[List.nil_append] at r2
  obtain⟨x1,y1,hv1⟩:=row_form r2
  obtain⟨n1,hn1⟩:∃n1,n1=(aq.take aq.length).length:=⟨_,rfl⟩
  rw[←hn1] at hv1
  subst hv1
  clear hn1 r3
  have hqb1:=(HBX.out.1.G g1).cell
  obtain⟨v2,w2,s1,s2,s3,-⟩:=app_lk (w1.alloc (.cells #[I x,I lv,.string lb,I id,I c,.bool false] 107)) (w.alloc (.cells #[I x,I lv,.string lb,I id,I c,.bool false] 107)).heap.size (.slice x1 n1 y1) (aq.take aq.length) [⟨x,⟨lv,lb,id⟩,c,false⟩] (own_G r2 ((G.refl w1).alloc _)) ⟨w1.heap.size,0,none⟩ 1 1 rfl (fun j u hj=>by
   have:=(Blk.new w1 [I x,I lv,.string lb,I id,I c,.bool false] 107).cell j
   rw[Addr.add_mid,Nat.zero_add,this]
   exact hj) (by rw[List.length_take,List.length_singleton];omega) ((g1.alloc _).size)
  have g2:G (w.alloc (.cells #[I x,I lv,.string lb,I id,I c,.bool false] 107)) w2:=grown_G (g1.alloc _) s3 (fun k hk=>(World.ownsRow.lt r2 k hk).1)
  obtain⟨x2,y2,hv2⟩:=row_form s2
  obtain⟨n2,hn2⟩:∃n2,n2=((aq.take aq.length)++[(⟨x,⟨lv,lb,id⟩,c,false⟩:Lk)]).length:=⟨_,rfl⟩
  rw[←hn2] at hv2
  subst hv2
  clear hn2 s3
  obtain⟨v3,w3,q1,q2,q3,-⟩:=app_lk w2 (w.alloc (.cells #[I x,I lv,.string lb,I id,I c,.bool false] 107)).heap.size (.slice x2 n2 y2) ((aq.take aq.length)++[⟨x,⟨lv,lb,id⟩,c,false⟩]) (aq.drop aq.length) s2 ⟨ga,aq.length*6,none⟩ 0 (cap-aq.length) (by rw[List.length_drop];try omega) (fun j u hj=>by
   rw[Addr.add_mid]
   refine hcells w2 g2 _ u ?_
   have e:=lkc_app (aq.take aq.length) (aq.drop aq.length)
   rw[List.take_append_drop] at e
   have hlt:(lkc (aq.take aq.length)).length=aq.length*6:=by
    rw[show(lkc (aq.take aq.length)).length=(aq.take aq.length).length*6 from flat_len Lk.cs 6 lk_len _,List.length_take,Nat.min_eq_left ha]
   rw[e,List.getElem?_append_right (by omega),hlt,Nat.add_sub_cancel_left];exact hj) (by rw[List.length_append,List.length_take,List.length_drop,List.length_singleton];omega) g2.size
  have g3:G (w.alloc (.cells #[I x,I lv,.string lb,I id,I c,.bool false] 107)) w3:=grown_G g2 q3 (fun k hk=>(World.ownsRow.lt s2 k hk).1)
  obtain⟨x3,y3,hv3⟩:=row_form q2
  obtain⟨n3,hn3⟩:∃n3,n3=((aq.take aq.length)++[(⟨x,⟨lv,lb,id⟩,c,false⟩:Lk)]++aq.drop aq.length).length:=⟨_,rfl⟩
  rw[←hn3] at hv3
  subst hv3
  clear hn3 q3
  have hap:entP ⟨x,⟨lv,lb,id⟩,c,false⟩ aq=(aq.take aq.length)++[⟨x,⟨lv,lb,id⟩,c,false⟩]++aq.drop aq.length:=by
   unfold entP
   rw[←HEN.out,List.append_assoc];rfl
  obtain⟨p1,p2,p3⟩:=hR.putA g3.chg (own_lo q2 (Nat.zero_le _)) (fun k hk=>.inr (World.ownsRow.lt q2 k hk).1)
  have HP:Hid (Rst w D b ⟨tx,hd,entP ⟨x,⟨lv,lb,id⟩,c,false⟩ aq⟩ (w3.setCell ⟨b,2,none⟩ (.slice x3 n3 y3))):=by
   rw[hap]
   exact H.out.ends p1 (HBX.out.2.chg.trans p2) (fun k hk=>by
    rcases p3 k hk with hk|hk
    ·exact .inl hk
    ·exact .inr (Nat.le_trans HBX.out.2.size hk))
  have hbc:=hR.blk.cell
  have hb1:=(hR.blk.G g1).cell
  have hb2:=(hR.blk.G g2).cell
  have hb3:=(hR.blk.G g3).cell
  have hz3:=(hR.blk.G g3).frozen
  have HA:=hide r1;have HB:=hide s1;have HC:=hide q1
  clear hcells
  clear r1 r2 s1 s2 q1 q2 p1 p2 p3 hap hR g1 g2 g3
  go_enter func86,ntmps86
  go_wp2_with (first|(at_builtin;refine wpList_append_run rfl _ _ 103 rfl _ _ rfl rfl HA.out ?_;refine Hid.out ?_)|fail)
  unfold Hid
  go_wp2_with (first|(at_builtin;refine wpList_append_run rfl _ _ 103 rfl _ _ rfl rfl HB.out ?_;refine Hid.out ?_)|fail)
  unfold Hid
  go_wp2_with (first|(at_builtin;refine wpList_append_run rfl _ _ 103 rfl _ _ rfl rfl HC.out ?_)|fail)
  go_ret
  exact⟨by first|(rw[←HEN.out];rfl)|rw[←HEN.out],HP.out⟩
end
end Go.Proofs.YtoefbpldmlebdaaGreatDoor
