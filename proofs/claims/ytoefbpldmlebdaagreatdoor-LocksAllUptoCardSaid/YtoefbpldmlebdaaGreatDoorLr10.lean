import Derived.Test.YtoefbpldmlebdaaGreatDoorLr14a
namespace Go.Proofs.YtoefbpldmlebdaaGreatDoor
open Go.Proofs.Tryz
set_option maxHeartbeats 1000000
set_option maxRecDepth 100000
section
open Go.RowKit
def hidP(r:Rs)(l:List Lk):List Int:=putsP ((l.filter fun e=>decide (e.r=r)).map Lk.x)
def hldP(r:Rs)(l:List Lk):List (Int×Int):=(hidP r l).map fun a=>(a,hbI a r l)
theorem hidP_snoc(r:Rs)(l:List Lk)(e:Lk):hidP r (l++[e])=if e.r=r then insP e.x (hidP r l)else hidP r l:=by
 unfold hidP
 rw[List.filter_append,List.map_append]
 by_cases h:e.r=r
 ·rw[if_pos h,List.filter_cons_of_pos (by simp[h]),List.filter_nil]
  exact putsP_snoc _ _
 ·rw[if_neg h,List.filter_cons_of_neg (by simp[h]),List.filter_nil]
  simp
theorem hidP_len(r:Rs)(l:List Lk):(hidP r l).length≤l.length:=by
 unfold hidP
 have h1:=putsP_len ((l.filter fun e=>decide (e.r=r)).map Lk.x)
 rw[List.length_map] at h1
 have h2:=List.length_filter_le (fun e:Lk=>decide (e.r=r)) l
 omega
theorem holders_r{w:World}{b:Nat}{R:Rt}{D:Nat→Prop}{vt vh va:Value}{tv:List (Tx×Value)}(h:RV w b R D vt vh va tv)(r:Rs)(hr:resB r=true)(hl:R.hd.length<400000000000):Calls prog 29 #[ptr b,.agg #[I r.lv,.string r.lb,I r.id]] w fun e w'=>∃v,e=.returned v∧w'.ownsRow w.heap.size 77 2 v (hldP r R.hd).length (qc (hldP r R.hd))∧G w w':=by
 obtain⟨ra,rcap,rfl⟩:=row_form h.rh
 have KR:=hide (res_r r (w.alloc (.cells #[I r.lv,.string r.lb,I r.id] 27)))
 rw[hr] at KR
 have hc:=(Blk.new w [I r.lv,.string r.lb,I r.id] 27).cell
 have H:=hide h;have HLL:=hide hl
 clear h hl hr
 obtain⟨rl,rb,ri⟩:=r
 simp only at KR hc⊢
 go_enter func29,ntmps29
 go_wp2_with (first|(go_at_call 57;with_reducible refine(KR.out).mono ?_;rintro e w' ⟨rfl,rfl⟩)|fail)
 clear hc KR
 obtain⟨w1,hw1⟩:∃w1,w1=(w.alloc (.cells #[I rl,.string rb,I ri] 27)).alloc (.cells #[I rl,.string rb,I ri] 27):=⟨_,rfl⟩
 rw[←hw1]
 have H1:Hid (Blk w1 w.heap.size 27 [I rl,.string rb,I ri]∧G w w1):=by rw[hw1];exact⟨(Blk.new w [I rl,.string rb,I ri] 27).G ((G.refl _).alloc _),((G.refl w).alloc _).alloc _⟩
 clear hw1
 go_loopw [6,7] (fun ov iv wr=>∃n:Nat,n≤R.hd.length∧iv=I (n:Int)∧wr.ownsRow w.heap.size 3 1 ov (hidP ⟨rl,rb,ri⟩ (R.hd.take n)).length ((hidP ⟨rl,rb,ri⟩ (R.hd.take n)).map fun z=>I z)∧G w1 wr) (fun _ iv _=>R.hd.length-(RowKit.intOf iv).toNat)
 case atStart=>exact⟨0,Nat.zero_le _,rfl,⟨rfl,.inl ⟨rfl,rfl⟩⟩,G.refl _⟩
 case round=>
  obtain⟨n,hn,rfl,how,hgw⟩:=hrel
  have hll:=HLL.out
  have hR:=H.out.G (H1.out.2.trans hgw)
  have hbc:=hR.blk.cell
  by_cases hlt:n<R.hd.length
  ·obtain⟨⟨ex,⟨el,eb,ei⟩,ec,eu⟩,he⟩:∃a,R.hd[n]?=some a:=⟨_,List.getElem?_eq_getElem hlt⟩
   obtain⟨ga,hga,kc⟩:=row_cell lk_len hR.rh he
   subst hga
   have q1:wr.cell? ⟨ga,n*6+1,none⟩=some (I el):=kc 1 (by omega)
   have q2:wr.cell? ⟨ga,n*6+1+1,none⟩=some (.string eb):=kc 2 (by omega)
   have q3:wr.cell? ⟨ga,n*6+1+2,none⟩=some (I ei):=kc 3 (by omega)
   have q4:=(H1.out.1.G hgw).cell
   have hnI:(n:Int)<(R.hd.length:Int):=by omega
   have hn0:(0:Int)≤(n:Int):=by omega
   have hwn:wrap64 ((n:Int)+1)=(n:Int)+1:=by unfold wrap64;omega
   have hst:=hidP_snoc ⟨rl,rb,ri⟩ (R.hd.take n) ⟨ex,⟨el,eb,ei⟩,ec,eu⟩
   rw[←take_lk he] at hst
   have HWN:=hide hwn;have HLT:=hide hlt;have HGW:=hide hgw;have HOW:=hide how;have HE:=hide he
   clear hn hlt he hwn kc hll hgw hR how
   by_cases f1:el=rl
   ·subst f1
    by_cases f2:eb=rb
    ·subst f2
     by_cases f3:ei=ri
     ·subst f3
      have HST:=hide hst
      rw[if_pos rfl] at HST
      clear hst
      go_wp2_with fail
      go_quiet (fail)
      generalize hV:World.drewN wr _=V
      have HGV:Hid (G wr V):=by rw[←hV];exact(G.refl wr).drewN _
      clear hV hbc q1 q2 q3 q4
      have HGD:Hid (G w V):=H1.out.2.trans (HGW.out.trans HGV.out)
      have hR:=H.out.G HGD.out
      have hbc:=hR.blk.cell
      obtain⟨gb,hgb,kc⟩:=row_cell lk_len hR.rh HE.out
      have eg:ga=gb:=by simpa using hgb
      subst eg
      have k0:V.cell? ⟨ga,n*6,none⟩=some (I ex):=kc 0 (by omega)
      have KP:=hide (put_r V w.heap.size u6 _ ex (own_G HOW.out HGV.out) (putsP_up _) (by have:=HLL.out;have h1:=hidP_len ⟨el,eb,ei⟩ (R.hd.take n);rw[List.length_take] at h1;show(hidP _ _).length<_;omega))
      clear hgb kc hR
      go_wp2_with (first|(go_at_call 58;with_reducible refine(KP.out).mono ?_;rintro e w9 ⟨v9,rfl,o9,g9⟩)|fail)
      exact⟨⟨n+1,HLT.out,by rw[HWN.out];exact rl1 n,by rw[HST.out];exact own_lo o9 HGD.out.size,HGW.out.trans (HGV.out.trans g9)⟩,by rw[HWN.out];exact ms_end HLT.out⟩
     ·have d4:(ei==ri)=false:=by simp[f3]
      have d5:decide (ei=ri)=false:=by simp[f3]
      have HST:=hide hst
      rw[if_neg (by simp[f3])] at HST
      clear hst
      go_wp2_with fail
      go_quiet (fail)
      generalize hV:World.drewN wr _=V
      have HGV:Hid (G wr V):=by rw[←hV];exact(G.refl wr).drewN _
      clear hV hbc q1 q2 q3 q4
      go_wp2_with fail
      exact⟨⟨n+1,HLT.out,by rw[HWN.out];exact rl1 n,by rw[HST.out];exact own_G HOW.out HGV.out,HGW.out.trans HGV.out⟩,by rw[HWN.out];exact ms_end HLT.out⟩
    ·have d4:¬eb.toList=rb.toList:=fun q=>f2 (toList_inj q)
     have HST:=hide hst
     rw[if_neg (by simp[f2])] at HST
     clear hst
     go_wp2_with fail
     go_quiet (fail)
     generalize hV:World.drewN wr _=V
     have HGV:Hid (G wr V):=by rw[←hV];exact(G.refl wr).drewN _
     clear hV hbc q1 q2 q3 q4
     go_wp2_with fail
     exact⟨⟨n+1,HLT.out,by rw[HWN.out];exact rl1 n,by rw[HST.out];exact own_G HOW.out HGV.out,HGW.out.trans HGV.out⟩,by rw[HWN.out];exact ms_end HLT.out⟩
   ·have d4:(el==rl)=false:=by simp[f1]
    have d5:decide (el=rl)=false:=by simp[f1]
    have HST:=hide hst
    rw[if_neg (by simp[f1])] at HST
    clear hst
    go_wp2_with fail
    go_quiet (fail)
    generalize hV:World.drewN wr _=V
    have HGV:Hid (G wr V):=by rw[←hV];exact(G.refl wr).drewN _
    clear hV hbc q1 q2 q3 q4
    go_wp2_with fail
    exact⟨⟨n+1,HLT.out,by rw[HWN.out];exact rl1 n,by rw[HST.out];exact own_G HOW.out HGV.out,HGW.out.trans HGV.out⟩,by rw[HWN.out];exact ms_end HLT.out⟩
  ·have hne:n=R.hd.length:=by omega
   subst hne
   have hnI:¬((R.hd.length:Int)<(R.hd.length:Int)):=by omega
   rw[List.take_length] at how
   have hidl:=hidP_len ⟨rl,rb,ri⟩ R.hd
   obtain⟨ids,hids⟩:∃ids,ids=hidP ⟨rl,rb,ri⟩ R.hd:=⟨_,rfl⟩
   rw[←hids] at how hidl
   obtain⟨ia,ic,rfl⟩:=row_form how
   have HID:=hide hids;have HIL:Hid (ids.length<400000000000):=by show _<_;omega
   have HIDS:=hide how
   have H2:Hid (Blk wr w.heap.size 27 [I rl,.string rb,I ri]∧G w wr):=⟨H1.out.1.G hgw,H1.out.2.trans hgw⟩
   clear hn hlt hll hgw hR how hids hidl H1
   go_wp2_with fail
   clear hbc
   generalize wr=w2 at H2 HIDS⊢
   obtain⟨vi,hvi⟩:∃vi,vi=Value.slice ia ids.length ic:=⟨_,rfl⟩
   have HVI:=hide hvi
   rw[←hvi] at HIDS
   clear hvi
   go_loopw [5,8] (fun ov iv wr=>∃n:Nat,n≤ids.length∧iv=I (n:Int)∧wr.ownsRow w.heap.size 77 2 ov ((ids.take n).map fun a=>(a,hbI a ⟨rl,rb,ri⟩ R.hd)).length (qc ((ids.take n).map fun a=>(a,hbI a ⟨rl,rb,ri⟩ R.hd)))∧wr.ownsRow w.heap.size 3 1 vi ids.length (ids.map fun z=>I z)∧G w wr∧Blk wr w.heap.size 27 [I rl,.string rb,I ri]) (fun _ iv _=>ids.length-(RowKit.intOf iv).toNat)
   case atStart=>exact⟨0,Nat.zero_le _,rfl,⟨rfl,.inl ⟨rfl,rfl⟩⟩,HIDS.out,H2.out.2,H2.out.1⟩
   case round=>
    obtain⟨n,hn,rfl,how,hvr,hgw,hbx⟩:=hrel
    have hll:=HIL.out
    by_cases hlt:n<ids.length
    ·obtain⟨x,hx⟩:∃a,ids[n]?=some a:=⟨_,List.getElem?_eq_getElem hlt⟩
     have hvr2:=hvr
     rw[HVI.out] at hvr2
     obtain⟨ga,hga,k0⟩:=int_at hvr2 hx
     subst hga
     have hnI:(n:Int)<(ids.length:Int):=by omega
     have hn0:(0:Int)≤(n:Int):=by omega
     have hwn:wrap64 ((n:Int)+1)=(n:Int)+1:=by unfold wrap64;omega
     have HST:=hide (take_map_snoc (fun a=>(a,hbI a ⟨rl,rb,ri⟩ R.hd)) hx)
     have HLO:Hid (((ids.take n).map fun a=>(a,hbI a ⟨rl,rb,ri⟩ R.hd)).length<4100000000000):=by show _<_;rw[List.length_map,List.length_take];omega
     have HWN:=hide hwn;have HLT:=hide hlt;have HG0:=hide hgw;have HOW:=hide how;have HBX:=hide hbx
     have HIDS:=hide hvr
     have hgl:ga<wr.heap.size:=own_lt hvr2 rfl
     have HX:=hide hx
     have HSS:Hid (∀U,G wr U→(fun U=>G w U∧U.cell? ⟨ga,n,none⟩=some (I x)∧∀o,U.cell? ⟨w.heap.size,o,none⟩=([I rl,.string rb,I ri]:List Value)[o]?) U):=fun U hU=>⟨HG0.out.trans hU,(hU.cell hgl).trans k0,(HBX.out.G hU).cell⟩
     have KH:Hid (∀U,G w U→Calls prog 59 #[ptr b,I x,.agg #[I rl,.string rb,I ri]] U fun e w'=>e=.returned (I (hbI x ⟨rl,rb,ri⟩ R.hd))∧G U w'):=fun U hU=>heldBy_r (H.out.G hU) x ⟨rl,rb,ri⟩ (by have:=HLL.out;omega)
     clear hn hlt hx hwn hll hgw how hvr hbx hvr2 k0 hgl
     rw[HVI.out]
     go_wp2_with fail
     refine wp_region_noPanic ?_
     refine wp_region_held_drew (S:=(fun U=>G w U∧U.cell? ⟨ga,n,none⟩=some (I x)∧∀o,U.cell? ⟨w.heap.size,o,none⟩=([I rl,.string rb,I ri]:List Value)[o]?)) (by kernel_rfl) (HSS.out _ (G.refl wr).drew) (fun hHeld=>?_)
     refine wpAnyH_take (i:=0) (v:=?_) rfl (by kernel_rfl) (by kernel_rfl) (by kernel_rfl) (fun _ _ _ h=>h) (Or.inl ⟨by rfl,?_⟩) hHeld ?_
     rotate_left 1
     ·(intro w hSw;obtain⟨q0,q1,q2⟩:=hSw;go_simp;try with_reducible rfl)
     try simp only[Act.put,List.getElem_toArray,List.getElem_cons_zero,List.setIfInBounds_toArray,List.set_cons_zero,List.set_cons_succ]
     refine wpAnyH_take (i:=1) (v:=?_) rfl (by kernel_rfl) (by kernel_rfl) (by kernel_rfl) (fun _ _ _ h=>h) (Or.inl ⟨by rfl,?_⟩) hHeld ?_
     rotate_left 1
     ·(intro w hSw;obtain⟨q0,q1,q2⟩:=hSw;go_simp;try with_reducible rfl)
     try simp only[Act.put,List.getElem_toArray,List.getElem_cons_zero,List.getElem_cons_succ,List.setIfInBounds_toArray,List.set_cons_zero,List.set_cons_succ]
     refine wpAnyH_take (i:=2) (v:=?_) rfl (by kernel_rfl) (by kernel_rfl) (by kernel_rfl) (fun _ _ _ h=>h) (Or.inl ⟨by rfl,?_⟩) hHeld ?_
     rotate_left 1
     ·(intro w hSw;obtain⟨q0,q1,q2⟩:=hSw;go_simp;try with_reducible rfl)
     try simp only[Act.put,List.getElem_toArray,List.getElem_cons_zero,List.getElem_cons_succ,List.setIfInBounds_toArray,List.set_cons_zero,List.set_cons_succ]
     refine wpAnyH_take (i:=3) (v:=?_) rfl (by kernel_rfl) (by kernel_rfl) (by kernel_rfl) (fun _ _ _ h=>h) (Or.inl ⟨by rfl,?_⟩) hHeld ?_
     rotate_left 1
     ·(intro w hSw;obtain⟨q0,q1,q2⟩:=hSw;go_simp;try with_reducible rfl)
     try simp only[Act.put,List.getElem_toArray,List.getElem_cons_zero,List.getElem_cons_succ,List.setIfInBounds_toArray,List.set_cons_zero,List.set_cons_succ]
     refine wpAnyH_take (i:=4) (v:=?_) rfl (by kernel_rfl) (by kernel_rfl) (by kernel_rfl) (fun _ _ _ h=>h) (Or.inl ⟨by rfl,?_⟩) hHeld ?_
     rotate_left 1
     ·(intro w hSw;obtain⟨q0,q1,q2⟩:=hSw;go_simp;try with_reducible rfl)
     try simp only[Act.put,List.getElem_toArray,List.getElem_cons_zero,List.getElem_cons_succ,List.setIfInBounds_toArray,List.set_cons_zero,List.set_cons_succ]
     refine wpAnyH_take (i:=5) (v:=?_) rfl (by kernel_rfl) (by kernel_rfl) (by kernel_rfl) (fun _ _ _ h=>h) (Or.inl ⟨by rfl,?_⟩) hHeld ?_
     rotate_left 1
     ·(intro w hSw;obtain⟨q0,q1,q2⟩:=hSw;go_simp;try with_reducible rfl)
     try simp only[Act.put,List.getElem_toArray,List.getElem_cons_zero,List.getElem_cons_succ,List.setIfInBounds_toArray,List.set_cons_zero,List.set_cons_succ]
     refine wpAnyH_take (i:=6) (v:=?_) rfl (by kernel_rfl) (by kernel_rfl) (by kernel_rfl) (fun _ _ _ h=>h) (Or.inl ⟨by rfl,?_⟩) hHeld ?_
     rotate_left 1
     ·(intro w hSw;obtain⟨q0,q1,q2⟩:=hSw;go_simp;try with_reducible rfl)
     try simp only[Act.put,List.getElem_toArray,List.getElem_cons_zero,List.getElem_cons_succ,List.setIfInBounds_toArray,List.set_cons_zero,List.set_cons_succ]
     refine wpAnyH_take (i:=7) (v:=?_) rfl (by kernel_rfl) (by kernel_rfl) (by kernel_rfl) (fun _ _ _ h=>h) (Or.inl ⟨by rfl,?_⟩) hHeld ?_
     rotate_left 1
     ·(intro w hSw;obtain⟨q0,q1,q2⟩:=hSw;go_simp;try with_reducible rfl)
     try simp only[Act.put,List.getElem_toArray,List.getElem_cons_zero,List.getElem_cons_succ,List.setIfInBounds_toArray,List.set_cons_zero,List.set_cons_succ]
     refine wpAnyH_take (i:=8) (v:=?_) rfl (by kernel_rfl) (by kernel_rfl) (by kernel_rfl) (fun _ _ _ h=>h) (Or.inl ⟨by rfl,?_⟩) hHeld ?_
     rotate_left 1
     ·(intro w hSw;obtain⟨q0,q1,q2⟩:=hSw;go_simp;try with_reducible rfl)
     try simp only[Act.put,List.getElem_toArray,List.getElem_cons_zero,List.getElem_cons_succ,List.setIfInBounds_toArray,List.set_cons_zero,List.set_cons_succ]
     refine wpAnyH_take (i:=9) (v:=?_) rfl (by kernel_rfl) (by kernel_rfl) (by kernel_rfl) (fun _ _ _ h=>h) (Or.inl ⟨by rfl,?_⟩) hHeld ?_
     rotate_left 1
     ·(intro w hSw;obtain⟨q0,q1,q2⟩:=hSw;go_simp;try with_reducible rfl)
     try simp only[Act.put,List.getElem_toArray,List.getElem_cons_zero,List.getElem_cons_succ,List.setIfInBounds_toArray,List.set_cons_zero,List.set_cons_succ]
     refine wpAnyH_take (i:=10) (v:=?_) rfl (by kernel_rfl) (by kernel_rfl) (by kernel_rfl) (fun _ _ _ h=>h) (Or.inl ⟨by rfl,?_⟩) hHeld ?_
     rotate_left 1
     ·(intro w hSw;obtain⟨q0,q1,q2⟩:=hSw;go_simp;try with_reducible rfl)
     try simp only[Act.put,List.getElem_toArray,List.getElem_cons_zero,List.getElem_cons_succ,List.setIfInBounds_toArray,List.set_cons_zero,List.set_cons_succ]
     refine wpAnyH_ready (rs:=[11]) (by kernel_rfl) (by simp) (AllReadyH.cons rfl (fun K hK=>?_) AllReadyH.nil)
     have hgc:=hHeld
     clear hHeld
     go_simp
     with_reducible refine(KH.out _ hgc.1).mono ?_
     rintro e w3 ⟨rfl,hg3⟩
     have HG3:Hid (G wr w3):=((G.refl wr).drew).trans hg3
     obtain⟨v9,w9,r1,r2,r3⟩:=app_held w3 w.heap.size u5 _ x (hbI x ⟨rl,rb,ri⟩ R.hd) (own_G HOW.out HG3.out) HLO.out (HG0.out.trans HG3.out).size
     have hcg:Chg (fun k=>u5.ownBlock=some k) (w3.alloc (.cells #[I x,I (hbI x ⟨rl,rb,ri⟩ R.hd)] 77)) w9:=⟨r3.os,r3.tape,r3.output,r3.size,fun k hk hn=>r3.block k hk (fun e=>hn e.symm)⟩
     have HV9:Hid (w9.ownsRow w.heap.size 3 1 vi ids.length (ids.map fun z=>I z)):=own_chg (own_G HIDS.out (HG3.out.alloc _)) hcg (fun b hb e=>own_apart HOW.out HIDS.out (by decide) b e hb)
     have HR2:=hide r2
     have HG9:Hid (G w w9):=grown_G ((HG0.out.trans HG3.out).alloc _) r3 (fun k hk=>(World.ownsRow.lt HOW.out k hk).1)
     have HR9:=hide r1
     have HB9:Hid (Blk w9 w.heap.size 27 [I rl,.string rb,I ri]):=(HBX.out.G (HG3.out.alloc _)).chg hcg (fun e=>own_ne HOW.out HBX.out (by decide) e)
     have HS9:Hid ((fun U=>G w U∧U.cell? ⟨ga,n,none⟩=some (I x)∧∀o,U.cell? ⟨w.heap.size,o,none⟩=([I rl,.string rb,I ri]:List Value)[o]?) w9):=⟨HG9.out,by
      obtain⟨gb,hgb,k9⟩:=int_at (by rw[←HVI.out];exact HV9.out) HX.out
      have eg:ga=gb:=by simpa using hgb
      subst eg
      exact k9,HB9.out.cell⟩
     clear r1 r2 r3 hg3 hgc hcg
     refine hK.out _ _ (HSS.out _ HG3.out) (fun hHeld=>?_)
     clear hK K
     try simp only[Act.put,List.getElem_toArray,List.getElem_cons_zero,List.getElem_cons_succ,List.setIfInBounds_toArray,List.set_cons_zero,List.set_cons_succ]
     refine wpAnyH_take (i:=12) (v:=?_) rfl (by kernel_rfl) (by kernel_rfl) (by kernel_rfl) (fun _ _ _ h=>h) (Or.inl ⟨by rfl,?_⟩) hHeld ?_
     rotate_left 1
     ·(intro w hSw;(try dsimp only at hSw);go_simp;try with_reducible rfl)
     try simp only[Act.put,List.getElem_toArray,List.getElem_cons_zero,List.getElem_cons_succ,List.setIfInBounds_toArray,List.set_cons_zero,List.set_cons_succ]
     refine wpAnyH_ready (rs:=[13]) (by kernel_rfl) (by simp) (AllReadyH.cons rfl (fun K hK=>?_) AllReadyH.nil)
     clear hHeld
     go_simp
     refine hK.out _ _ (HSS.out _ (HG3.out.alloc _)) (fun hHeld=>?_)
     clear hK K
     try simp only[Act.put,List.getElem_toArray,List.getElem_cons_zero,List.getElem_cons_succ,List.setIfInBounds_toArray,List.set_cons_zero,List.set_cons_succ]
     refine wpAnyH_ready (rs:=[14]) (by kernel_rfl) (by simp) (AllReadyH.cons rfl (fun K hK=>?_) AllReadyH.nil)
     clear hHeld
     refine(if_pos rfl).mpr ?_
     refine wp_of_exec (exec_append _ _ 49 rfl u5 (.slice (some ⟨w3.heap.size,0,none⟩) 1 1) rfl rfl 49 rfl HR9.out) ?_
     refine hK.out _ _ (HS9.out) (fun hHeld=>?_)
     clear hK K
     try simp only[Act.put,List.getElem_toArray,List.getElem_cons_zero,List.getElem_cons_succ,List.setIfInBounds_toArray,List.set_cons_zero,List.set_cons_succ]
     refine wpAnyH_take (i:=15) (v:=?_) rfl (by kernel_rfl) (by kernel_rfl) (by kernel_rfl) (fun _ _ _ h=>h) (Or.inl ⟨by rfl,?_⟩) hHeld ?_
     rotate_left 1
     ·(intro w hSw;(try dsimp only at hSw);go_simp;try with_reducible rfl)
     try simp only[Act.put,List.getElem_toArray,List.getElem_cons_zero,List.getElem_cons_succ,List.setIfInBounds_toArray,List.set_cons_zero,List.set_cons_succ]
     refine wpAnyH_done (by kernel_rfl) ?_ _
     refine NoPanic.normal ?_
     go_wp2_with fail
     exact⟨⟨n+1,HLT.out,by rw[HWN.out];exact rl1 n,by rw[HST.out];exact HR2.out,by rw[←HVI.out];exact HV9.out,HG9.out,HB9.out⟩,by rw[HWN.out];exact ms_end HLT.out⟩
    ·have hne:n=ids.length:=by omega
     subst hne
     have hnI:¬((ids.length:Int)<(ids.length:Int)):=by omega
     rw[List.take_length] at how
     have HGW:=hide hgw;have HOW:=hide how
     clear hn hlt hll hgw how hvr hbx
     rw[HVI.out]
     go_wp2_with fail
     go_ret
     exact⟨_,rfl,by unfold hldP;rw[←HID.out];exact HOW.out,HGW.out⟩
end
section
open Go.RowKit
def waiX(R:Rt)(x:Int):List (Int×Int×Rs):=match R.aq.findIdx? (fun e=>e.x==x)with
 | none=>[]
 | some n=>match R.aq[n]?,R.tx.find? (fun e=>e.x==x)with
  | some q,some t=>if t.ws=[] then(inwP R n q).map (fun y=>(x,y,q.r))else []
  | _,_=>[]
def waiP(R:Rt)(ids:List Int):List (Int×Int×Rs):=ids.flatMap (waiX R)
theorem waiP_snoc(R:Rt){ids:List Int}{n:Nat}{x:Int}(h:ids[n]?=some x):waiP R (ids.take (n+1))=waiP R (ids.take n)++waiX R x:=by
 unfold waiP
 rw[take_one h,List.flatMap_append]
 simp
theorem waiX_no{R:Rt}{x:Int}(h:∀e∈R.aq,(e.x==x)=false):waiX R x=[]:=by
 have:R.aq.findIdx? (fun e=>e.x==x)=none:=by
  rw[List.findIdx?_eq_none_iff];exact h
 unfold waiX
 rw[this]
theorem waiX_at{R:Rt}{x:Int}{n i:Nat}{q:Lk}{t:Tx}(hq:R.aq[n]?=some q)(hqx:q.x=x)(hqn:∀j b,j<n→R.aq[j]?=some b→(b.x==x)=false)(ht:R.tx[i]?=some t)(htx:t.x=x)(htn:∀j b,j<i→R.tx[j]?=some b→(b.x==x)=false) :
  waiX R x=if t.ws=[] then(inwP R n q).map (fun y=>(x,y,q.r))else []:=by
 have h1:R.aq.findIdx? (fun e=>e.x==x)=some n:=by
  rw[List.findIdx?_eq_some_iff_getElem]
  obtain⟨k1,k2⟩:=List.getElem?_eq_some_iff.1 hq
  refine⟨k1,by rw[k2];simp[hqx],fun j hj=>?_⟩
  rw[hqn j _ hj (List.getElem?_eq_getElem (by omega))]
  simp
 have h2:R.tx.find? (fun e=>e.x==x)=some t:=by
  rw[List.find?_eq_some_iff_getElem]
  obtain⟨k1,k2⟩:=List.getElem?_eq_some_iff.1 ht
  refine⟨by simp[htx],i,k1,k2,fun j hj=>?_⟩
  rw[htn j _ hj (List.getElem?_eq_getElem (by omega))]
  simp
 unfold waiX
 simp only[h1,h2,hq]
theorem waiP_len{R:Rt}{B:Nat}(hB:∀n q,R.aq[n]?=some q→(inwP R n q).length≤B):∀ids:List Int,(waiP R ids).length≤ids.length*B
 | []=>by simp[waiP]
 | x::ids=>by
  have h1:=waiP_len hB ids
  have h2:(waiX R x).length≤B:=by
   unfold waiX
   split
   ·exact Nat.zero_le _
   ·split
    ·rename_i q t hq ht
     split
     ·rw[List.length_map];exact hB _ _ hq
     ·exact Nat.zero_le _
    ·exact Nat.zero_le _
  show(waiX R x++waiP R ids).length≤_
  rw[List.length_append,List.length_cons,Nat.succ_mul]
  omega
theorem waits_r{w:World}{b:Nat}{R:Rt}{D:Nat→Prop}{vt vh va:Value}{tv:List (Tx×Value)}(h:RV w b R D vt vh va tv)(B:Nat)(hB:∀n q,R.aq[n]?=some q→(inwP R n q).length≤B)(hBm:R.tx.length*B<2000000000000)(hl:R.tx.length<400000000000∧R.hd.length<400000000000∧R.aq.length<400000000000):Calls prog 34 #[ptr b] w fun e w'=>∃v,e=.returned v∧w'.ownsRow w.heap.size 101 5 v (waiP R (livP R)).length (gc (waiP R (livP R)))∧G w w':=by
 have KL:=hide (live_r h hl.1)
 have hidl:(livP R).length≤R.tx.length:=by
  have:=putsP_len (R.tx.map Tx.x)
  rw[List.length_map] at this
  exact this
 have hidm:∀x∈livP R,∃e∈R.tx,(e.x==x)=true:=fun x hx=>by
  have:=(putsP_mem (R.tx.map Tx.x) x).1 hx
  obtain⟨e,he,e2⟩:=List.mem_map.1 this
  exact⟨e,he,by simp[e2]⟩
 obtain⟨ids,hids⟩:∃ids,ids=livP R:=⟨_,rfl⟩
 rw[←hids] at KL hidl hidm⊢
 have HBN:=hide hB;have HBM:=hide hBm
 have H:=hide h;have HLL:=hide hl;have HIL:=hide hidl;have HIM:=hide hidm
 clear h hl hids hidl hidm hB hBm
 go_enter func34,ntmps34
 go_wp2_with (first|(go_at_call 32;with_reducible refine(KL.out).mono ?_;rintro e w1 ⟨vi,rfl,o1,g1⟩;obtain⟨ia,ic,rfl⟩:=row_form o1)|fail)
 have HO1:=hide o1;have HG1:=hide g1
 clear o1 g1 KL
 go_loopw [3,5] (fun ov iv wr=>∃n:Nat,n≤ids.length∧iv=I (n:Int)∧wr.ownsRow w.heap.size 101 5 ov (waiP R (ids.take n)).length (gc (waiP R (ids.take n)))∧wr.ownsRow w.heap.size 3 1 (.slice ia ids.length ic) ids.length (ids.map fun z=>I z)∧G w wr) (fun _ iv _=>ids.length-(RowKit.intOf iv).toNat)
 case atStart=>exact⟨0,Nat.zero_le _,rfl,⟨rfl,.inl ⟨rfl,rfl⟩⟩,HO1.out,HG1.out⟩
 case round=>
  obtain⟨n,hn,rfl,how,hvr,hgw⟩:=hrel
  have hll:=HLL.out
  have hil:=HIL.out
  by_cases hlt:n<ids.length
  ·obtain⟨x,hx⟩:∃a,ids[n]?=some a:=⟨_,List.getElem?_eq_getElem hlt⟩
   obtain⟨ga,hga,k0⟩:=int_at hvr hx
   subst hga
   have hR:=H.out.G hgw
   have KQ:=hide (request_r hR x (by omega))
   obtain⟨te,hte,htx⟩:=HIM.out x (List.mem_of_getElem? hx)
   have hnI:(n:Int)<(ids.length:Int):=by omega
   have hn0:(0:Int)≤(n:Int):=by omega
   have hwn:wrap64 ((n:Int)+1)=(n:Int)+1:=by unfold wrap64;omega
   have hst:=waiP_snoc R hx
   have HWN:=hide hwn;have HLT:=hide hlt;have HGW:=hide hgw;have HOW:=hide how;have HVR:=hide hvr;have HX:=hide hx
   rcases idxI_cases (fun e:Lk=>e.x==x) R.aq with ⟨hq1,hq2⟩|⟨m,q,hq1,hq2,hq3,hq4⟩
   ·rw[hq1] at KQ
    rw[waiX_no hq2,List.append_nil] at hst
    have HST:=hide hst
    clear hn hlt hx hwn hll hil hgw how hvr hst hq1 hq2 hte htx hR te
    go_wp2_with (first|(go_at_call 60;with_reducible refine(KQ.out).mono ?_;rintro e w' ⟨rfl,rfl⟩)|fail)
    go_quiet (fail)
    generalize hV:World.drewN w' _=V
    have HGV:Hid (G w' V):=by rw[←hV];exact(G.refl w').drewN _
    clear hV k0
    go_wp2_with fail
    exact⟨⟨n+1,HLT.out,by rw[HWN.out];exact rl1 n,by rw[HST.out];exact own_G HOW.out HGV.out,own_G HVR.out HGV.out,HGW.out.trans HGV.out⟩,by rw[HWN.out];exact ms_end HLT.out⟩
   ·rw[hq1] at KQ
    rcases idxI_cases (fun e:Tx=>e.x==x) R.tx with ⟨-,ht2⟩|⟨i,t,ht1,ht2,ht3,ht4⟩
    ·rw[ht2 te hte] at htx;cases htx
    have hqx:q.x=x:=by simpa using hq3
    have htx2:t.x=x:=by simpa using ht3
    rw[waiX_at hq2 hqx hq4 ht2 htx2 ht4] at hst
    have KP:Hid (∀k,Calls prog 61 #[ptr b,I x] (wr.drewN k) fun e w'=>e=.returned (I (i:Int))∧w'=wr.drewN k):=fun k=>by
     have:=place_r (hR.G ((G.refl wr).drewN k)) x (by omega)
     rw[ht1] at this
     exact this
    obtain⟨ev,hev⟩:=hR.at ht2
    have hrw:wr.ownsRow 0 3 1 ev t.ws.length (t.ws.map fun z=>I z):=hR.rw_ _ (List.mem_of_getElem? hev)
    obtain⟨ta,tcap,rfl⟩:=row_form hR.rt
    obtain⟨gt,hgt,kc⟩:=row_cell tx_len hR.rt hev
    subst hgt
    obtain⟨wa,wc,rfl⟩:=row_form hrw
    have hi0:(0:Int)≤(i:Int):=by omega
    have hil2:=(List.getElem?_eq_some_iff.1 hev).1
    have hiI:(i:Int)<(tv.length:Int):=by omega
    have k2:wr.cell? ⟨gt,i*3+2,none⟩=some (.slice wa t.ws.length wc):=kc 2 (by omega)
    have hbc:=hR.blk.cell
    have hm0:¬((m:Int)<0):=by omega
    have hd0:decide ((m:Int)<0)=false:=by simp
    by_cases hws:t.ws=[]
    ·rw[if_pos hws] at hst
     have HST:=hide hst
     have hwl:t.ws.length=0:=by rw[hws];rfl
     rw[hwl] at k2
     have KI:Hid (∀U,G w U→Calls prog 62 #[ptr b,I (m:Int)] U fun e w'=>∃v,e=.returned v∧w'.ownsRow U.heap.size 3 1 v (inwP R m q).length ((inwP R m q).map fun z=>I z)∧G U w'):=fun U hU=>inWay_r (H.out.G hU) m q hq2 (by omega)
     have HQ2:=hide hq2
     clear hn hlt hx hwn hll hil hgw how hvr hst hq1 hq2 hq3 hq4 ht1 ht2 ht3 ht4 hte htx hR te hqx htx2 hev hrw kc hil2 hws hwl
     go_wp2_with (first|(go_at_call 60;with_reducible refine(KQ.out).mono ?_;rintro e w' ⟨rfl,rfl⟩)|fail)
     go_quiet (first|(go_at_call 61;with_reducible refine Calls.quiet_of_same (KP.out _)))
     generalize hV:World.drewN w' _=V
     have HGV:Hid (G w' V):=by rw[←hV];exact(G.refl w').drewN _
     clear hV k0 k2 hbc KP KQ
     have HGD:Hid (G w V):=HGW.out.trans HGV.out
     go_wp2_with (first|(go_at_call 62;with_reducible refine(KI.out _ HGD.out).mono ?_;rintro e w2 ⟨vw,rfl,o2,g2⟩;obtain⟨wya,wyc,rfl⟩:=row_form o2)|fail)
     obtain⟨way,hway⟩:∃way,way=inwP R m q:=⟨_,rfl⟩
     have hwl:way.length≤B:=by rw[hway];exact HBN.out m q HQ2.out
     rw[←hway] at o2 HST⊢
     have HW0:Hid (w2.ownsRow w.heap.size 3 1 (.slice wya way.length wyc) way.length (way.map fun z=>I z)∧way.length<2000000000000∧way.length≤B):=⟨own_lo o2 HGD.out.size,by
      have h1:=HBM.out
      have h2:=(List.getElem?_eq_some_iff.1 HX.out).1
      have h3:=HIL.out
      have h4:1*B≤R.tx.length*B:=Nat.mul_le_mul_right B (by omega)
      omega,hwl⟩
     have HV0:Hid (w2.ownsRow w.heap.size 3 1 (.slice (some ⟨ga,0,none⟩) ids.length ic) ids.length (ids.map fun z=>I z)):=own_G HVR.out (HGV.out.trans g2)
     have HU0:Hid (w2.ownsRow w.heap.size 101 5 u3 (waiP R (ids.take n)).length (gc (waiP R (ids.take n)))∧G w w2):=⟨own_G HOW.out (HGV.out.trans g2),HGD.out.trans g2⟩
     clear o2 g2 hway hwl KI HGD HGV HVR HOW HGW
     go_loopw [3,8] (fun ov iv wr=>∃j:Nat,j≤way.length∧iv=I (j:Int)∧wr.ownsRow w.heap.size 101 5 ov (waiP R (ids.take n)++(way.take j).map fun y=>(x,y,q.r)).length (gc (waiP R (ids.take n)++(way.take j).map fun y=>(x,y,q.r)))∧wr.ownsRow w.heap.size 3 1 (.slice (some ⟨ga,0,none⟩) ids.length ic) ids.length (ids.map fun z=>I z)∧wr.ownsRow w.heap.size 3 1 (.slice wya way.length wyc) way.length (way.map fun z=>I z)∧G w wr) (fun _ iv _=>way.length-(RowKit.intOf iv).toNat)
     case atStart=>exact⟨0,Nat.zero_le _,rfl,by rw[List.take_zero,List.map_nil,List.append_nil];exact HU0.out.1,HV0.out,HW0.out.1,HU0.out.2⟩
     case round=>
      obtain⟨j,hj,rfl,how,hvr,hwr,hgw⟩:=hrel
      by_cases hlj:j<way.length
      ·obtain⟨y,hy⟩:∃a,way[j]?=some a:=⟨_,List.getElem?_eq_getElem hlj⟩
       obtain⟨gw,hgw2,k1⟩:=int_at hwr hy
       subst hgw2
       obtain⟨gb,hgb,k0⟩:=int_at hvr HX.out
       have eg:ga=gb:=by simpa using hgb
       subst eg
       clear hgb
       have hjI:(j:Int)<(way.length:Int):=by omega
       have hj0:(0:Int)≤(j:Int):=by omega
       have hnI2:(n:Int)<(ids.length:Int):=by have:=HLT.out;omega
       have hwj:wrap64 ((j:Int)+1)=(j:Int)+1:=by have:=HW0.out.2.1;unfold wrap64;omega
       have hlen:(waiP R (ids.take n)++(way.take j).map fun y=>(x,y,q.r)).length<2199023255552:=by
        rw[List.length_append,List.length_map,List.length_take]
        have h1:=waiP_len HBN.out (ids.take n)
        rw[List.length_take] at h1
        have h2:=HBM.out
        have h3:=HIL.out
        have h4:min n ids.length*B≤R.tx.length*B:=Nat.mul_le_mul_right B (by omega)
        have h5:=HW0.out.2.1
        have h6:=HW0.out.2.2
        have h7:1*B≤R.tx.length*B:=Nat.mul_le_mul_right B (by have:=HLT.out;omega)
        have h8:(min n ids.length+1)*B≤R.tx.length*B:=Nat.mul_le_mul_right B (by have:=HLT.out;omega)
        rw[Nat.succ_mul] at h8
        omega
       have hstj:(way.take (j+1)).map (fun y=>(x,y,q.r))=(way.take j).map (fun y=>(x,y,q.r))++[(x,y,q.r)]:=by rw[take_one hy,List.map_append];rfl
       obtain⟨v9,w9,r1,r2,r3⟩:=app_gol wr.drew w.heap.size u3 _ (x,y,q.r) (own_G how (G.refl wr).drew) hlen hgw.size
       rw[List.append_assoc,←hstj] at r2
       have HR9:Hid ((Builtin.append_ #[52,52] 52 #[u3,.slice (some ⟨wr.heap.size,0,none⟩) 1 1]).run prog (wr.alloc (.cells #[I x,I y,I q.r.lv,.string q.r.lb,I q.r.id] 101)).drew=.ok v9 w9):=r1
       have hcg:Chg (fun k=>u3.ownBlock=some k) (wr.drew.alloc (.cells #[I x,I y,I q.r.lv,.string q.r.lb,I q.r.id] 101)) w9:=⟨r3.os,r3.tape,r3.output,r3.size,fun k hk hn=>r3.block k hk (fun e=>hn e.symm)⟩
       have HG9:Hid (G w w9):=grown_G ((hgw.drew).alloc _) r3 (fun k hk=>(World.ownsRow.lt how k hk).1)
       have HV9:Hid (w9.ownsRow w.heap.size 3 1 (.slice (some ⟨ga,0,none⟩) ids.length ic) ids.length (ids.map fun z=>I z)):=own_chg (own_G hvr (((G.refl wr).drew).alloc _)) hcg (fun b hb e=>own_apart how hvr (by decide) b e hb)
       have HY9:Hid (w9.ownsRow w.heap.size 3 1 (.slice (some ⟨gw,0,none⟩) way.length wyc) way.length (way.map fun z=>I z)):=own_chg (own_G hwr (((G.refl wr).drew).alloc _)) hcg (fun b hb e=>own_apart how hwr (by decide) b e hb)
       have HR2:=hide r2
       have hgl:ga<wr.heap.size:=own_lt hvr rfl
       have hgwl:gw<wr.heap.size:=own_lt hwr rfl
       have HSS:Hid (∀U,G wr U→(fun U=>G w U∧U.cell? ⟨ga,n,none⟩=some (I x)∧U.cell? ⟨gw,j,none⟩=some (I y)) U):=fun U hU=>⟨hgw.trans hU,(hU.cell hgl).trans k0,(hU.cell hgwl).trans k1⟩
       have HS9:Hid ((fun U=>G w U∧U.cell? ⟨ga,n,none⟩=some (I x)∧U.cell? ⟨gw,j,none⟩=some (I y)) w9):=⟨HG9.out,by
        obtain⟨gb,hgb,k9⟩:=int_at HV9.out HX.out
        have eg:ga=gb:=by simpa using hgb
        subst eg
        exact k9,by
        obtain⟨gb,hgb,k9⟩:=int_at HY9.out hy
        have eg:gw=gb:=by simpa using hgb
        subst eg
        exact k9⟩
       obtain⟨qa,qcap,hqf⟩:=row_form H.out.ra
       obtain⟨gq,hgq,-⟩:=row_cell lk_len (by rw[←hqf];exact H.out.ra) HQ2.out
       subst hgq
       have HCC:Hid (∀U,G w U→(∀o,U.cell? ⟨b,o,none⟩=[.slice (some ⟨gt,0,none⟩) tv.length tcap,vh,.slice (some ⟨gq,0,none⟩) R.aq.length qcap][o]?)∧U.cell? ⟨gq,m*6+1,none⟩=some (I q.r.lv)∧U.cell? ⟨gq,m*6+1+1,none⟩=some (.string q.r.lb)∧U.cell? ⟨gq,m*6+1+2,none⟩=some (I q.r.id)):=fun U hU=>by
        have hR:=H.out.G hU
        rw[hqf] at hR
        obtain⟨gb,hgb,kc⟩:=row_cell lk_len hR.ra HQ2.out
        have eg:gq=gb:=by simpa using hgb
        subst eg
        exact⟨hR.blk.cell,kc 1 (by omega),kc 2 (by omega),kc 3 (by omega)⟩
       have hmI:(m:Int)<(R.aq.length:Int):=by have:=(List.getElem?_eq_some_iff.1 HQ2.out).1;omega
       have hm00:(0:Int)≤(m:Int):=by omega
       have HWJ:=hide hwj;have HLJ:=hide hlj
       clear r1 r2 r3 hcg how hvr hwr hgw hlen hstj hy hwj hlj hj k0 k1 hgl hgwl hqf
       go_wp2_with fail
       refine wp_region_noPanic ?_
       refine wp_region_held_drew (S:=(fun U=>G w U∧U.cell? ⟨ga,n,none⟩=some (I x)∧U.cell? ⟨gw,j,none⟩=some (I y))) (by kernel_rfl) (HSS.out _ (G.refl wr).drew) (fun hHeld=>?_)
       refine wpAnyH_take (i:=0) (v:=?_) rfl (by kernel_rfl) (by kernel_rfl) (by kernel_rfl) (fun _ _ _ h=>h) (Or.inl ⟨by rfl,?_⟩) hHeld ?_
       rotate_left 1
       ·(intro w hSw;obtain⟨q0,q1,q2⟩:=hSw;obtain⟨q3,q4,q5,q6⟩:=HCC.out _ q0;go_simp;try with_reducible rfl)
       try simp only[Act.put,List.getElem_toArray,List.getElem_cons_zero,List.setIfInBounds_toArray,List.set_cons_zero,List.set_cons_succ]
       refine wpAnyH_take (i:=1) (v:=?_) rfl (by kernel_rfl) (by kernel_rfl) (by kernel_rfl) (fun _ _ _ h=>h) (Or.inl ⟨by rfl,?_⟩) hHeld ?_
       rotate_left 1
       ·(intro w hSw;obtain⟨q0,q1,q2⟩:=hSw;obtain⟨q3,q4,q5,q6⟩:=HCC.out _ q0;go_simp;try with_reducible rfl)
       try simp only[Act.put,List.getElem_toArray,List.getElem_cons_zero,List.getElem_cons_succ,List.setIfInBounds_toArray,List.set_cons_zero,List.set_cons_succ]
       refine wpAnyH_take (i:=2) (v:=?_) rfl (by kernel_rfl) (by kernel_rfl) (by kernel_rfl) (fun _ _ _ h=>h) (Or.inl ⟨by rfl,?_⟩) hHeld ?_
       rotate_left 1
       ·(intro w hSw;obtain⟨q0,q1,q2⟩:=hSw;obtain⟨q3,q4,q5,q6⟩:=HCC.out _ q0;go_simp;try with_reducible rfl)
       try simp only[Act.put,List.getElem_toArray,List.getElem_cons_zero,List.getElem_cons_succ,List.setIfInBounds_toArray,List.set_cons_zero,List.set_cons_succ]
       refine wpAnyH_take (i:=3) (v:=?_) rfl (by kernel_rfl) (by kernel_rfl) (by kernel_rfl) (fun _ _ _ h=>h) (Or.inl ⟨by rfl,?_⟩) hHeld ?_
       rotate_left 1
       ·(intro w hSw;obtain⟨q0,q1,q2⟩:=hSw;obtain⟨q3,q4,q5,q6⟩:=HCC.out _ q0;go_simp;try with_reducible rfl)
       try simp only[Act.put,List.getElem_toArray,List.getElem_cons_zero,List.getElem_cons_succ,List.setIfInBounds_toArray,List.set_cons_zero,List.set_cons_succ]
       refine wpAnyH_take (i:=4) (v:=?_) rfl (by kernel_rfl) (by kernel_rfl) (by kernel_rfl) (fun _ _ _ h=>h) (Or.inl ⟨by rfl,?_⟩) hHeld ?_
       rotate_left 1
       ·(intro w hSw;obtain⟨q0,q1,q2⟩:=hSw;obtain⟨q3,q4,q5,q6⟩:=HCC.out _ q0;go_simp;try with_reducible rfl)
       try simp only[Act.put,List.getElem_toArray,List.getElem_cons_zero,List.getElem_cons_succ,List.setIfInBounds_toArray,List.set_cons_zero,List.set_cons_succ]
       refine wpAnyH_take (i:=5) (v:=?_) rfl (by kernel_rfl) (by kernel_rfl) (by kernel_rfl) (fun _ _ _ h=>h) (Or.inl ⟨by rfl,?_⟩) hHeld ?_
       rotate_left 1
       ·(intro w hSw;obtain⟨q0,q1,q2⟩:=hSw;obtain⟨q3,q4,q5,q6⟩:=HCC.out _ q0;go_simp;try with_reducible rfl)
       try simp only[Act.put,List.getElem_toArray,List.getElem_cons_zero,List.getElem_cons_succ,List.setIfInBounds_toArray,List.set_cons_zero,List.set_cons_succ]
       refine wpAnyH_take (i:=6) (v:=?_) rfl (by kernel_rfl) (by kernel_rfl) (by kernel_rfl) (fun _ _ _ h=>h) (Or.inl ⟨by rfl,?_⟩) hHeld ?_
       rotate_left 1
       ·(intro w hSw;obtain⟨q0,q1,q2⟩:=hSw;obtain⟨q3,q4,q5,q6⟩:=HCC.out _ q0;go_simp;try with_reducible rfl)
       try simp only[Act.put,List.getElem_toArray,List.getElem_cons_zero,List.getElem_cons_succ,List.setIfInBounds_toArray,List.set_cons_zero,List.set_cons_succ]
       refine wpAnyH_take (i:=7) (v:=?_) rfl (by kernel_rfl) (by kernel_rfl) (by kernel_rfl) (fun _ _ _ h=>h) (Or.inl ⟨by rfl,?_⟩) hHeld ?_
       rotate_left 1
       ·(intro w hSw;obtain⟨q0,q1,q2⟩:=hSw;obtain⟨q3,q4,q5,q6⟩:=HCC.out _ q0;go_simp;try with_reducible rfl)
       try simp only[Act.put,List.getElem_toArray,List.getElem_cons_zero,List.getElem_cons_succ,List.setIfInBounds_toArray,List.set_cons_zero,List.set_cons_succ]
       refine wpAnyH_take (i:=8) (v:=?_) rfl (by kernel_rfl) (by kernel_rfl) (by kernel_rfl) (fun _ _ _ h=>h) (Or.inl ⟨by rfl,?_⟩) hHeld ?_
       rotate_left 1
       ·(intro w hSw;obtain⟨q0,q1,q2⟩:=hSw;obtain⟨q3,q4,q5,q6⟩:=HCC.out _ q0;go_simp;try with_reducible rfl)
       try simp only[Act.put,List.getElem_toArray,List.getElem_cons_zero,List.getElem_cons_succ,List.setIfInBounds_toArray,List.set_cons_zero,List.set_cons_succ]
       refine wpAnyH_take (i:=9) (v:=?_) rfl (by kernel_rfl) (by kernel_rfl) (by kernel_rfl) (fun _ _ _ h=>h) (Or.inl ⟨by rfl,?_⟩) hHeld ?_
       rotate_left 1
       ·(intro w hSw;obtain⟨q0,q1,q2⟩:=hSw;obtain⟨q3,q4,q5,q6⟩:=HCC.out _ q0;go_simp;try with_reducible rfl)
       try simp only[Act.put,List.getElem_toArray,List.getElem_cons_zero,List.getElem_cons_succ,List.setIfInBounds_toArray,List.set_cons_zero,List.set_cons_succ]
       refine wpAnyH_take (i:=10) (v:=?_) rfl (by kernel_rfl) (by kernel_rfl) (by kernel_rfl) (fun _ _ _ h=>h) (Or.inl ⟨by rfl,?_⟩) hHeld ?_
       rotate_left 1
       ·(intro w hSw;obtain⟨q0,q1,q2⟩:=hSw;obtain⟨q3,q4,q5,q6⟩:=HCC.out _ q0;go_simp;try with_reducible rfl)
       try simp only[Act.put,List.getElem_toArray,List.getElem_cons_zero,List.getElem_cons_succ,List.setIfInBounds_toArray,List.set_cons_zero,List.set_cons_succ]
       refine wpAnyH_take (i:=11) (v:=?_) rfl (by kernel_rfl) (by kernel_rfl) (by kernel_rfl) (fun _ _ _ h=>h) (Or.inl ⟨by rfl,?_⟩) hHeld ?_
       rotate_left 1
       ·(intro w hSw;obtain⟨q0,q1,q2⟩:=hSw;obtain⟨q3,q4,q5,q6⟩:=HCC.out _ q0;go_simp;try with_reducible rfl)
       try simp only[Act.put,List.getElem_toArray,List.getElem_cons_zero,List.getElem_cons_succ,List.setIfInBounds_toArray,List.set_cons_zero,List.set_cons_succ]
       refine wpAnyH_take (i:=12) (v:=?_) rfl (by kernel_rfl) (by kernel_rfl) (by kernel_rfl) (fun _ _ _ h=>h) (Or.inl ⟨by rfl,?_⟩) hHeld ?_
       rotate_left 1
       ·(intro w hSw;obtain⟨q0,q1,q2⟩:=hSw;obtain⟨q3,q4,q5,q6⟩:=HCC.out _ q0;go_simp;try with_reducible rfl)
       try simp only[Act.put,List.getElem_toArray,List.getElem_cons_zero,List.getElem_cons_succ,List.setIfInBounds_toArray,List.set_cons_zero,List.set_cons_succ]
       refine wpAnyH_take (i:=13) (v:=?_) rfl (by kernel_rfl) (by kernel_rfl) (by kernel_rfl) (fun _ _ _ h=>h) (Or.inl ⟨by rfl,?_⟩) hHeld ?_
       rotate_left 1
       ·(intro w hSw;obtain⟨q0,q1,q2⟩:=hSw;obtain⟨q3,q4,q5,q6⟩:=HCC.out _ q0;go_simp;try with_reducible rfl)
       try simp only[Act.put,List.getElem_toArray,List.getElem_cons_zero,List.getElem_cons_succ,List.setIfInBounds_toArray,List.set_cons_zero,List.set_cons_succ]
       refine wpAnyH_take (i:=14) (v:=?_) rfl (by kernel_rfl) (by kernel_rfl) (by kernel_rfl) (fun _ _ _ h=>h) (Or.inl ⟨by rfl,?_⟩) hHeld ?_
       rotate_left 1
       ·(intro w hSw;obtain⟨q0,q1,q2⟩:=hSw;obtain⟨q3,q4,q5,q6⟩:=HCC.out _ q0;go_simp;try with_reducible rfl)
       try simp only[Act.put,List.getElem_toArray,List.getElem_cons_zero,List.getElem_cons_succ,List.setIfInBounds_toArray,List.set_cons_zero,List.set_cons_succ]
       refine wpAnyH_take (i:=15) (v:=?_) rfl (by kernel_rfl) (by kernel_rfl) (by kernel_rfl) (fun _ _ _ h=>h) (Or.inl ⟨by rfl,?_⟩) hHeld ?_
       rotate_left 1
       ·(intro w hSw;obtain⟨q0,q1,q2⟩:=hSw;obtain⟨q3,q4,q5,q6⟩:=HCC.out _ q0;go_simp;try with_reducible rfl)
       try simp only[Act.put,List.getElem_toArray,List.getElem_cons_zero,List.getElem_cons_succ,List.setIfInBounds_toArray,List.set_cons_zero,List.set_cons_succ]
       refine wpAnyH_take (i:=16) (v:=?_) rfl (by kernel_rfl) (by kernel_rfl) (by kernel_rfl) (fun _ _ _ h=>h) (Or.inl ⟨by rfl,?_⟩) hHeld ?_
       rotate_left 1
       ·(intro w hSw;obtain⟨q0,q1,q2⟩:=hSw;obtain⟨q3,q4,q5,q6⟩:=HCC.out _ q0;go_simp;try with_reducible rfl)
       try simp only[Act.put,List.getElem_toArray,List.getElem_cons_zero,List.getElem_cons_succ,List.setIfInBounds_toArray,List.set_cons_zero,List.set_cons_succ]
       refine wpAnyH_take (i:=17) (v:=?_) rfl (by kernel_rfl) (by kernel_rfl) (by kernel_rfl) (fun _ _ _ h=>h) (Or.inl ⟨by rfl,?_⟩) hHeld ?_
       rotate_left 1
       ·(intro w hSw;obtain⟨q0,q1,q2⟩:=hSw;obtain⟨q3,q4,q5,q6⟩:=HCC.out _ q0;go_simp;try with_reducible rfl)
       try simp only[Act.put,List.getElem_toArray,List.getElem_cons_zero,List.getElem_cons_succ,List.setIfInBounds_toArray,List.set_cons_zero,List.set_cons_succ]
       refine wpAnyH_ready (rs:=[18]) (by kernel_rfl) (by simp) (AllReadyH.cons rfl (fun K hK=>?_) AllReadyH.nil)
       clear hHeld
       go_simp
       refine hK.out _ _ (HSS.out _ (((G.refl wr).alloc _).drew)) (fun hHeld=>?_)
       clear hK K
       try simp only[Act.put,List.getElem_toArray,List.getElem_cons_zero,List.getElem_cons_succ,List.setIfInBounds_toArray,List.set_cons_zero,List.set_cons_succ]
       refine wpAnyH_ready (rs:=[19]) (by kernel_rfl) (by simp) (AllReadyH.cons rfl (fun K hK=>?_) AllReadyH.nil)
       clear hHeld
       refine(if_pos rfl).mpr ?_
       refine wp_of_exec (exec_append _ _ 52 rfl u3 (.slice (some ⟨wr.heap.size,0,none⟩) 1 1) rfl rfl 52 rfl HR9.out) ?_
       refine hK.out _ _ (HS9.out) (fun hHeld=>?_)
       clear hK K
       try simp only[Act.put,List.getElem_toArray,List.getElem_cons_zero,List.getElem_cons_succ,List.setIfInBounds_toArray,List.set_cons_zero,List.set_cons_succ]
       refine wpAnyH_take (i:=20) (v:=?_) rfl (by kernel_rfl) (by kernel_rfl) (by kernel_rfl) (fun _ _ _ h=>h) (Or.inl ⟨by rfl,?_⟩) hHeld ?_
       rotate_left 1
       ·(intro w hSw;(try dsimp only at hSw);go_simp;try with_reducible rfl)
       try simp only[Act.put,List.getElem_toArray,List.getElem_cons_zero,List.getElem_cons_succ,List.setIfInBounds_toArray,List.set_cons_zero,List.set_cons_succ]
       refine wpAnyH_done (by kernel_rfl) ?_ _
       refine NoPanic.normal ?_
       go_wp2_with fail
       exact⟨⟨j+1,HLJ.out,by rw[HWJ.out];exact rl1 j,HR2.out,HV9.out,HY9.out,HG9.out⟩,by rw[HWJ.out];exact ms_end HLJ.out⟩
      ·have hne:j=way.length:=by omega
       subst hne
       have hjI:¬((way.length:Int)<(way.length:Int)):=by omega
       rw[List.take_length,←HST.out] at how
       have HGW:=hide hgw;have HOW:=hide how;have HVR:=hide hvr
       clear hj hlj how hvr hwr hgw
       go_wp2_with fail
       exact⟨⟨n+1,HLT.out,by rw[HWN.out];exact rl1 n,HOW.out,HVR.out,HGW.out⟩,by rw[HWN.out];exact ms_end HLT.out⟩
    ·rw[if_neg hws,List.append_nil] at hst
     have HST:=hide hst
     have hwl:(0:Int)<(t.ws.length:Int):=by
      have:=List.length_pos_iff.2 hws
      omega
     have hwl2:0<t.ws.length:=List.length_pos_iff.2 hws
     have hd1:decide (0<t.ws.length)=true:=by simp[hwl2]
     clear hn hlt hx hwn hll hil hgw how hvr hst hq1 hq2 hq3 hq4 ht1 ht2 ht3 ht4 hte htx hR te hqx htx2 hev hrw kc hil2 hws
     go_wp2_with (first|(go_at_call 60;with_reducible refine(KQ.out).mono ?_;rintro e w' ⟨rfl,rfl⟩)|fail)
     go_quiet (first|(go_at_call 61;with_reducible refine Calls.quiet_of_same (KP.out _)))
     generalize hV:World.drewN w' _=V
     have HGV:Hid (G w' V):=by rw[←hV];exact(G.refl w').drewN _
     clear hV k0 k2 hbc KP KQ
     go_wp2_with fail
     exact⟨⟨n+1,HLT.out,by rw[HWN.out];exact rl1 n,by rw[HST.out];exact own_G HOW.out HGV.out,own_G HVR.out HGV.out,HGW.out.trans HGV.out⟩,by rw[HWN.out];exact ms_end HLT.out⟩
  ·have hne:n=ids.length:=by omega
   have hnI:¬((n:Int)<(ids.length:Int)):=by omega
   rw[hne,List.take_length] at how
   have hnI2:¬((ids.length:Int)<(ids.length:Int)):=by omega
   subst hne
   have HGW:=hide hgw;have HOW:=hide how
   clear hn hlt hll hil hgw how hvr
   go_wp2_with fail
   go_ret
   exact⟨_,rfl,HOW.out,HGW.out⟩
end
end Go.Proofs.YtoefbpldmlebdaaGreatDoor
