import Derived.Test.YtadfaiciolfgjaaGreatDoorLr11
namespace Go.Proofs.YtadfaiciolfgjaaGreatDoor
open Go.Proofs.Tryz
set_option maxHeartbeats 1000000
set_option maxRecDepth 100000
section
open Go.RowKit
def queP(r:Rs)(l:List Lk):List (Int×Int):=(l.filter fun e=>decide (e.r=r)).map fun e=>(e.x,e.c)
theorem queP_snoc(r:Rs)(l:List Lk)(e:Lk):queP r (l++[e])=if e.r=r then queP r l++[(e.x,e.c)] else queP r l:=by
 unfold queP
 rw[List.filter_append,List.map_append]
 by_cases h:e.r=r
 ·rw[if_pos h];simp[h]
 ·rw[if_neg h];simp[h]
theorem queP_len(r:Rs)(l:List Lk):(queP r l).length≤l.length:=by
 unfold queP
 rw[List.length_map]
 exact List.length_filter_le _ _
theorem queue_r{w:World}{b:Nat}{R:Rt}{D:Nat→Prop}{vt vh va:Value}{tv:List (Tx×Value)}(h:RV w b R D vt vh va tv)(r:Rs)(hr:resB r=true)(hl:R.aq.length<400000000000):Calls prog 43 #[ptr b,.agg #[I r.lv,.string r.lb,I r.id]] w fun e w'=>∃v,e=.returned v∧w'.ownsRow w.heap.size 68 2 v (queP r R.aq).length (qc (queP r R.aq))∧G w w':=by
 obtain⟨ra,rcap,rfl⟩:=row_form h.ra
 have KR:=hide (res_r r (w.alloc (.cells #[I r.lv,.string r.lb,I r.id] 33)))
 rw[hr] at KR
 have hc:=(Blk.new w [I r.lv,.string r.lb,I r.id] 33).cell
 have H:=hide h;have HLL:=hide hl
 clear h hl hr
 obtain⟨rl,rb,ri⟩:=r
 simp only at KR hc⊢
 go_enter func43,ntmps43
 go_wp2_with (first|(go_at_call 23;with_reducible refine(KR.out).mono ?_;rintro e w' ⟨rfl,rfl⟩)|fail)
 clear hc KR
 obtain⟨w1,hw1⟩:∃w1,w1=(w.alloc (.cells #[I rl,.string rb,I ri] 33)).alloc (.cells #[I rl,.string rb,I ri] 33):=⟨_,rfl⟩
 rw[←hw1]
 have H1:Hid (Blk w1 w.heap.size 33 [I rl,.string rb,I ri]∧G w w1):=by rw[hw1];exact⟨(Blk.new w [I rl,.string rb,I ri] 33).G ((G.refl _).alloc _),((G.refl w).alloc _).alloc _⟩
 clear hw1
 go_loopw [5,6] (fun ov iv wr=>∃n:Nat,n≤R.aq.length∧iv=I (n:Int)∧wr.ownsRow w1.heap.size 68 2 ov (queP ⟨rl,rb,ri⟩ (R.aq.take n)).length (qc (queP ⟨rl,rb,ri⟩ (R.aq.take n)))∧G w1 wr) (fun _ iv _=>R.aq.length-(RowKit.intOf iv).toNat)
 case atStart=>exact⟨0,Nat.zero_le _,rfl,⟨rfl,.inl ⟨rfl,rfl⟩⟩,G.refl _⟩
 case round=>
  obtain⟨n,hn,rfl,how,hgw⟩:=hrel
  have hll:=HLL.out
  have hR:=H.out.G (H1.out.2.trans hgw)
  have hbc:=hR.blk.cell
  by_cases hlt:n<R.aq.length
  ·obtain⟨⟨ex,⟨el,eb,ei⟩,ec,eu⟩,he⟩:∃a,R.aq[n]?=some a:=⟨_,List.getElem?_eq_getElem hlt⟩
   obtain⟨ga,hga,kc⟩:=row_cell lk_len hR.ra he
   subst hga
   have q1:wr.cell? ⟨ga,n*6+1,none⟩=some (I el):=kc 1 (by omega)
   have q2:wr.cell? ⟨ga,n*6+1+1,none⟩=some (.string eb):=kc 2 (by omega)
   have q3:wr.cell? ⟨ga,n*6+1+2,none⟩=some (I ei):=kc 3 (by omega)
   have q4:=(H1.out.1.G hgw).cell
   have hnI:(n:Int)<(R.aq.length:Int):=by omega
   have hn0:(0:Int)≤(n:Int):=by omega
   have hwn:wrap64 ((n:Int)+1)=(n:Int)+1:=by unfold wrap64;omega
   have hst:=queP_snoc ⟨rl,rb,ri⟩ (R.aq.take n) ⟨ex,⟨el,eb,ei⟩,ec,eu⟩
   rw[←take_lk he] at hst
   have HWN:=hide hwn;have HLT:=hide hlt;have HGW:=hide hgw;have HOW:=hide how;have HE:=hide he
   clear hn hlt he hwn kc hll hgw hR how
   by_cases f1:el=rl
   ·subst f1
    by_cases f2:eb=rb
    ·subst f2
     by_cases f3:ei=ri
     ·subst f3
      have HST:=hide hst
      rw[if_pos rfl] at HST
      clear hst
      go_wp2_with fail
      go_quiet (fail)
      generalize hV:World.drewN wr _=V
      have HGV:Hid (G wr V):=by rw[←hV];exact(G.refl wr).drewN _
      clear hV hbc q1 q2 q3 q4
      have HCC:Hid (∀U,G w U→(∀o,U.cell? ⟨b,o,none⟩=[vt,vh,.slice (some ⟨ga,0,none⟩) R.aq.length rcap][o]?)∧U.cell? ⟨ga,n*6,none⟩=some (I ex)∧U.cell? ⟨ga,n*6+4,none⟩=some (I ec)):=fun U hU=>by
       have hR:=H.out.G hU
       obtain⟨gb,hgb,kc⟩:=row_cell lk_len hR.ra HE.out
       have eg:ga=gb:=by simpa using hgb
       subst eg
       exact⟨hR.blk.cell,kc 0 (by omega),kc 4 (by omega)⟩
      have HGD:Hid (G w V):=H1.out.2.trans (HGW.out.trans HGV.out)
      obtain⟨v9,w9,r1,r2,r3⟩:=app_held V.drew w1.heap.size u5 _ ex ec (own_G HOW.out (HGV.out.trans (G.refl V).drew)) (by have:=HLL.out;have h1:=queP_len ⟨el,eb,ei⟩ (R.aq.take n);rw[List.length_take] at h1;omega) (HGW.out.trans HGV.out).size
      have HR2:=hide r2
      have HG9:Hid (G w1 w9):=grown_G (((HGW.out.trans HGV.out).drew).alloc _) r3 (fun k hk=>(World.ownsRow.lt HOW.out k hk).1)
      have HR9:Hid ((Builtin.append_ #[91,91] 91 #[u5,.slice (some ⟨V.heap.size,0,none⟩) 1 1]).run prog (V.alloc (.cells #[I ex,I ec] 68)).drew=.ok v9 w9):=r1
      clear r2 r3 r1
      go_wp2_with fail
      refine wp_region_noPanic ?_
      refine wp_region_held_drew (S:=(fun U=>G w U)) (by kernel_rfl) (HGD.out.drew) (fun hHeld=>?_)
      refine wpAnyH_take (i:=0) (v:=?_) rfl (by kernel_rfl) (by kernel_rfl) (by kernel_rfl) (fun _ _ _ h=>h) (Or.inl ⟨by rfl,?_⟩) hHeld ?_
      rotate_left 1
      ·(intro w hSw;obtain⟨q1,q2,q3⟩:=HCC.out _ hSw;go_simp;try with_reducible rfl)
      try simp only[Act.put,zzA,zzB,zzD,zzE,zzF]
      refine wpAnyH_take (i:=1) (v:=?_) rfl (by kernel_rfl) (by kernel_rfl) (by kernel_rfl) (fun _ _ _ h=>h) (Or.inl ⟨by rfl,?_⟩) hHeld ?_
      rotate_left 1
      ·(intro w hSw;obtain⟨q1,q2,q3⟩:=HCC.out _ hSw;go_simp;try with_reducible rfl)
      try simp only[Act.put,zzA,zzB,zzC,zzD,zzE,zzF]
      refine wpAnyH_take (i:=2) (v:=?_) rfl (by kernel_rfl) (by kernel_rfl) (by kernel_rfl) (fun _ _ _ h=>h) (Or.inl ⟨by rfl,?_⟩) hHeld ?_
      rotate_left 1
      ·(intro w hSw;obtain⟨q1,q2,q3⟩:=HCC.out _ hSw;go_simp;try with_reducible rfl)
      try simp only[Act.put,zzA,zzB,zzC,zzD,zzE,zzF]
      refine wpAnyH_take (i:=3) (v:=?_) rfl (by kernel_rfl) (by kernel_rfl) (by kernel_rfl) (fun _ _ _ h=>h) (Or.inl ⟨by rfl,?_⟩) hHeld ?_
      rotate_left 1
      ·(intro w hSw;obtain⟨q1,q2,q3⟩:=HCC.out _ hSw;go_simp;try with_reducible rfl)
      try simp only[Act.put,zzA,zzB,zzC,zzD,zzE,zzF]
      refine wpAnyH_take (i:=4) (v:=?_) rfl (by kernel_rfl) (by kernel_rfl) (by kernel_rfl) (fun _ _ _ h=>h) (Or.inl ⟨by rfl,?_⟩) hHeld ?_
      rotate_left 1
      ·(intro w hSw;obtain⟨q1,q2,q3⟩:=HCC.out _ hSw;go_simp;try with_reducible rfl)
      try simp only[Act.put,zzA,zzB,zzC,zzD,zzE,zzF]
      refine wpAnyH_take (i:=5) (v:=?_) rfl (by kernel_rfl) (by kernel_rfl) (by kernel_rfl) (fun _ _ _ h=>h) (Or.inl ⟨by rfl,?_⟩) hHeld ?_
      rotate_left 1
      ·(intro w hSw;obtain⟨q1,q2,q3⟩:=HCC.out _ hSw;go_simp;try with_reducible rfl)
      try simp only[Act.put,zzA,zzB,zzC,zzD,zzE,zzF]
      refine wpAnyH_take (i:=6) (v:=?_) rfl (by kernel_rfl) (by kernel_rfl) (by kernel_rfl) (fun _ _ _ h=>h) (Or.inl ⟨by rfl,?_⟩) hHeld ?_
      rotate_left 1
      ·(intro w hSw;obtain⟨q1,q2,q3⟩:=HCC.out _ hSw;go_simp;try with_reducible rfl)
      try simp only[Act.put,zzA,zzB,zzC,zzD,zzE,zzF]
      refine wpAnyH_take (i:=7) (v:=?_) rfl (by kernel_rfl) (by kernel_rfl) (by kernel_rfl) (fun _ _ _ h=>h) (Or.inl ⟨by rfl,?_⟩) hHeld ?_
      rotate_left 1
      ·(intro w hSw;obtain⟨q1,q2,q3⟩:=HCC.out _ hSw;go_simp;try with_reducible rfl)
      try simp only[Act.put,zzA,zzB,zzC,zzD,zzE,zzF]
      refine wpAnyH_take (i:=8) (v:=?_) rfl (by kernel_rfl) (by kernel_rfl) (by kernel_rfl) (fun _ _ _ h=>h) (Or.inl ⟨by rfl,?_⟩) hHeld ?_
      rotate_left 1
      ·(intro w hSw;obtain⟨q1,q2,q3⟩:=HCC.out _ hSw;go_simp;try with_reducible rfl)
      try simp only[Act.put,zzA,zzB,zzC,zzD,zzE,zzF]
      refine wpAnyH_take (i:=9) (v:=?_) rfl (by kernel_rfl) (by kernel_rfl) (by kernel_rfl) (fun _ _ _ h=>h) (Or.inl ⟨by rfl,?_⟩) hHeld ?_
      rotate_left 1
      ·(intro w hSw;obtain⟨q1,q2,q3⟩:=HCC.out _ hSw;go_simp;try with_reducible rfl)
      try simp only[Act.put,zzA,zzB,zzC,zzD,zzE,zzF]
      refine wpAnyH_take (i:=10) (v:=?_) rfl (by kernel_rfl) (by kernel_rfl) (by kernel_rfl) (fun _ _ _ h=>h) (Or.inl ⟨by rfl,?_⟩) hHeld ?_
      rotate_left 1
      ·(intro w hSw;obtain⟨q1,q2,q3⟩:=HCC.out _ hSw;go_simp;try with_reducible rfl)
      try simp only[Act.put,zzA,zzB,zzC,zzD,zzE,zzF]
      refine wpAnyH_take (i:=11) (v:=?_) rfl (by kernel_rfl) (by kernel_rfl) (by kernel_rfl) (fun _ _ _ h=>h) (Or.inl ⟨by rfl,?_⟩) hHeld ?_
      rotate_left 1
      ·(intro w hSw;obtain⟨q1,q2,q3⟩:=HCC.out _ hSw;go_simp;try with_reducible rfl)
      try simp only[Act.put,zzA,zzB,zzC,zzD,zzE,zzF]
      refine wpAnyH_take (i:=12) (v:=?_) rfl (by kernel_rfl) (by kernel_rfl) (by kernel_rfl) (fun _ _ _ h=>h) (Or.inl ⟨by rfl,?_⟩) hHeld ?_
      rotate_left 1
      ·(intro w hSw;obtain⟨q1,q2,q3⟩:=HCC.out _ hSw;go_simp;try with_reducible rfl)
      try simp only[Act.put,zzA,zzB,zzC,zzD,zzE,zzF]
      refine wpAnyH_take (i:=13) (v:=?_) rfl (by kernel_rfl) (by kernel_rfl) (by kernel_rfl) (fun _ _ _ h=>h) (Or.inl ⟨by rfl,?_⟩) hHeld ?_
      rotate_left 1
      ·(intro w hSw;obtain⟨q1,q2,q3⟩:=HCC.out _ hSw;go_simp;try with_reducible rfl)
      try simp only[Act.put,zzA,zzB,zzC,zzD,zzE,zzF]
      refine wpAnyH_take (i:=14) (v:=?_) rfl (by kernel_rfl) (by kernel_rfl) (by kernel_rfl) (fun _ _ _ h=>h) (Or.inl ⟨by rfl,?_⟩) hHeld ?_
      rotate_left 1
      ·(intro w hSw;obtain⟨q1,q2,q3⟩:=HCC.out _ hSw;go_simp;try with_reducible rfl)
      try simp only[Act.put,zzA,zzB,zzC,zzD,zzE,zzF]
      refine wpAnyH_take (i:=15) (v:=?_) rfl (by kernel_rfl) (by kernel_rfl) (by kernel_rfl) (fun _ _ _ h=>h) (Or.inl ⟨by rfl,?_⟩) hHeld ?_
      rotate_left 1
      ·(intro w hSw;obtain⟨q1,q2,q3⟩:=HCC.out _ hSw;go_simp;try with_reducible rfl)
      try simp only[Act.put,zzA,zzB,zzC,zzD,zzE,zzF]
      refine wpAnyH_take (i:=16) (v:=?_) rfl (by kernel_rfl) (by kernel_rfl) (by kernel_rfl) (fun _ _ _ h=>h) (Or.inl ⟨by rfl,?_⟩) hHeld ?_
      rotate_left 1
      ·(intro w hSw;obtain⟨q1,q2,q3⟩:=HCC.out _ hSw;go_simp;try with_reducible rfl)
      try simp only[Act.put,zzA,zzB,zzC,zzD,zzE,zzF]
      refine wpAnyH_take (i:=17) (v:=?_) rfl (by kernel_rfl) (by kernel_rfl) (by kernel_rfl) (fun _ _ _ h=>h) (Or.inl ⟨by rfl,?_⟩) hHeld ?_
      rotate_left 1
      ·(intro w hSw;obtain⟨q1,q2,q3⟩:=HCC.out _ hSw;go_simp;try with_reducible rfl)
      try simp only[Act.put,zzA,zzB,zzC,zzD,zzE,zzF]
      refine wpAnyH_ready (rs:=[18]) (by kernel_rfl) (by simp) (AllReadyH.cons rfl (fun K hK=>?_) AllReadyH.nil)
      clear hHeld
      go_simp
      refine hK.out _ _ (((HGD.out).alloc _).drew) (fun hHeld=>?_)
      clear hK K
      try simp only[Act.put,zzA,zzB,zzC,zzD,zzE,zzF]
      refine wpAnyH_ready (rs:=[19]) (by kernel_rfl) (by simp) (AllReadyH.cons rfl (fun K hK=>?_) AllReadyH.nil)
      clear hHeld
      refine(if_pos rfl).mpr ?_
      refine wp_of_exec (exec_append _ _ 91 rfl u5 (.slice (some ⟨V.heap.size,0,none⟩) 1 1) rfl rfl 91 rfl HR9.out) ?_
      refine hK.out _ _ (H1.out.2.trans HG9.out) (fun hHeld=>?_)
      clear hK K
      try simp only[Act.put,zzA,zzB,zzC,zzD,zzE,zzF]
      refine wpAnyH_take (i:=20) (v:=?_) rfl (by kernel_rfl) (by kernel_rfl) (by kernel_rfl) (fun _ _ _ h=>h) (Or.inl ⟨by rfl,?_⟩) hHeld ?_
      rotate_left 1
      ·(intro w hSw;(try dsimp only at hSw);go_simp;try with_reducible rfl)
      try simp only[Act.put,zzA,zzB,zzC,zzD,zzE,zzF]
      refine wpAnyH_done (by kernel_rfl) ?_ _
      refine NoPanic.normal ?_
      go_wp2_with fail
      exact⟨⟨n+1,HLT.out,by rw[HWN.out];exact rl1 n,by rw[HST.out];exact HR2.out,HG9.out⟩,by rw[HWN.out];exact ms_end HLT.out⟩
     ·have d4:(ei==ri)=false:=by simp[f3]
      have d5:decide (ei=ri)=false:=by simp[f3]
      have HST:=hide hst
      rw[if_neg (by simp[f3])] at HST
      clear hst
      go_wp2_with fail
      go_quiet (fail)
      generalize hV:World.drewN wr _=V
      have HGV:Hid (G wr V):=by rw[←hV];exact(G.refl wr).drewN _
      clear hV hbc q1 q2 q3 q4
      go_wp2_with fail
      exact⟨⟨n+1,HLT.out,by rw[HWN.out];exact rl1 n,by rw[HST.out];exact own_G HOW.out HGV.out,HGW.out.trans HGV.out⟩,by rw[HWN.out];exact ms_end HLT.out⟩
    ·have d4:¬eb.toList=rb.toList:=fun q=>f2 (toList_inj q)
     have HST:=hide hst
     rw[if_neg (by simp[f2])] at HST
     clear hst
     go_wp2_with fail
     go_quiet (fail)
     generalize hV:World.drewN wr _=V
     have HGV:Hid (G wr V):=by rw[←hV];exact(G.refl wr).drewN _
     clear hV hbc q1 q2 q3 q4
     go_wp2_with fail
     exact⟨⟨n+1,HLT.out,by rw[HWN.out];exact rl1 n,by rw[HST.out];exact own_G HOW.out HGV.out,HGW.out.trans HGV.out⟩,by rw[HWN.out];exact ms_end HLT.out⟩
   ·have d4:(el==rl)=false:=by simp[f1]
    have d5:decide (el=rl)=false:=by simp[f1]
    have HST:=hide hst
    rw[if_neg (by simp[f1])] at HST
    clear hst
    go_wp2_with fail
    go_quiet (fail)
    generalize hV:World.drewN wr _=V
    have HGV:Hid (G wr V):=by rw[←hV];exact(G.refl wr).drewN _
    clear hV hbc q1 q2 q3 q4
    go_wp2_with fail
    exact⟨⟨n+1,HLT.out,by rw[HWN.out];exact rl1 n,by rw[HST.out];exact own_G HOW.out HGV.out,HGW.out.trans HGV.out⟩,by rw[HWN.out];exact ms_end HLT.out⟩
  ·have hne:n=R.aq.length:=by omega
   subst hne
   have hnI:¬((R.aq.length:Int)<(R.aq.length:Int)):=by omega
   rw[List.take_length] at how
   have HGW:=hide hgw;have HOW:=hide how
   clear hn hlt hll hgw hR how
   go_wp2_with fail
   go_ret
   exact⟨_,rfl,own_lo HOW.out H1.out.2.size,H1.out.2.trans HGW.out⟩
end
section
open Go.RowKit
structure HQ(hd aq:List Lk)(hl:Rs→Int→Int)(qs:Rs→List (Int×Int)):Prop where
 hn:(hd.map fun e=>(e.x,e.r)).Nodup
 h1:∀e∈hd,e.c=hl e.r e.x∧e.c≠0
 h2:∀r x,hl r x≠0→∃e∈hd,e.r=r∧e.x=x
 qa:∀r,queP r aq=qs r
 up:∀e∈aq,e.up=decide (hl e.r e.x≠0)
theorem queP_app(r:Rs)(a b:List Lk):queP r (a++b)=queP r a++queP r b:=by
 unfold queP
 rw[List.filter_append,List.map_append]
theorem queP_cons(r:Rs)(e:Lk)(l:List Lk):queP r (e::l)=if e.r=r then(e.x,e.c)::queP r l else queP r l:=by
 unfold queP
 by_cases h:e.r=r
 ·rw[if_pos h,List.filter_cons_of_pos (by simp[h])];rfl
 ·rw[if_neg h,List.filter_cons_of_neg (by simp[h])]
theorem queP_mem{r:Rs}{l:List Lk}{x c:Int}:(x,c)∈queP r l↔∃e∈l,e.r=r∧e.x=x∧e.c=c:=by
 unfold queP
 rw[List.mem_map]
 constructor
 ·rintro⟨e,he,h⟩
  obtain⟨h1,h2⟩:=List.mem_filter.1 he
  cases h
  exact⟨e,h1,by simpa using h2,rfl,rfl⟩
 ·rintro⟨e,he,h1,h2,h3⟩
  exact⟨e,List.mem_filter.2 ⟨he,by simpa using h1⟩,by rw[h2,h3]⟩
theorem lk_split{l:List Lk}{n:Nat}{q:Lk}(h:l[n]?=some q):l=l.take n++q::l.drop (n+1):=by
 obtain⟨h1,h2⟩:=List.getElem?_eq_some_iff.1 h
 rw[←h2,←List.drop_eq_getElem_cons h1,List.take_append_drop]
theorem que_split{l:List Lk}{n:Nat}{q:Lk}(h:l[n]?=some q):queP q.r l=queP q.r (l.take n)++(q.x,q.c)::queP q.r (l.drop (n+1)):=by
 have e:=congrArg (queP q.r) (lk_split h)
 rw[queP_app,queP_cons,if_pos rfl] at e
 exact e
theorem que_at{l:List Lk}{n:Nat}{q:Lk}(h:l[n]?=some q):(queP q.r l)[(queP q.r (l.take n)).length]?=some (q.x,q.c):=by
 rw[que_split h,List.getElem?_append_right (Nat.le_refl _),Nat.sub_self];rfl
section
variable {hd aq:List Lk} {hl:Rs→Int→Int} {qs:Rs→List (Int×Int)}
theorem HQ.hb(h:HQ hd aq hl qs)(x:Int)(r:Rs):hbI x r hd=hl r x:=by
 unfold hbI
 cases hf:hd.find? (fun e=>decide (e.x=x∧e.r=r))with
 | none=>
  rw[List.find?_eq_none] at hf
  by_cases e:hl r x=0
  ·exact e.symm
  ·obtain⟨a,ha,h3,h4⟩:=h.h2 r x e
   exact absurd (by simp[h3,h4]) (hf a ha)
 | some a=>
  have h1:=List.find?_some hf
  have h2:=List.mem_of_find?_eq_some hf
  have h3:a.x=x∧a.r=r:=by simpa using h1
  obtain⟨h4,-⟩:=h.h1 a h2
  show a.c=hl r x
  rw[h4,h3.1,h3.2]
theorem HQ.at(h:HQ hd aq hl qs){n:Nat}{q:Lk}(hq:aq[n]?=some q):(qs q.r)[(queP q.r (aq.take n)).length]?=some (q.x,q.c):=by
 rw[←h.qa];exact que_at hq
theorem HQ.way(h:HQ hd aq hl qs)(tx:List Tx){n:Nat}{q:Lk}(hq:aq[n]?=some q)(hn:((qs q.r).map Prod.fst).Nodup)(y:Int) :
  y∈inwP ⟨tx,hd,aq⟩ n q↔inW (hl q.r) (qs q.r) q.x q.c (queP q.r (aq.take n)).length y:=by
 have hat:=h.at hq
 have hsp:=que_split hq
 rw[h.qa] at hsp
 unfold inwP
 rw[wayP_mem,wayP_mem]
 unfold inW
 refine or_congr ?_ ?_
 ·constructor
  ·rintro(h0|⟨e,he,hb,rfl⟩)
   ·cases h0
   ·obtain⟨h3,h4⟩:=h.h1 e he
    simp[iwB] at hb
    obtain⟨b1,b2,b3⟩:=hb
    rw[b2] at h3
    exact⟨by rw[←h3];exact h4,b1,by rw[←h3];exact b3⟩
  ·rintro⟨h1,h2,h3⟩
   obtain⟨e,he,e1,e2⟩:=h.h2 _ _ h1
   obtain⟨h4,-⟩:=h.h1 e he
   rw[e1,e2] at h4
   exact .inr ⟨e,he,by simp[iwB,e2,h2,e1,h4,h3],e2⟩
 ·constructor
  ·rintro⟨e,he,hb,rfl⟩
   simp[iwB] at hb
   obtain⟨b1,b2,b3⟩:=hb
   have hm:(e.x,e.c)∈queP q.r (aq.take n):=queP_mem.2 ⟨e,he,b2,rfl,rfl⟩
   obtain⟨j,hj⟩:=List.mem_iff_getElem?.1 hm
   have hjl:=(List.getElem?_eq_some_iff.1 hj).1
   exact⟨j,e.c,hjl,by rw[hsp,List.getElem?_append_left hjl];exact hj,b3⟩
  ·rintro⟨j,g,hjl,hj,hf⟩
   have hj2:=hj
   rw[hsp,List.getElem?_append_left hjl] at hj2
   obtain⟨e,he,e1,e2,e3⟩:=queP_mem.1 (List.mem_of_getElem? hj2)
   refine⟨e,he,?_,e2⟩
   have hne:y≠q.x:=fun ey=>by
    subst ey
    have:=nodup_at hn hj hat
    omega
   simp[iwB,e1,e2,e3,hne,hf]
def entN(q:Lk)(l:List Lk):Nat:=if q.up then l.findIdx (fun e:Lk=>decide (e.r=q.r)&&!e.up)else l.length
def entP(q:Lk)(l:List Lk):List Lk:=l.take (entN q l)++q::l.drop (entN q l)
theorem entN_le(q:Lk)(l:List Lk):entN q l≤l.length:=by
 unfold entN
 split
 ·exact List.findIdx_le_length
 ·exact Nat.le_refl _
theorem ent_at(q:Lk)(l:List Lk):(entP q l)[entN q l]?=some q:=by
 unfold entP
 have h:=entN_le q l
 rw[List.getElem?_append_right (by rw[List.length_take];omega),List.length_take,Nat.min_eq_left h,Nat.sub_self];rfl
theorem ent_take(q:Lk)(l:List Lk):(entP q l).take (entN q l)=l.take (entN q l):=by
 unfold entP
 have h:=entN_le q l
 rw[List.take_append_of_le_length (by rw[List.length_take];omega),List.take_take,Nat.min_self]
theorem ent_drop(q:Lk)(l:List Lk):(entP q l).drop (entN q l+1)=l.drop (entN q l):=by
 unfold entP
 have h:=entN_le q l
 rw[List.drop_append,List.length_take,Nat.min_eq_left h,show entN q l+1-entN q l=1 by omega,List.drop_of_length_le (by rw[List.length_take];omega)]
 rfl
theorem HQ.entN(h:HQ hd aq hl qs){q:Lk}(hu:q.up=decide (hl q.r q.x≠0)):(queP q.r (aq.take (entN q aq))).length=if hl q.r q.x=0 then(qs q.r).length else upN (hl q.r) (qs q.r):=by
 have hsp:qs q.r=queP q.r (aq.take (Go.Proofs.YtadfaiciolfgjaaGreatDoor.entN q aq))++queP q.r (aq.drop (Go.Proofs.YtadfaiciolfgjaaGreatDoor.entN q aq)):=by rw[←queP_app,List.take_append_drop,h.qa]
 by_cases e:hl q.r q.x=0
 ·rw[if_pos e]
  have hf:q.up=false:=by rw[hu];simp[e]
  unfold Go.Proofs.YtadfaiciolfgjaaGreatDoor.entN
  rw[hf,if_neg (by simp),List.take_length,h.qa]
 ·rw[if_neg e]
  have hf:q.up=true:=by rw[hu];simp[e]
  have hk:Go.Proofs.YtadfaiciolfgjaaGreatDoor.entN q aq=aq.findIdx (fun e:Lk=>decide (e.r=q.r)&&!e.up):=by
   unfold Go.Proofs.YtadfaiciolfgjaaGreatDoor.entN
   rw[hf,if_pos rfl]
  refine(upN_eq (hl q.r) (qs q.r) _ (by rw[hsp,List.length_append];omega) (fun j o hj ho=>?_) (fun o ho=>?_)).symm
  ·rw[hsp,List.getElem?_append_left hj] at ho
   obtain⟨a,ha,e1,e2,e3⟩:=queP_mem.1 (List.mem_of_getElem? ho)
   obtain⟨i,hi⟩:=List.mem_iff_getElem?.1 ha
   rw[List.getElem?_take] at hi
   by_cases hik:i<Go.Proofs.YtadfaiciolfgjaaGreatDoor.entN q aq
   ·rw[if_pos hik] at hi
    obtain⟨h1,h2⟩:=List.getElem?_eq_some_iff.1 hi
    have h3:=List.not_of_lt_findIdx (p:=fun e:Lk=>decide (e.r=q.r)&&!e.up) (by rw[←hk];exact hik)
    rw[h2] at h3
    have h4:a.up=true:=by simpa [e1] using h3
    have h5:=h.up a (List.mem_of_getElem? hi)
    rw[h4,e1,e2] at h5
    simpa using h5.symm
   ·rw[if_neg hik] at hi;cases hi
  ·rw[hsp,List.getElem?_append_right (Nat.le_refl _),Nat.sub_self] at ho
   by_cases hlt:Go.Proofs.YtadfaiciolfgjaaGreatDoor.entN q aq<aq.length
   ·rw[List.drop_eq_getElem_cons hlt,queP_cons] at ho
    have hlt2:=hlt
    rw[hk] at hlt2
    have h3:=List.findIdx_getElem (p:=fun e:Lk=>decide (e.r=q.r)&&!e.up) (w:=hlt2)
    have h4:aq[aq.findIdx (fun e:Lk=>decide (e.r=q.r)&&!e.up)]=aq[Go.Proofs.YtadfaiciolfgjaaGreatDoor.entN q aq]:=by simp only[hk]
    rw[h4] at h3
    obtain⟨h5,h6⟩:(aq[Go.Proofs.YtadfaiciolfgjaaGreatDoor.entN q aq]).r=q.r∧(aq[Go.Proofs.YtadfaiciolfgjaaGreatDoor.entN q aq]).up=false:=by simpa using h3
    rw[if_pos h5] at ho
    have ho:((aq[Go.Proofs.YtadfaiciolfgjaaGreatDoor.entN q aq]).x,(aq[Go.Proofs.YtadfaiciolfgjaaGreatDoor.entN q aq]).c)=o:=by simpa using ho
    have h7:=h.up _ (List.getElem_mem hlt)
    rw[h6,h5] at h7
    rw[←ho]
    simpa using h7.symm
   ·rw[List.drop_of_length_le (by omega)] at ho
    cases ho
theorem HQ.ent(h:HQ hd aq hl qs){q:Lk}(hu:q.up=decide (hl q.r q.x≠0)){a:Nat}(ha:a=(queP q.r (aq.take (Go.Proofs.YtadfaiciolfgjaaGreatDoor.entN q aq))).length):HQ hd (entP q aq) hl (upd qs q.r (putQ (qs q.r) a q.x q.c)):=by
 refine⟨h.hn,h.h1,h.h2,fun r=>?_,fun e he=>?_⟩
 ·unfold entP
  rw[queP_app,queP_cons]
  have hsp:qs r=queP r (aq.take (Go.Proofs.YtadfaiciolfgjaaGreatDoor.entN q aq))++queP r (aq.drop (Go.Proofs.YtadfaiciolfgjaaGreatDoor.entN q aq)):=by rw[←queP_app,List.take_append_drop,h.qa]
  by_cases e:r=q.r
  ·subst e
   rw[if_pos rfl,upd_same,hsp,ha]
   unfold putQ
   rw[List.take_left,List.drop_left]
  ·rw[if_neg (fun h=>e h.symm),upd_other e,hsp]
 ·unfold entP at he
  rcases List.mem_append.1 he with he|he
  ·exact h.up e (List.mem_of_mem_take he)
  ·rcases List.mem_cons.1 he with rfl|he
   ·exact hu
   ·exact h.up e (List.mem_of_mem_drop he)
def cutP(n:Nat)(l:List Lk):List Lk:=l.take n++l.drop (n+1)
theorem cutP_ent(q:Lk)(l:List Lk):cutP (Go.Proofs.YtadfaiciolfgjaaGreatDoor.entN q l) (entP q l)=l:=by
 unfold cutP
 rw[ent_take,ent_drop,List.take_append_drop]
theorem cutP_mem{n:Nat}{l:List Lk}{e:Lk}(h:e∈cutP n l):e∈l:=by
 unfold cutP at h
 rcases List.mem_append.1 h with h|h
 ·exact List.mem_of_mem_take h
 ·exact List.mem_of_mem_drop h
theorem drop_mid{α:Type}(A:List α)(y:α)(B:List α):(A++y::B).drop (A.length+1)=B:=by
 induction A with
 | nil=>rfl
 | cons a A ih=>simp
theorem que_cut{l:List Lk}{n:Nat}{q:Lk}(h:l[n]?=some q)(r:Rs):queP r (cutP n l)=if r=q.r then cutQ (queP r l) (queP r (l.take n)).length else queP r l:=by
 unfold cutP
 rw[queP_app]
 by_cases e:r=q.r
 ·subst e
  rw[if_pos rfl,que_split h]
  unfold cutQ
  rw[List.take_left,drop_mid]
 ·rw[if_neg e]
  have:=congrArg (queP r) (lk_split h)
  rw[queP_app,queP_cons,if_neg (fun h=>e h.symm)] at this
  exact this.symm
theorem HQ.cut(h:HQ hd aq hl qs){n:Nat}{q:Lk}(hq:aq[n]?=some q):HQ hd (cutP n aq) hl (upd qs q.r (cutQ (qs q.r) (queP q.r (aq.take n)).length)):=by
 refine⟨h.hn,h.h1,h.h2,fun r=>?_,fun e he=>h.up e (cutP_mem he)⟩
 rw[que_cut hq]
 by_cases e:r=q.r
 ·subst e
  rw[if_pos rfl,upd_same,h.qa]
 ·rw[if_neg e,upd_other e,h.qa]
def holP(x:Int)(r:Rs)(c:Int)(l:List Lk):List Lk:=match l.findIdx? (fun e=>decide (e.x=x∧e.r=r))with
 | some i=>l.modify i (fun e=>{e with c:=c})
 | none=>l++[⟨x,r,c,false⟩]
theorem HQ.hold(h:HQ hd aq hl qs){x:Int}{r:Rs}{c:Int}(hc:c≠0)(hq:∀g,(x,g)∉qs r){hl':Rs→Int→Int}(e1:hl' r x=c)(e2:∀r' y,¬(y=x∧r'=r)→hl' r' y=hl r' y):HQ (holP x r c hd) aq hl' qs:=by
 have hup:∀e∈aq,e.up=decide (hl' e.r e.x≠0):=fun e he=>by
  have hne:¬(e.x=x∧e.r=r):=fun hh=>hq e.c (by rw[←h.qa];exact queP_mem.2 ⟨e,he,hh.2,hh.1,rfl⟩)
  rw[e2 _ _ hne]
  exact h.up e he
 unfold holP
 cases hf:hd.findIdx? (fun e=>decide (e.x=x∧e.r=r))with
 | none=>
  rw[List.findIdx?_eq_none_iff] at hf
  have hno:∀e∈hd,¬(e.x=x∧e.r=r):=fun e he=>by simpa using hf e he
  refine⟨?_,fun e he=>?_,fun r' y hy=>?_,h.qa,hup⟩
  ·rw[List.map_append,List.nodup_append]
   refine⟨h.hn,by simp,fun a ha b hb e=>?_⟩
   simp at hb
   obtain⟨o,ho,rfl⟩:=List.mem_map.1 ha
   rw[←e] at hb
   simp only[Prod.mk.injEq] at hb
   exact hno o ho hb
  ·rcases List.mem_append.1 he with he|he
   ·obtain⟨h3,h4⟩:=h.h1 e he
    exact⟨by rw[e2 _ _ (hno e he)];exact h3,h4⟩
   ·simp at he
    subst he
    exact⟨e1.symm,hc⟩
  ·by_cases e:y=x∧r'=r
   ·exact⟨_,List.mem_append_right _ (List.mem_singleton.2 rfl),e.2.symm,e.1.symm⟩
   ·rw[e2 _ _ e] at hy
    obtain⟨o,ho,h3⟩:=h.h2 r' y hy
    exact⟨o,List.mem_append_left _ ho,h3⟩
 | some i=>
  obtain⟨hi,hi2,-⟩:=List.findIdx?_eq_some_iff_getElem.1 hf
  have hk:(hd[i]).x=x∧(hd[i]).r=r:=by simpa using hi2
  have hmap:(hd.modify i (fun e=>{e with c:=c})).map (fun e=>(e.x,e.r))=hd.map (fun e=>(e.x,e.r)):=by
   apply List.ext_getElem?
   intro j
   rw[List.getElem?_map,List.getElem?_map,List.getElem?_modify]
   cases hd[j]? with
   | none=>rfl
   | some o=>by_cases hij:i=j<;>simp[hij]
  have hmem:∀e∈hd.modify i (fun e=>{e with c:=c}),∃j o,hd[j]?=some o∧((i=j∧e={o with c:=c})∨(i≠j∧e=o)):=fun e he=>by
   obtain⟨j,hj⟩:=List.mem_iff_getElem?.1 he
   rw[List.getElem?_modify] at hj
   cases ho:hd[j]? with
   | none=>rw[ho] at hj;cases hj
   | some o=>
    rw[ho] at hj
    have hj:(if i=j then {o with c:=c} else o)=e:=by simpa using hj
    refine⟨j,o,ho,?_⟩
    by_cases hij:i=j
    ·left;rw[if_pos hij] at hj;exact⟨hij,hj.symm⟩
    ·right;rw[if_neg hij] at hj;exact⟨hij,hj.symm⟩
  refine⟨by rw[hmap];exact h.hn,fun e he=>?_,fun r' y hy=>?_,h.qa,hup⟩
  ·obtain⟨j,o,ho,⟨rfl,rfl⟩|⟨hij,rfl⟩⟩:=hmem e he
   ·have eo:hd[i]=o:=by
     have:=List.getElem?_eq_getElem hi
     rw[ho] at this
     exact(Option.some.inj this).symm
    rw[eo] at hk
    refine⟨?_,hc⟩
    show c=hl' o.r o.x
    rw[hk.1,hk.2,e1]
   ·have hne:¬(e.x=x∧e.r=r):=fun hh=>by
     have q1:(hd.map fun e=>(e.x,e.r))[i]?=some (x,r):=by rw[List.getElem?_map,List.getElem?_eq_getElem hi];simp[hk]
     have q2:(hd.map fun e=>(e.x,e.r))[j]?=some (x,r):=by rw[List.getElem?_map,ho];simp[hh]
     obtain⟨l1,k1⟩:=List.getElem?_eq_some_iff.1 q1
     obtain⟨l2,k2⟩:=List.getElem?_eq_some_iff.1 q2
     exact hij ((List.getElem_inj (h₀:=l1) (h₁:=l2) h.hn).1 (k1.trans k2.symm))
    obtain⟨h3,h4⟩:=h.h1 e (List.mem_of_getElem? ho)
    exact⟨by rw[e2 _ _ hne];exact h3,h4⟩
  ·by_cases e:y=x∧r'=r
   ·refine⟨{hd[i] with c:=c},List.mem_iff_getElem?.2 ⟨i,by rw[List.getElem?_modify,List.getElem?_eq_getElem hi];simp⟩,?_,?_⟩
    ·rw[e.2];exact hk.2
    ·rw[e.1];exact hk.1
   ·rw[e2 _ _ e] at hy
    obtain⟨o,ho,h3,h4⟩:=h.h2 r' y hy
    obtain⟨j,hj⟩:=List.mem_iff_getElem?.1 ho
    have hij:¬i=j:=fun hij=>by
     subst hij
     have eo:hd[i]=o:=by
      have:=List.getElem?_eq_getElem hi
      rw[hj] at this
      exact(Option.some.inj this).symm
     rw[eo] at hk
     exact e ⟨h4.symm.trans hk.1,h3.symm.trans hk.2⟩
    exact⟨o,List.mem_iff_getElem?.2 ⟨j,by rw[List.getElem?_modify,hj];simp[hij]⟩,h3,h4⟩
theorem HQ.del(h:HQ hd aq hl qs)(x:Int)(hq:∀r g,(x,g)∉qs r):HQ (hd.filter fun e=>e.x != x) aq (fun r=>upd (hl r) x 0) qs:=by
 refine⟨h.hn.sublist (List.filter_sublist.map _),fun e he=>?_,fun r y hy=>?_,h.qa,fun e he=>?_⟩
 ·obtain⟨h1,h2⟩:=List.mem_filter.1 he
  have hne:e.x≠x:=by simpa using h2
  show e.c=upd (hl e.r) x 0 e.x∧_
  rw[upd_other hne]
  exact h.h1 e h1
 ·have hne:y≠x:=fun e=>hy (by subst e;exact upd_same _ _ _)
  have hy2:hl r y≠0:=by
   have:upd (hl r) x 0 y=hl r y:=upd_other hne
   rw[←this];exact hy
  obtain⟨o,ho,h3,h4⟩:=h.h2 r y hy2
  exact⟨o,List.mem_filter.2 ⟨ho,by rw[h4];simpa using hne⟩,h3,h4⟩
 ·have hne:e.x≠x:=fun hh=>hq e.r e.c (by rw[←hh,←h.qa];exact queP_mem.2 ⟨e,he,rfl,rfl,rfl⟩)
  show _=decide (upd (hl e.r) x 0 e.x≠0)
  rw[upd_other hne]
  exact h.up e he
end
end
section
open Go.RowKit
theorem hol_some{x:Int}{r:Rs}{c:Int}{l:List Lk}{n:Nat}{e:Lk}(he:l[n]?=some e)(h1:e.x=x)(h2:e.r=r)(hn:∀j a,j<n→l[j]?=some a→¬(a.x=x∧a.r=r)):holP x r c l=l.set n {e with c:=c}:=by
 have:l.findIdx? (fun e=>decide (e.x=x∧e.r=r))=some n:=by
  rw[List.findIdx?_eq_some_iff_getElem]
  obtain⟨k1,k2⟩:=List.getElem?_eq_some_iff.1 he
  refine⟨k1,by rw[k2];simp[h1,h2],fun j hj=>?_⟩
  have:=hn j _ hj (List.getElem?_eq_getElem (by omega))
  simpa using this
 unfold holP
 rw[this]
 apply List.ext_getElem?
 intro j
 show(l.modify n fun e=>{e with c:=c})[j]?=_
 rw[List.getElem?_modify,List.getElem?_set]
 by_cases hj:n=j
 ·subst hj
  rw[if_pos rfl,if_pos (List.getElem?_eq_some_iff.1 he).1,he];simp
 ·rw[if_neg hj]
  cases l[j]?<;>simp[hj]
theorem hol_none{x:Int}{r:Rs}{c:Int}{l:List Lk}(hn:∀a∈l,¬(a.x=x∧a.r=r)):holP x r c l=l++[⟨x,r,c,false⟩]:=by
 have:l.findIdx? (fun e=>decide (e.x=x∧e.r=r))=none:=by
  rw[List.findIdx?_eq_none_iff]
  intro a ha
  simpa using hn a ha
 unfold holP
 rw[this]
theorem hold_r{w:World}{b:Nat}{R:Rt}{D:Nat→Prop}{vt vh va:Value}{tv:List (Tx×Value)}(h:RV w b R D vt vh va tv)(x:Int)(r:Rs)(c:Int)(hl:R.hd.length<400000000000):Calls prog 32 #[ptr b,I x,.agg #[I r.lv,.string r.lb,I r.id],I c] w fun e w'=>e=.returned (.tuple #[])∧Rst w D b ⟨R.tx,holP x r c R.hd,R.aq⟩ w':=by
 obtain⟨ra,rcap,rfl⟩:=row_form h.rh
 have H:=hide h;have HL:=hide hl
 clear h hl
 go_enter func32,ntmps32
 go_wp2_with fail
 obtain⟨w1,hw1⟩:∃w1,w1=w.alloc (.cells #[I r.lv,.string r.lb,I r.id] 33):=⟨_,rfl⟩
 rw[←hw1]
 have H1:Hid (Blk w1 w.heap.size 33 [I r.lv,.string r.lb,I r.id]∧G w w1):=by rw[hw1];exact⟨Blk.new w [I r.lv,.string r.lb,I r.id] 33,(G.refl w).alloc _⟩
 clear hw1
 obtain⟨rb,hrb⟩:∃rb,rb=w.heap.size:=⟨_,rfl⟩
 have HRB:=hide hrb
 rw[←hrb] at H1⊢
 clear hrb
 go_loopw [8] (fun iv wr=>∃n:Nat,n≤R.hd.length∧iv=I (n:Int)∧G w1 wr∧∀(j:Nat) (e:Lk),j<n→R.hd[j]?=some e→¬(e.x=x∧e.r=r)) (fun iv _=>R.hd.length-(RowKit.intOf iv).toNat)
 case atStart=>exact⟨0,Nat.zero_le _,rfl,G.refl _,fun j e hj _=>by omega⟩
 case round=>
  obtain⟨n,hn,rfl,hgw,hno⟩:=hrel
  have hll:=HL.out
  have hR:=H.out.G (H1.out.2.trans hgw)
  have hbc:=hR.blk.cell
  by_cases hlt:n<R.hd.length
  ·obtain⟨e,he⟩:∃a,R.hd[n]?=some a:=⟨_,List.getElem?_eq_getElem hlt⟩
   obtain⟨ga,hga,kc⟩:=row_cell lk_len hR.rh he
   subst hga
   have k0:wr.cell? ⟨ga,n*6,none⟩=some (I e.x):=kc 0 (by omega)
   have q1:wr.cell? ⟨ga,n*6+1,none⟩=some (I e.r.lv):=kc 1 (by omega)
   have q2:wr.cell? ⟨ga,n*6+1+1,none⟩=some (.string e.r.lb):=kc 2 (by omega)
   have q3:wr.cell? ⟨ga,n*6+1+2,none⟩=some (I e.r.id):=kc 3 (by omega)
   have q4:=(H1.out.1.G hgw).cell
   have hnI:(n:Int)<(R.hd.length:Int):=by omega
   have hwn:wrap64 ((n:Int)+1)=(n:Int)+1:=by unfold wrap64;omega
   have HWN:=hide hwn;have HLT:=hide hlt;have HE:=hide he;have HNO:=hide hno;have HGW:=hide hgw
   clear hn hno hlt he hwn kc hll hgw hR
   by_cases e1:e.x=x
   ·by_cases e2:e.r=r
    ·have HE1:=hide (And.intro e1 e2)
     rw[e1] at k0
     rw[e2] at q1 q2 q3
     clear e1 e2
     go_wp2
     go_quiet (fail)
     generalize hV:World.drewN wr _=V
     have HGV:Hid (G wr V):=by rw[←hV];exact(G.refl wr).drewN _
     clear hV hbc q1 q2 q3 q4 k0
     have HGD:Hid (G w V):=H1.out.2.trans (HGW.out.trans HGV.out)
     have hR:=H.out.G HGD.out
     have hbc:=hR.blk.cell
     obtain⟨gb,hgb,kc⟩:=row_cell lk_len hR.rh HE.out
     have eg:ga=gb:=by simpa using hgb
     subst eg
     have k4:V.cell? ⟨ga,n*6+4,none⟩=some (I e.c):=kc 4 (by omega)
     have kz:V.frozen? ⟨ga,n*6+4,none⟩=false:=own_frozen hR.rh
     obtain⟨p1,p2⟩:=hR.setH HE.out c
     have HP:Hid (Rst w D b ⟨R.tx,holP x r c R.hd,R.aq⟩ (V.setCell ⟨ga,n*6+4,none⟩ (I c))):=by
      rw[hol_some HE.out HE1.out.1 HE1.out.2 HNO.out]
      exact H.out.ends p1 (HGD.out.chg.trans p2) (fun k hk=>.inl hk)
     clear hgb kc hR p1 p2
     go_wp2
     exact bodyPost_ret (v:=.tuple #[]) (by simp[results,results32,go_sem]) rfl ⟨rfl,HP.out⟩
    ·have HNE:Hid (¬(e.x=x∧e.r=r)):=fun hh=>e2 hh.2
     rw[e1] at k0
     clear e1
     by_cases f1:e.r.lv=r.lv
     ·rw[f1] at q1
      by_cases f2:e.r.lb=r.lb
      ·rw[f2] at q2
       have f3:¬e.r.id=r.id:=fun f3=>e2 (by
        cases he2:e.r
        cases hr2:r
        rw[he2,hr2] at f1 f2 f3
        simp at f1 f2 f3
        simp[f1,f2,f3])
       have d3:decide (e.r.id=r.id)=false:=by simp[f3]
       have d4:(e.r.id==r.id)=false:=by simp[f3]
       clear e2 f1 f2
       go_wp2
       go_quiet (fail)
       generalize hV:World.drewN wr _=V
       have HGV:Hid (G wr V):=by rw[←hV];exact(G.refl wr).drewN _
       clear hV hbc q1 q2 q3 q4 k0
       go_wp2
       refine⟨⟨n+1,HLT.out,by rw[HWN.out];exact rl1 n,HGW.out.trans HGV.out,fun j c hj hc=>?_⟩,by rw[HWN.out];exact ms_end HLT.out⟩
       by_cases ej:j=n
       ·subst ej
        rw[HE.out] at hc
        cases hc
        exact HNE.out
       ·exact HNO.out j c (by omega) hc
      ·have d2:¬e.r.lb.toList=r.lb.toList:=fun q=>f2 (toList_inj q)
       clear e2 f1
       go_wp2
       go_quiet (fail)
       generalize hV:World.drewN wr _=V
       have HGV:Hid (G wr V):=by rw[←hV];exact(G.refl wr).drewN _
       clear hV hbc q1 q2 q3 q4 k0
       go_wp2
       refine⟨⟨n+1,HLT.out,by rw[HWN.out];exact rl1 n,HGW.out.trans HGV.out,fun j c hj hc=>?_⟩,by rw[HWN.out];exact ms_end HLT.out⟩
       by_cases ej:j=n
       ·subst ej
        rw[HE.out] at hc
        cases hc
        exact HNE.out
       ·exact HNO.out j c (by omega) hc
     ·have d3:decide (e.r.lv=r.lv)=false:=by simp[f1]
      have d4:(e.r.lv==r.lv)=false:=by simp[f1]
      clear e2
      go_wp2
      go_quiet (fail)
      generalize hV:World.drewN wr _=V
      have HGV:Hid (G wr V):=by rw[←hV];exact(G.refl wr).drewN _
      clear hV hbc q1 q2 q3 q4 k0
      go_wp2
      refine⟨⟨n+1,HLT.out,by rw[HWN.out];exact rl1 n,HGW.out.trans HGV.out,fun j c hj hc=>?_⟩,by rw[HWN.out];exact ms_end HLT.out⟩
      by_cases ej:j=n
      ·subst ej
       rw[HE.out] at hc
       cases hc
       exact HNE.out
      ·exact HNO.out j c (by omega) hc
   ·have HNE:Hid (¬(e.x=x∧e.r=r)):=fun hh=>e1 hh.1
    have d1:(e.x==x)=false:=by simp[e1]
    have d2:decide (e.x=x)=false:=by simp[e1]
    go_wp2
    go_quiet (fail)
    generalize hV:World.drewN wr _=V
    have HGV:Hid (G wr V):=by rw[←hV];exact(G.refl wr).drewN _
    clear hV hbc q1 q2 q3 q4 k0
    go_wp2
    refine⟨⟨n+1,HLT.out,by rw[HWN.out];exact rl1 n,HGW.out.trans HGV.out,fun j c hj hc=>?_⟩,by rw[HWN.out];exact ms_end HLT.out⟩
    by_cases ej:j=n
    ·subst ej
     rw[HE.out] at hc
     cases hc
     exact HNE.out
    ·exact HNO.out j c (by omega) hc
  ·have hne:n=R.hd.length:=by omega
   subst hne
   have hnI:¬((R.hd.length:Int)<(R.hd.length:Int)):=by omega
   have HNO:Hid (∀a∈R.hd,¬(a.x=x∧a.r=r)):=fun e he=>by
    obtain⟨j,hj⟩:=List.mem_iff_getElem?.1 he
    exact hno j e (List.getElem?_eq_some_iff.1 hj).1 hj
   have hW:G w wr:=H1.out.2.trans hgw
   have g6:G wr (wr.alloc (.cells #[I x,I r.lv,.string r.lb,I r.id,I c,.bool false] 73)).drew:=((G.refl wr).alloc _).drew
   obtain⟨v9,w9,r1,r2,r3,r4⟩:=app_lk (wr.alloc (.cells #[I x,I r.lv,.string r.lb,I r.id,I c,.bool false] 73)).drew 0 (.slice ra R.hd.length rcap) R.hd [⟨x,r,c,false⟩] (own_G hR.rh g6) ⟨wr.heap.size,0,none⟩ 1 1 rfl (fun j u hj=>by
    have:=((Blk.new wr [I x,I r.lv,.string r.lb,I r.id,I c,.bool false] 73).drew).cell j
    rw[Addr.add_mid,Nat.zero_add,this]
    exact hj) (by simp;omega) (Nat.zero_le _)
   have hcg:Chg (fun k=>(Value.slice ra R.hd.length rcap).ownBlock=some k) wr w9:=g6.chg.trans ⟨r3.os,r3.tape,r3.output,r3.size,fun k hk hn=>r3.block k hk (fun e=>hn e.symm)⟩
   obtain⟨p1,p2,p3⟩:=hR.putH hcg r2 (fun k hk=>by
    rcases r4 with e|e
    ·rw[e] at hk;exact .inl hk
    ·rw[e] at hk;cases hk;exact .inr g6.size)
   have HP:Hid (Rst w D b ⟨R.tx,holP x r c R.hd,R.aq⟩ (w9.setCell ⟨b,1,none⟩ v9)):=by
    rw[hol_none HNO.out]
    exact H.out.ends p1 (hW.chg.trans p2) (fun k hk=>by
     rcases p3 k hk with hk|hk
     ·exact .inl hk
     ·exact .inr (Nat.le_trans hW.size hk))
   obtain⟨a9,c9,hv9⟩:=row_form r2
   obtain⟨n9,hn9⟩:∃n9,n9=(R.hd++[(⟨x,r,c,false⟩:Lk)]).length:=⟨_,rfl⟩
   rw[←hn9] at hv9
   subst hv9
   clear hn9
   have HR9:=hide r1
   have HB9:=hide (hR.blk.chg hcg (own_ne hR.rh hR.blk (by decide)))
   have HX9:Hid (Blk w9 rb 33 [I r.lv,.string r.lb,I r.id]):=(H1.out.1.G hgw).chg hcg (own_ne hR.rh (H1.out.1.G hgw) (by decide))
   have HS5:Hid ((fun V=>(∀j,V.cell? ⟨b,j,none⟩=([vt,.slice ra R.hd.length rcap,va]:List Value)[j]?)∧(∀j,V.cell? ⟨rb,j,none⟩=([I r.lv,.string r.lb,I r.id]:List Value)[j]?)) wr.drew):=⟨(hR.blk.drew).cell,((H1.out.1.G hgw).drew).cell⟩
   have HS6:Hid ((fun V=>(∀j,V.cell? ⟨b,j,none⟩=([vt,.slice ra R.hd.length rcap,va]:List Value)[j]?)∧(∀j,V.cell? ⟨rb,j,none⟩=([I r.lv,.string r.lb,I r.id]:List Value)[j]?)) (wr.alloc (.cells #[I x,I r.lv,.string r.lb,I r.id,I c,.bool false] 73)).drew):=⟨(hR.blk.G g6).cell,((H1.out.1.G hgw).G g6).cell⟩
   clear hn hlt hno hll hgw hR r1 r2 r3 r4 hcg p1 p2 p3 hW g6
   go_wp2_with fail
   refine wp_region_noPanic ?_
   refine wp_region_L (S:=(fun V=>(∀j,V.cell? ⟨b,j,none⟩=([vt,.slice ra R.hd.length rcap,va]:List Value)[j]?)∧(∀j,V.cell? ⟨rb,j,none⟩=([I r.lv,.string r.lb,I r.id]:List Value)[j]?))) 13 (by kernel_rfl) (HS5.out) (fun hHeld=>?_)
   refine wpAnyL_take (i:=0) (v:=?_) rfl (by kernel_rfl) (by kernel_rfl) (by kernel_rfl) (by kernel_rfl) (fun _ _ _ h=>h) (Or.inl ⟨by rfl,?_⟩) hHeld ?_
   rotate_left 1
   ·(intro w hSw;obtain⟨q1,q2⟩:=hSw;go_simp;try with_reducible rfl)
   try simp only[Act.put,zzA,zzB,zzD]
   refine wpAnyL_take (i:=1) (v:=?_) rfl (by kernel_rfl) (by kernel_rfl) (by kernel_rfl) (by kernel_rfl) (fun _ _ _ h=>h) (Or.inl ⟨by rfl,?_⟩) hHeld ?_
   rotate_left 1
   ·(intro w hSw;obtain⟨q1,q2⟩:=hSw;go_simp;try with_reducible rfl)
   try simp only[Act.put,zzA,zzB,zzC,zzD,zzE,zzF]
   refine wpAnyL_take (i:=2) (v:=?_) rfl (by kernel_rfl) (by kernel_rfl) (by kernel_rfl) (by kernel_rfl) (fun _ _ _ h=>h) (Or.inl ⟨by rfl,?_⟩) hHeld ?_
   rotate_left 1
   ·(intro w hSw;obtain⟨q1,q2⟩:=hSw;go_simp;try with_reducible rfl)
   try simp only[Act.put,zzA,zzB,zzC,zzD,zzE,zzF]
   refine wpAnyL_take (i:=3) (v:=?_) rfl (by kernel_rfl) (by kernel_rfl) (by kernel_rfl) (by kernel_rfl) (fun _ _ _ h=>h) (Or.inl ⟨by rfl,?_⟩) hHeld ?_
   rotate_left 1
   ·(intro w hSw;obtain⟨q1,q2⟩:=hSw;go_simp;try with_reducible rfl)
   try simp only[Act.put,zzA,zzB,zzC,zzD,zzE,zzF]
   refine wpAnyL_take (i:=4) (v:=?_) rfl (by kernel_rfl) (by kernel_rfl) (by kernel_rfl) (by kernel_rfl) (fun _ _ _ h=>h) (Or.inl ⟨by rfl,?_⟩) hHeld ?_
   rotate_left 1
   ·(intro w hSw;obtain⟨q1,q2⟩:=hSw;go_simp;try with_reducible rfl)
   try simp only[Act.put,zzA,zzB,zzC,zzD,zzE,zzF]
   refine wpAnyL_take (i:=5) (v:=?_) rfl (by kernel_rfl) (by kernel_rfl) (by kernel_rfl) (by kernel_rfl) (fun _ _ _ h=>h) (Or.inl ⟨by rfl,?_⟩) hHeld ?_
   rotate_left 1
   ·(intro w hSw;obtain⟨q1,q2⟩:=hSw;go_simp;try with_reducible rfl)
   try simp only[Act.put,zzA,zzB,zzC,zzD,zzE,zzF]
   refine wpAnyL_take (i:=6) (v:=?_) rfl (by kernel_rfl) (by kernel_rfl) (by kernel_rfl) (by kernel_rfl) (fun _ _ _ h=>h) (Or.inl ⟨by rfl,?_⟩) hHeld ?_
   rotate_left 1
   ·(intro w hSw;obtain⟨q1,q2⟩:=hSw;go_simp;try with_reducible rfl)
   try simp only[Act.put,zzA,zzB,zzC,zzD,zzE,zzF]
   refine wpAnyL_take (i:=7) (v:=?_) rfl (by kernel_rfl) (by kernel_rfl) (by kernel_rfl) (by kernel_rfl) (fun _ _ _ h=>h) (Or.inl ⟨by rfl,?_⟩) hHeld ?_
   rotate_left 1
   ·(intro w hSw;obtain⟨q1,q2⟩:=hSw;go_simp;try with_reducible rfl)
   try simp only[Act.put,zzA,zzB,zzC,zzD,zzE,zzF]
   refine wpAnyL_take (i:=8) (v:=?_) rfl (by kernel_rfl) (by kernel_rfl) (by kernel_rfl) (by kernel_rfl) (fun _ _ _ h=>h) (Or.inl ⟨by rfl,?_⟩) hHeld ?_
   rotate_left 1
   ·(intro w hSw;obtain⟨q1,q2⟩:=hSw;go_simp;try with_reducible rfl)
   try simp only[Act.put,zzA,zzB,zzC,zzD,zzE,zzF]
   refine wpAnyL_one (i:=9) (by kernel_rfl) rfl (by kernel_rfl) (fun K hK=>?_)
   clear hHeld
   go_simp
   refine hK.out _ _ (HS6.out) (fun hHeld=>?_)
   clear hK K
   try simp only[Act.put,zzA,zzB,zzC,zzD,zzE,zzF]
   refine wpAnyL_one (i:=10) (by kernel_rfl) rfl (by kernel_rfl) (fun K hK=>?_)
   clear hHeld
   refine(if_pos rfl).mpr ?_
   refine wp_of_exec (exec_append _ _ 87 rfl (.slice ra R.hd.length rcap) (.slice (some ⟨wr.heap.size,0,none⟩) 1 1) rfl rfl 87 rfl HR9.out) ?_
   refine hK.out _ _ (⟨HB9.out.cell,HX9.out.cell⟩) (fun hHeld=>?_)
   clear hK K
   try simp only[Act.put,zzA,zzB,zzC,zzD,zzE,zzF]
   refine wpAnyL_take2 12 (i:=11) (v:=?_) rfl (by kernel_rfl) (by kernel_rfl) (by kernel_rfl) (by kernel_rfl) (fun _ _ _ h=>h) (Or.inl ⟨by rfl,?_⟩) hHeld ?_
   rotate_left 1
   ·(intro w hSw;(try dsimp only at hSw);go_simp;try with_reducible rfl)
   try simp only[Act.put,zzA,zzB,zzC,zzD,zzE,zzF]
   refine wpAnyL_take (i:=12) (v:=?_) rfl (by kernel_rfl) (by kernel_rfl) (by kernel_rfl) (by kernel_rfl) (fun _ _ _ h=>h) (Or.inl ⟨by rfl,?_⟩) hHeld ?_
   rotate_left 1
   ·(intro w hSw;(try dsimp only at hSw);go_simp;try with_reducible rfl)
   try simp only[Act.put,zzA,zzB,zzC,zzD,zzE,zzF]
   refine wpAnyL_last (by kernel_rfl) rfl (by kernel_rfl) (fun K hK=>?_)
   clear hHeld
   have hc7:=HB9.out.cell
   have hz7:=HB9.out.frozen
   go_simp
   refine hK.out _ _ ?_
   clear hK K
   refine NoPanic.normal ?_
   go_wp2_with fail
   exact bodyPost_end (v:=.tuple #[]) (by simp[results,results32,go_sem]) rfl ⟨rfl,HP.out⟩
end
section
open Go.RowKit
def fromN(p:Lk→Bool)(l:List Lk)(k:Nat):Nat:=k+(l.drop k).findIdx p
theorem fromN_end(p:Lk→Bool)(l:List Lk):fromN p l l.length=l.length:=by simp[fromN]
theorem fromN_zero(p:Lk→Bool)(l:List Lk):fromN p l 0=l.findIdx p:=by simp[fromN]
theorem fromN_yes{p:Lk→Bool}{l:List Lk}{k:Nat}{a:Lk}(h:l[k]?=some a)(hp:p a=true):fromN p l k=k:=by
 obtain⟨h1,h2⟩:=List.getElem?_eq_some_iff.1 h
 unfold fromN
 rw[List.drop_eq_getElem_cons h1,h2,List.findIdx_cons,hp]
 rfl
theorem fromN_no{p:Lk→Bool}{l:List Lk}{k:Nat}{a:Lk}(h:l[k]?=some a)(hp:p a=false):fromN p l k=fromN p l (k+1):=by
 obtain⟨h1,h2⟩:=List.getElem?_eq_some_iff.1 h
 unfold fromN
 rw[List.drop_eq_getElem_cons h1,h2,List.findIdx_cons,hp]
 show k+((l.drop (k+1)).findIdx p+1)=_
 omega
theorem fromN_le(p:Lk→Bool)(l:List Lk)(k:Nat)(hk:k≤l.length):fromN p l k≤l.length:=by
 unfold fromN
 have:=List.findIdx_le_length (p:=p) (xs:=l.drop k)
 rw[List.length_drop] at this
 omega
end
section
open Go.RowKit
theorem enter_nil_false{w:World}{b:Nat}{tx:List Tx}{hd:List Lk}{D:Nat→Prop}{vt vh:Value}{tv:List (Tx×Value)}(h:RV w b ⟨tx,hd,([]:List Lk)⟩ D vt vh (.slice none 0 0) tv)(x lv:Int)(lb:ByteArray)(id c:Int):Calls prog 28 #[ptr b,.agg #[I x,I lv,.string lb,I id,I c,.bool false]] w fun e w'=>e=.returned (I (entN ⟨x,⟨lv,lb,id⟩,c,false⟩ ([]:List Lk):Int))∧Rst w D b ⟨tx,hd,entP ⟨x,⟨lv,lb,id⟩,c,false⟩ ([]:List Lk)⟩ w':=by
 have H:=hide h
 have hbc0:=h.blk.cell
 have HBX:Hid (Blk (w.alloc (.cells #[I x,I lv,.string lb,I id,I c,.bool false] 73)) w.heap.size 73 [I x,I lv,.string lb,I id,I c,.bool false]∧G w (w.alloc (.cells #[I x,I lv,.string lb,I id,I c,.bool false] 73))):=⟨Blk.new w _ 73,(G.refl w).alloc _⟩
 have hc0:=HBX.out.1.cell
 have hR:=h.G HBX.out.2
 have hbb:=hR.blk.cell
 have HEN:Hid (0=entN ⟨x,⟨lv,lb,id⟩,c,false⟩ ([]:List Lk)):=by simp[Hid,entN]
 clear h
 have r1:=app_lk0 (w.alloc (.cells #[I x,I lv,.string lb,I id,I c,.bool false] 73)) (w.alloc (.cells #[I x,I lv,.string lb,I id,I c,.bool false] 73)).heap.size (.slice none 0 0) [] ⟨rfl,.inl ⟨rfl,rfl⟩⟩
 obtain⟨v1,w1,e1⟩:∃v1 w1,v1=Value.slice none 0 0∧w1=(w.alloc (.cells #[I x,I lv,.string lb,I id,I c,.bool false] 73)):=⟨_,_,rfl,rfl⟩
 have r2:(w.alloc (.cells #[I x,I lv,.string lb,I id,I c,.bool false] 73)).ownsRow (w.alloc (.cells #[I x,I lv,.string lb,I id,I c,.bool false] 73)).heap.size 73 6 (.slice none 0 0) ([]:List Lk).length (lkc []):=⟨rfl,.inl ⟨rfl,rfl⟩⟩
 have g1:G (w.alloc (.cells #[I x,I lv,.string lb,I id,I c,.bool false] 73)) (w.alloc (.cells #[I x,I lv,.string lb,I id,I c,.bool false] 73)):=G.refl _
 clear e1 v1 w1
 have hqb1:=(HBX.out.1.G g1).cell
 obtain⟨v2,w2,s1,s2,s3,-⟩:=app_lk ((w.alloc (.cells #[I x,I lv,.string lb,I id,I c,.bool false] 73)).alloc (.cells #[I x,I lv,.string lb,I id,I c,.bool false] 73)) (w.alloc (.cells #[I x,I lv,.string lb,I id,I c,.bool false] 73)).heap.size (.slice none 0 0) ([]:List Lk) [⟨x,⟨lv,lb,id⟩,c,false⟩] (own_G r2 ((G.refl (w.alloc (.cells #[I x,I lv,.string lb,I id,I c,.bool false] 73))).alloc _)) ⟨(w.alloc (.cells #[I x,I lv,.string lb,I id,I c,.bool false] 73)).heap.size,0,none⟩ 1 1 rfl (fun j u hj=>by
  have:=(Blk.new (w.alloc (.cells #[I x,I lv,.string lb,I id,I c,.bool false] 73)) [I x,I lv,.string lb,I id,I c,.bool false] 73).cell j
  rw[Addr.add_mid,Nat.zero_add,this]
  exact hj) (by simp) ((g1.alloc _).size)
 have g2:G (w.alloc (.cells #[I x,I lv,.string lb,I id,I c,.bool false] 73)) w2:=grown_G (g1.alloc _) s3 (fun k hk=>(World.ownsRow.lt r2 k hk).1)
 obtain⟨x2,y2,hv2⟩:=row_form s2
 obtain⟨n2,hn2⟩:∃n2,n2=(([]:List Lk)++[(⟨x,⟨lv,lb,id⟩,c,false⟩:Lk)]).length:=⟨_,rfl⟩
 rw[←hn2] at hv2
 subst hv2
 clear hn2 s3
 rw[World.size_alloc] at s1
 have q1:=app_lk0 w2 (w.alloc (.cells #[I x,I lv,.string lb,I id,I c,.bool false] 73)).heap.size (.slice x2 n2 y2) ([]++[(⟨x,⟨lv,lb,id⟩,c,false⟩:Lk)]) s2
 have q2:=s2
 have g3:G (w.alloc (.cells #[I x,I lv,.string lb,I id,I c,.bool false] 73)) w2:=g2
 have hap:entP ⟨x,⟨lv,lb,id⟩,c,false⟩ ([]:List Lk)=[]++[⟨x,⟨lv,lb,id⟩,c,false⟩]:=by simp[entP]
 obtain⟨p1,p2,p3⟩:=hR.putA g3.chg (own_lo q2 (Nat.zero_le _)) (fun k hk=>.inr (World.ownsRow.lt q2 k hk).1)
 have HP:Hid (Rst w D b ⟨tx,hd,entP ⟨x,⟨lv,lb,id⟩,c,false⟩ []⟩ (w2.setCell ⟨b,2,none⟩ (.slice x2 n2 y2))):=by
  rw[hap]
  exact H.out.ends p1 (HBX.out.2.chg.trans p2) (fun k hk=>by
   rcases p3 k hk with hk|hk
   ·exact .inl hk
   ·exact .inr (Nat.le_trans HBX.out.2.size hk))
 have hbc:=hR.blk.cell
 have hb1:=(hR.blk.G g1).cell
 have hb2:=(hR.blk.G g2).cell
 have hb3:=(hR.blk.G g3).cell
 have hz3:=(hR.blk.G g3).frozen
 have HA:=hide r1;have HB:=hide s1;have HC:=hide q1
 clear r1 r2 s1 s2 q1 q2 p1 p2 p3 hap hR g1 g2 g3
 go_enter func28,ntmps28
 go_wp2_with (first|(at_builtin;refine wpList_append_run rfl _ _ 87 rfl _ _ rfl rfl HA.out ?_;refine Hid.out ?_)|fail)
 unfold Hid
 go_wp2_with (first|(at_builtin;refine wpList_append_run rfl _ _ 87 rfl _ _ rfl rfl HB.out ?_;refine Hid.out ?_)|fail)
 unfold Hid
 go_wp2_with (first|(at_builtin;refine wpList_append_run rfl _ _ 87 rfl _ _ rfl rfl HC.out ?_)|fail)
 go_ret
 exact⟨by first|(rw[←HEN.out];rfl)|rw[←HEN.out],HP.out⟩
end
section
open Go.RowKit
theorem enter_nil_true{w:World}{b:Nat}{tx:List Tx}{hd:List Lk}{D:Nat→Prop}{vt vh:Value}{tv:List (Tx×Value)}(h:RV w b ⟨tx,hd,([]:List Lk)⟩ D vt vh (.slice none 0 0) tv)(x lv:Int)(lb:ByteArray)(id c:Int):Calls prog 28 #[ptr b,.agg #[I x,I lv,.string lb,I id,I c,.bool true]] w fun e w'=>e=.returned (I (entN ⟨x,⟨lv,lb,id⟩,c,true⟩ ([]:List Lk):Int))∧Rst w D b ⟨tx,hd,entP ⟨x,⟨lv,lb,id⟩,c,true⟩ ([]:List Lk)⟩ w':=by
 have H:=hide h
 have hbc0:=h.blk.cell
 have HBX:Hid (Blk (w.alloc (.cells #[I x,I lv,.string lb,I id,I c,.bool true] 73)) w.heap.size 73 [I x,I lv,.string lb,I id,I c,.bool true]∧G w (w.alloc (.cells #[I x,I lv,.string lb,I id,I c,.bool true] 73))):=⟨Blk.new w _ 73,(G.refl w).alloc _⟩
 have hc0:=HBX.out.1.cell
 have hR:=h.G HBX.out.2
 have hbb:=hR.blk.cell
 clear h hR
 go_enter func28,ntmps28
 go_wp2_with fail
 obtain⟨w1,hw1⟩:∃w1,w1=(w.alloc (.cells #[I x,I lv,.string lb,I id,I c,.bool true] 73)):=⟨_,rfl⟩
 rw[←hw1] at HBX⊢
 obtain⟨rb,hrb⟩:∃rb,rb=w.heap.size:=⟨_,rfl⟩
 have HRB:=hide hrb
 rw[←hrb] at HBX⊢
 clear hw1 hrb hc0 hbb hbc0
 go_loopw [5,6] (fun av iv wr=>∃k:Nat,k≤([]:List Lk).length∧iv=I ((k:Int)-1)∧av=I (fromN (fun e:Lk=>decide (e.r=⟨lv,lb,id⟩)&&!e.up) ([]:List Lk) k:Int)∧G w1 wr) (fun _ iv _=>(RowKit.intOf iv+1).toNat)
 case atStart=>exact⟨([]:List Lk).length,Nat.le_refl _,by simp,by first|(rw[fromN_end];done)|(rw[fromN_end];rfl),G.refl _⟩
 case round=>
  obtain⟨k,hk,rfl,rfl,hgw⟩:=hrel
  have hR:=H.out.G (HBX.out.2.trans hgw)
  have hbc:=hR.blk.cell
  cases k with
  | zero=>
   have hi:¬((0:Int)≤((0:Nat):Int)-1):=by omega
   have ha:=fromN_le (fun e:Lk=>decide (e.r=⟨lv,lb,id⟩)&&!e.up) ([]:List Lk) 0 (Nat.zero_le _)
   have HEN:Hid (fromN (fun e:Lk=>decide (e.r=⟨lv,lb,id⟩)&&!e.up) ([]:List Lk) 0=entN ⟨x,⟨lv,lb,id⟩,c,true⟩ ([]:List Lk)):=by
    rw[fromN_zero]
    simp[Hid,entN]
   obtain⟨a,hae⟩:∃a,a=fromN (fun e:Lk=>decide (e.r=⟨lv,lb,id⟩)&&!e.up) ([]:List Lk) 0:=⟨_,rfl⟩
   rw[←hae] at ha HEN⊢
   clear hae
   have HBX:Hid (Blk wr rb 73 [I x,I lv,.string lb,I id,I c,.bool true]∧G w wr):=⟨HBX.out.1.G hgw,HBX.out.2.trans hgw⟩
   clear hgw hk
   have ha0:a=0:=by simpa using ha
   subst ha0
   have r1:=app_lk0 wr wr.heap.size (.slice none 0 0) [] ⟨rfl,.inl ⟨rfl,rfl⟩⟩
   obtain⟨v1,w1,e1⟩:∃v1 w1,v1=Value.slice none 0 0∧w1=wr:=⟨_,_,rfl,rfl⟩
   have r2:wr.ownsRow wr.heap.size 73 6 (.slice none 0 0) ([]:List Lk).length (lkc []):=⟨rfl,.inl ⟨rfl,rfl⟩⟩
   have g1:G wr wr:=G.refl _
   clear e1 v1 w1
   have hqb1:=(HBX.out.1.G g1).cell
   obtain⟨v2,w2,s1,s2,s3,-⟩:=app_lk (wr.alloc (.cells #[I x,I lv,.string lb,I id,I c,.bool true] 73)) wr.heap.size (.slice none 0 0) ([]:List Lk) [⟨x,⟨lv,lb,id⟩,c,true⟩] (own_G r2 ((G.refl wr).alloc _)) ⟨wr.heap.size,0,none⟩ 1 1 rfl (fun j u hj=>by
    have:=(Blk.new wr [I x,I lv,.string lb,I id,I c,.bool true] 73).cell j
    rw[Addr.add_mid,Nat.zero_add,this]
    exact hj) (by simp) ((g1.alloc _).size)
   have g2:G wr w2:=grown_G (g1.alloc _) s3 (fun k hk=>(World.ownsRow.lt r2 k hk).1)
   obtain⟨x2,y2,hv2⟩:=row_form s2
   obtain⟨n2,hn2⟩:∃n2,n2=(([]:List Lk)++[(⟨x,⟨lv,lb,id⟩,c,true⟩:Lk)]).length:=⟨_,rfl⟩
   rw[←hn2] at hv2
   subst hv2
   clear hn2 s3
   have q1:=app_lk0 w2 wr.heap.size (.slice x2 n2 y2) ([]++[(⟨x,⟨lv,lb,id⟩,c,true⟩:Lk)]) s2
   have q2:=s2
   have g3:G wr w2:=g2
   have hap:entP ⟨x,⟨lv,lb,id⟩,c,true⟩ ([]:List Lk)=[]++[⟨x,⟨lv,lb,id⟩,c,true⟩]:=by simp[entP]
   obtain⟨p1,p2,p3⟩:=hR.putA g3.chg (own_lo q2 (Nat.zero_le _)) (fun k hk=>.inr (World.ownsRow.lt q2 k hk).1)
   have HP:Hid (Rst w D b ⟨tx,hd,entP ⟨x,⟨lv,lb,id⟩,c,true⟩ []⟩ (w2.setCell ⟨b,2,none⟩ (.slice x2 n2 y2))):=by
    rw[hap]
    exact H.out.ends p1 (HBX.out.2.chg.trans p2) (fun k hk=>by
     rcases p3 k hk with hk|hk
     ·exact .inl hk
     ·exact .inr (Nat.le_trans HBX.out.2.size hk))
   have hbc:=hR.blk.cell
   have hb1:=(hR.blk.G g1).cell
   have hb2:=(hR.blk.G g2).cell
   have hb3:=(hR.blk.G g3).cell
   have hz3:=(hR.blk.G g3).frozen
   have HA:=hide r1;have HB:=hide s1;have HC:=hide q1
   clear r1 r2 s1 s2 q1 q2 p1 p2 p3 hap hR g1 g2 g3
   go_wp2_with (first|(at_builtin;refine wpList_append_run rfl _ _ 87 rfl _ _ rfl rfl HA.out ?_;refine Hid.out ?_)|fail)
   unfold Hid
   go_wp2_with (first|(at_builtin;refine wpList_append_run rfl _ _ 87 rfl _ _ rfl rfl HB.out ?_;refine Hid.out ?_)|fail)
   unfold Hid
   go_wp2_with (first|(at_builtin;refine wpList_append_run rfl _ _ 87 rfl _ _ rfl rfl HC.out ?_)|fail)
   go_ret
   exact⟨by first|(rw[←HEN.out];rfl)|rw[←HEN.out],HP.out⟩
  | succ j=>exact absurd hk (by simp)
end
end Go.Proofs.YtadfaiciolfgjaaGreatDoor
