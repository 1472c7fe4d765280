import Derived.Test.YtadfaiciolfgjaaGreatDoorLr9
namespace Go.Proofs.YtadfaiciolfgjaaGreatDoor
open Go.Proofs.Tryz
set_option maxHeartbeats 2000000
set_option maxRecDepth 100000
section
open Go.RowKit
def waiX(R:Rt)(x:Int):List (Int×Int×Rs):=match R.aq.findIdx? (fun e=>e.x==x)with
 | none=>[]
 | some n=>match R.aq[n]?,R.tx.find? (fun e=>e.x==x)with
  | some q,some t=>if t.ws=[] then(inwP R n q).map (fun y=>(x,y,q.r))else []
  | _,_=>[]
def waiP(R:Rt)(ids:List Int):List (Int×Int×Rs):=ids.flatMap (waiX R)
theorem waiP_snoc(R:Rt){ids:List Int}{n:Nat}{x:Int}(h:ids[n]?=some x):waiP R (ids.take (n+1))=waiP R (ids.take n)++waiX R x:=by
 unfold waiP
 rw[take_one h,List.flatMap_append]
 simp
theorem waiX_no{R:Rt}{x:Int}(h:∀e∈R.aq,(e.x==x)=false):waiX R x=[]:=by
 have:R.aq.findIdx? (fun e=>e.x==x)=none:=by
  rw[List.findIdx?_eq_none_iff];exact h
 unfold waiX
 rw[this]
theorem waiX_at{R:Rt}{x:Int}{n i:Nat}{q:Lk}{t:Tx}(hq:R.aq[n]?=some q)(hqx:q.x=x)(hqn:∀j b,j<n→R.aq[j]?=some b→(b.x==x)=false)(ht:R.tx[i]?=some t)(htx:t.x=x)(htn:∀j b,j<i→R.tx[j]?=some b→(b.x==x)=false) :
  waiX R x=if t.ws=[] then(inwP R n q).map (fun y=>(x,y,q.r))else []:=by
 have h1:R.aq.findIdx? (fun e=>e.x==x)=some n:=by
  rw[List.findIdx?_eq_some_iff_getElem]
  obtain⟨k1,k2⟩:=List.getElem?_eq_some_iff.1 hq
  refine⟨k1,by rw[k2];simp[hqx],fun j hj=>?_⟩
  rw[hqn j _ hj (List.getElem?_eq_getElem (by omega))]
  simp
 have h2:R.tx.find? (fun e=>e.x==x)=some t:=by
  rw[List.find?_eq_some_iff_getElem]
  obtain⟨k1,k2⟩:=List.getElem?_eq_some_iff.1 ht
  refine⟨by simp[htx],i,k1,k2,fun j hj=>?_⟩
  rw[htn j _ hj (List.getElem?_eq_getElem (by omega))]
  simp
 unfold waiX
 simp only[h1,h2,hq]
theorem waiP_len{R:Rt}{B:Nat}(hB:∀n q,R.aq[n]?=some q→(inwP R n q).length≤B):∀ids:List Int,(waiP R ids).length≤ids.length*B
 | []=>by simp[waiP]
 | x::ids=>by
  have h1:=waiP_len hB ids
  have h2:(waiX R x).length≤B:=by
   unfold waiX
   split
   ·exact Nat.zero_le _
   ·split
    ·rename_i q t hq ht
     split
     ·rw[List.length_map];exact hB _ _ hq
     ·exact Nat.zero_le _
    ·exact Nat.zero_le _
  show(waiX R x++waiP R ids).length≤_
  rw[List.length_append,List.length_cons,Nat.succ_mul]
  omega
theorem waits_r{w:World}{b:Nat}{R:Rt}{D:Nat→Prop}{vt vh va:Value}{tv:List (Tx×Value)}(h:RV w b R D vt vh va tv)(B:Nat)(hB:∀n q,R.aq[n]?=some q→(inwP R n q).length≤B)(hBm:R.tx.length*B<2000000000000)(hl:R.tx.length<400000000000∧R.hd.length<400000000000∧R.aq.length<400000000000):Calls prog 49 #[ptr b] w fun e w'=>∃v,e=.returned v∧w'.ownsRow w.heap.size 101 5 v (waiP R (livP R)).length (gc (waiP R (livP R)))∧G w w':=by
 have KL:=hide (live_r h hl.1)
 have hidl:(livP R).length≤R.tx.length:=by
  have:=putsP_len (R.tx.map Tx.x)
  rw[List.length_map] at this
  exact this
 have hidm:∀x∈livP R,∃e∈R.tx,(e.x==x)=true:=fun x hx=>by
  have:=(putsP_mem (R.tx.map Tx.x) x).1 hx
  obtain⟨e,he,e2⟩:=List.mem_map.1 this
  exact⟨e,he,by simp[e2]⟩
 obtain⟨ids,hids⟩:∃ids,ids=livP R:=⟨_,rfl⟩
 rw[←hids] at KL hidl hidm⊢
 have HBN:=hide hB;have HBM:=hide hBm
 have H:=hide h;have HLL:=hide hl;have HIL:=hide hidl;have HIM:=hide hidm
 clear h hl hids hidl hidm hB hBm
 go_enter func49,ntmps49
 go_wp2_with (first|(go_at_call 46;with_reducible refine(KL.out).mono ?_;rintro e w1 ⟨vi,rfl,o1,g1⟩;obtain⟨ia,ic,rfl⟩:=row_form o1)|fail)
 have HO1:=hide o1;have HG1:=hide g1
 clear o1 g1 KL
 go_loopw [3,5] (fun ov iv wr=>∃n:Nat,n≤ids.length∧iv=I (n:Int)∧wr.ownsRow w.heap.size 101 5 ov (waiP R (ids.take n)).length (gc (waiP R (ids.take n)))∧wr.ownsRow w.heap.size 3 1 (.slice ia ids.length ic) ids.length (ids.map fun z=>I z)∧G w wr) (fun _ iv _=>ids.length-(RowKit.intOf iv).toNat)
 case atStart=>exact⟨0,Nat.zero_le _,rfl,⟨rfl,.inl ⟨rfl,rfl⟩⟩,HO1.out,HG1.out⟩
 case round=>
  obtain⟨n,hn,rfl,how,hvr,hgw⟩:=hrel
  have hll:=HLL.out
  have hil:=HIL.out
  by_cases hlt:n<ids.length
  ·obtain⟨x,hx⟩:∃a,ids[n]?=some a:=⟨_,List.getElem?_eq_getElem hlt⟩
   obtain⟨ga,hga,k0⟩:=int_at hvr hx
   subst hga
   have hR:=H.out.G hgw
   have KQ:=hide (request_r hR x (by omega))
   obtain⟨te,hte,htx⟩:=HIM.out x (List.mem_of_getElem? hx)
   have hnI:(n:Int)<(ids.length:Int):=by omega
   have hn0:(0:Int)≤(n:Int):=by omega
   have hwn:wrap64 ((n:Int)+1)=(n:Int)+1:=by unfold wrap64;omega
   have hst:=waiP_snoc R hx
   have HWN:=hide hwn;have HLT:=hide hlt;have HGW:=hide hgw;have HOW:=hide how;have HVR:=hide hvr;have HX:=hide hx
   rcases idxI_cases (fun e:Lk=>e.x==x) R.aq with ⟨hq1,hq2⟩|⟨m,q,hq1,hq2,hq3,hq4⟩
   ·rw[hq1] at KQ
    rw[waiX_no hq2,List.append_nil] at hst
    have HST:=hide hst
    clear hn hlt hx hwn hll hil hgw how hvr hst hq1 hq2 hte htx hR te
    go_wp2_with (first|(go_at_call 25;with_reducible refine(KQ.out).mono ?_;rintro e w' ⟨rfl,rfl⟩)|fail)
    go_quiet (fail)
    generalize hV:World.drewN w' _=V
    have HGV:Hid (G w' V):=by rw[←hV];exact(G.refl w').drewN _
    clear hV k0
    go_wp2_with fail
    exact⟨⟨n+1,HLT.out,by rw[HWN.out];exact rl1 n,by rw[HST.out];exact own_G HOW.out HGV.out,own_G HVR.out HGV.out,HGW.out.trans HGV.out⟩,by rw[HWN.out];exact ms_end HLT.out⟩
   ·rw[hq1] at KQ
    rcases idxI_cases (fun e:Tx=>e.x==x) R.tx with ⟨-,ht2⟩|⟨i,t,ht1,ht2,ht3,ht4⟩
    ·rw[ht2 te hte] at htx;cases htx
    have hqx:q.x=x:=by simpa using hq3
    have htx2:t.x=x:=by simpa using ht3
    rw[waiX_at hq2 hqx hq4 ht2 htx2 ht4] at hst
    have KP:Hid (∀k,Calls prog 22 #[ptr b,I x] (wr.drewN k) fun e w'=>e=.returned (I (i:Int))∧w'=wr.drewN k):=fun k=>by
     have:=place_r (hR.G ((G.refl wr).drewN k)) x (by omega)
     rw[ht1] at this
     exact this
    obtain⟨ev,hev⟩:=hR.at ht2
    have hrw:wr.ownsRow 0 3 1 ev t.ws.length (t.ws.map fun z=>I z):=hR.rw_ _ (List.mem_of_getElem? hev)
    obtain⟨ta,tcap,rfl⟩:=row_form hR.rt
    obtain⟨gt,hgt,kc⟩:=row_cell tx_len hR.rt hev
    subst hgt
    obtain⟨wa,wc,rfl⟩:=row_form hrw
    have hi0:(0:Int)≤(i:Int):=by omega
    have hil2:=(List.getElem?_eq_some_iff.1 hev).1
    have hiI:(i:Int)<(tv.length:Int):=by omega
    have k2:wr.cell? ⟨gt,i*3+2,none⟩=some (.slice wa t.ws.length wc):=kc 2 (by omega)
    have hbc:=hR.blk.cell
    have hm0:¬((m:Int)<0):=by omega
    have hd0:decide ((m:Int)<0)=false:=by simp
    by_cases hws:t.ws=[]
    ·rw[if_pos hws] at hst
     have HST:=hide hst
     have hwl:t.ws.length=0:=by rw[hws];rfl
     rw[hwl] at k2
     have KI:Hid (∀U,G w U→Calls prog 29 #[ptr b,I (m:Int)] U fun e w'=>∃v,e=.returned v∧w'.ownsRow U.heap.size 3 1 v (inwP R m q).length ((inwP R m q).map fun z=>I z)∧G U w'):=fun U hU=>inWay_r (H.out.G hU) m q hq2 (by omega)
     have HQ2:=hide hq2
     clear hn hlt hx hwn hll hil hgw how hvr hst hq1 hq2 hq3 hq4 ht1 ht2 ht3 ht4 hte htx hR te hqx htx2 hev hrw kc hil2 hws hwl
     go_wp2_with (first|(go_at_call 25;with_reducible refine(KQ.out).mono ?_;rintro e w' ⟨rfl,rfl⟩)|fail)
     go_quiet (first|(go_at_call 22;with_reducible refine Calls.quiet_of_same (KP.out _)))
     generalize hV:World.drewN w' _=V
     have HGV:Hid (G w' V):=by rw[←hV];exact(G.refl w').drewN _
     clear hV k0 k2 hbc KP KQ
     have HGD:Hid (G w V):=HGW.out.trans HGV.out
     go_wp2_with (first|(go_at_call 29;with_reducible refine(KI.out _ HGD.out).mono ?_;rintro e w2 ⟨vw,rfl,o2,g2⟩;obtain⟨wya,wyc,rfl⟩:=row_form o2)|fail)
     obtain⟨way,hway⟩:∃way,way=inwP R m q:=⟨_,rfl⟩
     have hwl:way.length≤B:=by rw[hway];exact HBN.out m q HQ2.out
     rw[←hway] at o2 HST⊢
     have HW0:Hid (w2.ownsRow w.heap.size 3 1 (.slice wya way.length wyc) way.length (way.map fun z=>I z)∧way.length<2000000000000∧way.length≤B):=⟨own_lo o2 HGD.out.size,by
      have h1:=HBM.out
      have h2:=(List.getElem?_eq_some_iff.1 HX.out).1
      have h3:=HIL.out
      have h4:1*B≤R.tx.length*B:=Nat.mul_le_mul_right B (by omega)
      omega,hwl⟩
     have HV0:Hid (w2.ownsRow w.heap.size 3 1 (.slice (some ⟨ga,0,none⟩) ids.length ic) ids.length (ids.map fun z=>I z)):=own_G HVR.out (HGV.out.trans g2)
     have HU0:Hid (w2.ownsRow w.heap.size 101 5 u3 (waiP R (ids.take n)).length (gc (waiP R (ids.take n)))∧G w w2):=⟨own_G HOW.out (HGV.out.trans g2),HGD.out.trans g2⟩
     clear o2 g2 hway hwl KI HGD HGV HVR HOW HGW
     go_loopw [3,8] (fun ov iv wr=>∃j:Nat,j≤way.length∧iv=I (j:Int)∧wr.ownsRow w.heap.size 101 5 ov (waiP R (ids.take n)++(way.take j).map fun y=>(x,y,q.r)).length (gc (waiP R (ids.take n)++(way.take j).map fun y=>(x,y,q.r)))∧wr.ownsRow w.heap.size 3 1 (.slice (some ⟨ga,0,none⟩) ids.length ic) ids.length (ids.map fun z=>I z)∧wr.ownsRow w.heap.size 3 1 (.slice wya way.length wyc) way.length (way.map fun z=>I z)∧G w wr) (fun _ iv _=>way.length-(RowKit.intOf iv).toNat)
     case atStart=>exact⟨0,Nat.zero_le _,rfl,by rw[List.take_zero,List.map_nil,List.append_nil];exact HU0.out.1,HV0.out,HW0.out.1,HU0.out.2⟩
     case round=>
      obtain⟨j,hj,rfl,how,hvr,hwr,hgw⟩:=hrel
      by_cases hlj:j<way.length
      ·obtain⟨y,hy⟩:∃a,way[j]?=some a:=⟨_,List.getElem?_eq_getElem hlj⟩
       obtain⟨gw,hgw2,k1⟩:=int_at hwr hy
       subst hgw2
       obtain⟨gb,hgb,k0⟩:=int_at hvr HX.out
       have eg:ga=gb:=by simpa using hgb
       subst eg
       clear hgb
       have hjI:(j:Int)<(way.length:Int):=by omega
       have hj0:(0:Int)≤(j:Int):=by omega
       have hnI2:(n:Int)<(ids.length:Int):=by have:=HLT.out;omega
       have hwj:wrap64 ((j:Int)+1)=(j:Int)+1:=by have:=HW0.out.2.1;unfold wrap64;omega
       have hlen:(waiP R (ids.take n)++(way.take j).map fun y=>(x,y,q.r)).length<2199023255552:=by
        rw[List.length_append,List.length_map,List.length_take]
        have h1:=waiP_len HBN.out (ids.take n)
        rw[List.length_take] at h1
        have h2:=HBM.out
        have h3:=HIL.out
        have h4:min n ids.length*B≤R.tx.length*B:=Nat.mul_le_mul_right B (by omega)
        have h5:=HW0.out.2.1
        have h6:=HW0.out.2.2
        have h7:1*B≤R.tx.length*B:=Nat.mul_le_mul_right B (by have:=HLT.out;omega)
        have h8:(min n ids.length+1)*B≤R.tx.length*B:=Nat.mul_le_mul_right B (by have:=HLT.out;omega)
        rw[Nat.succ_mul] at h8
        omega
       have hstj:(way.take (j+1)).map (fun y=>(x,y,q.r))=(way.take j).map (fun y=>(x,y,q.r))++[(x,y,q.r)]:=by rw[take_one hy,List.map_append];rfl
       obtain⟨v9,w9,r1,r2,r3⟩:=app_gol wr.drew w.heap.size u3 _ (x,y,q.r) (own_G how (G.refl wr).drew) hlen hgw.size
       rw[List.append_assoc,←hstj] at r2
       have HR9:Hid ((Builtin.append_ #[95,95] 95 #[u3,.slice (some ⟨wr.heap.size,0,none⟩) 1 1]).run prog (wr.alloc (.cells #[I x,I y,I q.r.lv,.string q.r.lb,I q.r.id] 101)).drew=.ok v9 w9):=r1
       have hcg:Chg (fun k=>u3.ownBlock=some k) (wr.drew.alloc (.cells #[I x,I y,I q.r.lv,.string q.r.lb,I q.r.id] 101)) w9:=⟨r3.os,r3.tape,r3.output,r3.size,fun k hk hn=>r3.block k hk (fun e=>hn e.symm)⟩
       have HG9:Hid (G w w9):=grown_G ((hgw.drew).alloc _) r3 (fun k hk=>(World.ownsRow.lt how k hk).1)
       have HV9:Hid (w9.ownsRow w.heap.size 3 1 (.slice (some ⟨ga,0,none⟩) ids.length ic) ids.length (ids.map fun z=>I z)):=own_chg (own_G hvr (((G.refl wr).drew).alloc _)) hcg (fun b hb e=>own_apart how hvr (by decide) b e hb)
       have HY9:Hid (w9.ownsRow w.heap.size 3 1 (.slice (some ⟨gw,0,none⟩) way.length wyc) way.length (way.map fun z=>I z)):=own_chg (own_G hwr (((G.refl wr).drew).alloc _)) hcg (fun b hb e=>own_apart how hwr (by decide) b e hb)
       have HR2:=hide r2
       have hgl:ga<wr.heap.size:=own_lt hvr rfl
       have hgwl:gw<wr.heap.size:=own_lt hwr rfl
       have HSS:Hid (∀U,G wr U→(fun U=>G w U∧U.cell? ⟨ga,n,none⟩=some (I x)∧U.cell? ⟨gw,j,none⟩=some (I y)) U):=fun U hU=>⟨hgw.trans hU,(hU.cell hgl).trans k0,(hU.cell hgwl).trans k1⟩
       have HS9:Hid ((fun U=>G w U∧U.cell? ⟨ga,n,none⟩=some (I x)∧U.cell? ⟨gw,j,none⟩=some (I y)) w9):=⟨HG9.out,by
        obtain⟨gb,hgb,k9⟩:=int_at HV9.out HX.out
        have eg:ga=gb:=by simpa using hgb
        subst eg
        exact k9,by
        obtain⟨gb,hgb,k9⟩:=int_at HY9.out hy
        have eg:gw=gb:=by simpa using hgb
        subst eg
        exact k9⟩
       obtain⟨qa,qcap,hqf⟩:=row_form H.out.ra
       obtain⟨gq,hgq,-⟩:=row_cell lk_len (by rw[←hqf];exact H.out.ra) HQ2.out
       subst hgq
       have HCC:Hid (∀U,G w U→(∀o,U.cell? ⟨b,o,none⟩=[.slice (some ⟨gt,0,none⟩) tv.length tcap,vh,.slice (some ⟨gq,0,none⟩) R.aq.length qcap][o]?)∧U.cell? ⟨gq,m*6+1,none⟩=some (I q.r.lv)∧U.cell? ⟨gq,m*6+1+1,none⟩=some (.string q.r.lb)∧U.cell? ⟨gq,m*6+1+2,none⟩=some (I q.r.id)):=fun U hU=>by
        have hR:=H.out.G hU
        rw[hqf] at hR
        obtain⟨gb,hgb,kc⟩:=row_cell lk_len hR.ra HQ2.out
        have eg:gq=gb:=by simpa using hgb
        subst eg
        exact⟨hR.blk.cell,kc 1 (by omega),kc 2 (by omega),kc 3 (by omega)⟩
       have hmI:(m:Int)<(R.aq.length:Int):=by have:=(List.getElem?_eq_some_iff.1 HQ2.out).1;omega
       have hm00:(0:Int)≤(m:Int):=by omega
       have HWJ:=hide hwj;have HLJ:=hide hlj
       clear r1 r2 r3 hcg how hvr hwr hgw hlen hstj hy hwj hlj hj k0 k1 hgl hgwl hqf
       go_wp2_with fail
       refine wp_region_noPanic ?_
       refine wp_region_held_drew (S:=(fun U=>G w U∧U.cell? ⟨ga,n,none⟩=some (I x)∧U.cell? ⟨gw,j,none⟩=some (I y))) (by kernel_rfl) (HSS.out _ (G.refl wr).drew) (fun hHeld=>?_)
       refine wpAnyH_take (i:=0) (v:=?_) rfl (by kernel_rfl) (by kernel_rfl) (by kernel_rfl) (fun _ _ _ h=>h) (Or.inl ⟨by rfl,?_⟩) hHeld ?_
       rotate_left 1
       ·(intro w hSw;obtain⟨q0,q1,q2⟩:=hSw;obtain⟨q3,q4,q5,q6⟩:=HCC.out _ q0;go_simp;try with_reducible rfl)
       try simp only[Act.put,zzA,zzB,zzD,zzE,zzF]
       refine wpAnyH_take (i:=1) (v:=?_) rfl (by kernel_rfl) (by kernel_rfl) (by kernel_rfl) (fun _ _ _ h=>h) (Or.inl ⟨by rfl,?_⟩) hHeld ?_
       rotate_left 1
       ·(intro w hSw;obtain⟨q0,q1,q2⟩:=hSw;obtain⟨q3,q4,q5,q6⟩:=HCC.out _ q0;go_simp;try with_reducible rfl)
       try simp only[Act.put,zzA,zzB,zzC,zzD,zzE,zzF]
       refine wpAnyH_take (i:=2) (v:=?_) rfl (by kernel_rfl) (by kernel_rfl) (by kernel_rfl) (fun _ _ _ h=>h) (Or.inl ⟨by rfl,?_⟩) hHeld ?_
       rotate_left 1
       ·(intro w hSw;obtain⟨q0,q1,q2⟩:=hSw;obtain⟨q3,q4,q5,q6⟩:=HCC.out _ q0;go_simp;try with_reducible rfl)
       try simp only[Act.put,zzA,zzB,zzC,zzD,zzE,zzF]
       refine wpAnyH_take (i:=3) (v:=?_) rfl (by kernel_rfl) (by kernel_rfl) (by kernel_rfl) (fun _ _ _ h=>h) (Or.inl ⟨by rfl,?_⟩) hHeld ?_
       rotate_left 1
       ·(intro w hSw;obtain⟨q0,q1,q2⟩:=hSw;obtain⟨q3,q4,q5,q6⟩:=HCC.out _ q0;go_simp;try with_reducible rfl)
       try simp only[Act.put,zzA,zzB,zzC,zzD,zzE,zzF]
       refine wpAnyH_take (i:=4) (v:=?_) rfl (by kernel_rfl) (by kernel_rfl) (by kernel_rfl) (fun _ _ _ h=>h) (Or.inl ⟨by rfl,?_⟩) hHeld ?_
       rotate_left 1
       ·(intro w hSw;obtain⟨q0,q1,q2⟩:=hSw;obtain⟨q3,q4,q5,q6⟩:=HCC.out _ q0;go_simp;try with_reducible rfl)
       try simp only[Act.put,zzA,zzB,zzC,zzD,zzE,zzF]
       refine wpAnyH_take (i:=5) (v:=?_) rfl (by kernel_rfl) (by kernel_rfl) (by kernel_rfl) (fun _ _ _ h=>h) (Or.inl ⟨by rfl,?_⟩) hHeld ?_
       rotate_left 1
       ·(intro w hSw;obtain⟨q0,q1,q2⟩:=hSw;obtain⟨q3,q4,q5,q6⟩:=HCC.out _ q0;go_simp;try with_reducible rfl)
       try simp only[Act.put,zzA,zzB,zzC,zzD,zzE,zzF]
       refine wpAnyH_take (i:=6) (v:=?_) rfl (by kernel_rfl) (by kernel_rfl) (by kernel_rfl) (fun _ _ _ h=>h) (Or.inl ⟨by rfl,?_⟩) hHeld ?_
       rotate_left 1
       ·(intro w hSw;obtain⟨q0,q1,q2⟩:=hSw;obtain⟨q3,q4,q5,q6⟩:=HCC.out _ q0;go_simp;try with_reducible rfl)
       try simp only[Act.put,zzA,zzB,zzC,zzD,zzE,zzF]
       refine wpAnyH_take (i:=7) (v:=?_) rfl (by kernel_rfl) (by kernel_rfl) (by kernel_rfl) (fun _ _ _ h=>h) (Or.inl ⟨by rfl,?_⟩) hHeld ?_
       rotate_left 1
       ·(intro w hSw;obtain⟨q0,q1,q2⟩:=hSw;obtain⟨q3,q4,q5,q6⟩:=HCC.out _ q0;go_simp;try with_reducible rfl)
       try simp only[Act.put,zzA,zzB,zzC,zzD,zzE,zzF]
       refine wpAnyH_take (i:=8) (v:=?_) rfl (by kernel_rfl) (by kernel_rfl) (by kernel_rfl) (fun _ _ _ h=>h) (Or.inl ⟨by rfl,?_⟩) hHeld ?_
       rotate_left 1
       ·(intro w hSw;obtain⟨q0,q1,q2⟩:=hSw;obtain⟨q3,q4,q5,q6⟩:=HCC.out _ q0;go_simp;try with_reducible rfl)
       try simp only[Act.put,zzA,zzB,zzC,zzD,zzE,zzF]
       refine wpAnyH_take (i:=9) (v:=?_) rfl (by kernel_rfl) (by kernel_rfl) (by kernel_rfl) (fun _ _ _ h=>h) (Or.inl ⟨by rfl,?_⟩) hHeld ?_
       rotate_left 1
       ·(intro w hSw;obtain⟨q0,q1,q2⟩:=hSw;obtain⟨q3,q4,q5,q6⟩:=HCC.out _ q0;go_simp;try with_reducible rfl)
       try simp only[Act.put,zzA,zzB,zzC,zzD,zzE,zzF]
       refine wpAnyH_take (i:=10) (v:=?_) rfl (by kernel_rfl) (by kernel_rfl) (by kernel_rfl) (fun _ _ _ h=>h) (Or.inl ⟨by rfl,?_⟩) hHeld ?_
       rotate_left 1
       ·(intro w hSw;obtain⟨q0,q1,q2⟩:=hSw;obtain⟨q3,q4,q5,q6⟩:=HCC.out _ q0;go_simp;try with_reducible rfl)
       try simp only[Act.put,zzA,zzB,zzC,zzD,zzE,zzF]
       refine wpAnyH_take (i:=11) (v:=?_) rfl (by kernel_rfl) (by kernel_rfl) (by kernel_rfl) (fun _ _ _ h=>h) (Or.inl ⟨by rfl,?_⟩) hHeld ?_
       rotate_left 1
       ·(intro w hSw;obtain⟨q0,q1,q2⟩:=hSw;obtain⟨q3,q4,q5,q6⟩:=HCC.out _ q0;go_simp;try with_reducible rfl)
       try simp only[Act.put,zzA,zzB,zzC,zzD,zzE,zzF]
       refine wpAnyH_take (i:=12) (v:=?_) rfl (by kernel_rfl) (by kernel_rfl) (by kernel_rfl) (fun _ _ _ h=>h) (Or.inl ⟨by rfl,?_⟩) hHeld ?_
       rotate_left 1
       ·(intro w hSw;obtain⟨q0,q1,q2⟩:=hSw;obtain⟨q3,q4,q5,q6⟩:=HCC.out _ q0;go_simp;try with_reducible rfl)
       try simp only[Act.put,zzA,zzB,zzC,zzD,zzE,zzF]
       refine wpAnyH_take (i:=13) (v:=?_) rfl (by kernel_rfl) (by kernel_rfl) (by kernel_rfl) (fun _ _ _ h=>h) (Or.inl ⟨by rfl,?_⟩) hHeld ?_
       rotate_left 1
       ·(intro w hSw;obtain⟨q0,q1,q2⟩:=hSw;obtain⟨q3,q4,q5,q6⟩:=HCC.out _ q0;go_simp;try with_reducible rfl)
       try simp only[Act.put,zzA,zzB,zzC,zzD,zzE,zzF]
       refine wpAnyH_take (i:=14) (v:=?_) rfl (by kernel_rfl) (by kernel_rfl) (by kernel_rfl) (fun _ _ _ h=>h) (Or.inl ⟨by rfl,?_⟩) hHeld ?_
       rotate_left 1
       ·(intro w hSw;obtain⟨q0,q1,q2⟩:=hSw;obtain⟨q3,q4,q5,q6⟩:=HCC.out _ q0;go_simp;try with_reducible rfl)
       try simp only[Act.put,zzA,zzB,zzC,zzD,zzE,zzF]
       refine wpAnyH_take (i:=15) (v:=?_) rfl (by kernel_rfl) (by kernel_rfl) (by kernel_rfl) (fun _ _ _ h=>h) (Or.inl ⟨by rfl,?_⟩) hHeld ?_
       rotate_left 1
       ·(intro w hSw;obtain⟨q0,q1,q2⟩:=hSw;obtain⟨q3,q4,q5,q6⟩:=HCC.out _ q0;go_simp;try with_reducible rfl)
       try simp only[Act.put,zzA,zzB,zzC,zzD,zzE,zzF]
       refine wpAnyH_take (i:=16) (v:=?_) rfl (by kernel_rfl) (by kernel_rfl) (by kernel_rfl) (fun _ _ _ h=>h) (Or.inl ⟨by rfl,?_⟩) hHeld ?_
       rotate_left 1
       ·(intro w hSw;obtain⟨q0,q1,q2⟩:=hSw;obtain⟨q3,q4,q5,q6⟩:=HCC.out _ q0;go_simp;try with_reducible rfl)
       try simp only[Act.put,zzA,zzB,zzC,zzD,zzE,zzF]
       refine wpAnyH_take (i:=17) (v:=?_) rfl (by kernel_rfl) (by kernel_rfl) (by kernel_rfl) (fun _ _ _ h=>h) (Or.inl ⟨by rfl,?_⟩) hHeld ?_
       rotate_left 1
       ·(intro w hSw;obtain⟨q0,q1,q2⟩:=hSw;obtain⟨q3,q4,q5,q6⟩:=HCC.out _ q0;go_simp;try with_reducible rfl)
       try simp only[Act.put,zzA,zzB,zzC,zzD,zzE,zzF]
       refine wpAnyH_ready (rs:=[18]) (by kernel_rfl) (by simp) (AllReadyH.cons rfl (fun K hK=>?_) AllReadyH.nil)
       clear hHeld
       go_simp
       refine hK.out _ _ (HSS.out _ (((G.refl wr).alloc _).drew)) (fun hHeld=>?_)
       clear hK K
       try simp only[Act.put,zzA,zzB,zzC,zzD,zzE,zzF]
       refine wpAnyH_ready (rs:=[19]) (by kernel_rfl) (by simp) (AllReadyH.cons rfl (fun K hK=>?_) AllReadyH.nil)
       clear hHeld
       refine(if_pos rfl).mpr ?_
       refine wp_of_exec (exec_append _ _ 95 rfl u3 (.slice (some ⟨wr.heap.size,0,none⟩) 1 1) rfl rfl 95 rfl HR9.out) ?_
       refine hK.out _ _ (HS9.out) (fun hHeld=>?_)
       clear hK K
       try simp only[Act.put,zzA,zzB,zzC,zzD,zzE,zzF]
       refine wpAnyH_take (i:=20) (v:=?_) rfl (by kernel_rfl) (by kernel_rfl) (by kernel_rfl) (fun _ _ _ h=>h) (Or.inl ⟨by rfl,?_⟩) hHeld ?_
       rotate_left 1
       ·(intro w hSw;(try dsimp only at hSw);go_simp;try with_reducible rfl)
       try simp only[Act.put,zzA,zzB,zzC,zzD,zzE,zzF]
       refine wpAnyH_done (by kernel_rfl) ?_ _
       refine NoPanic.normal ?_
       go_wp2_with fail
       exact⟨⟨j+1,HLJ.out,by rw[HWJ.out];exact rl1 j,HR2.out,HV9.out,HY9.out,HG9.out⟩,by rw[HWJ.out];exact ms_end HLJ.out⟩
      ·have hne:j=way.length:=by omega
       subst hne
       have hjI:¬((way.length:Int)<(way.length:Int)):=by omega
       rw[List.take_length,←HST.out] at how
       have HGW:=hide hgw;have HOW:=hide how;have HVR:=hide hvr
       clear hj hlj how hvr hwr hgw
       go_wp2_with fail
       exact⟨⟨n+1,HLT.out,by rw[HWN.out];exact rl1 n,HOW.out,HVR.out,HGW.out⟩,by rw[HWN.out];exact ms_end HLT.out⟩
    ·rw[if_neg hws,List.append_nil] at hst
     have HST:=hide hst
     have hwl:(0:Int)<(t.ws.length:Int):=by
      have:=List.length_pos_iff.2 hws
      omega
     have hwl2:0<t.ws.length:=List.length_pos_iff.2 hws
     have hd1:decide (0<t.ws.length)=true:=by simp[hwl2]
     clear hn hlt hx hwn hll hil hgw how hvr hst hq1 hq2 hq3 hq4 ht1 ht2 ht3 ht4 hte htx hR te hqx htx2 hev hrw kc hil2 hws
     go_wp2_with (first|(go_at_call 25;with_reducible refine(KQ.out).mono ?_;rintro e w' ⟨rfl,rfl⟩)|fail)
     go_quiet (first|(go_at_call 22;with_reducible refine Calls.quiet_of_same (KP.out _)))
     generalize hV:World.drewN w' _=V
     have HGV:Hid (G w' V):=by rw[←hV];exact(G.refl w').drewN _
     clear hV k0 k2 hbc KP KQ
     go_wp2_with fail
     exact⟨⟨n+1,HLT.out,by rw[HWN.out];exact rl1 n,by rw[HST.out];exact own_G HOW.out HGV.out,own_G HVR.out HGV.out,HGW.out.trans HGV.out⟩,by rw[HWN.out];exact ms_end HLT.out⟩
  ·have hne:n=ids.length:=by omega
   have hnI:¬((n:Int)<(ids.length:Int)):=by omega
   rw[hne,List.take_length] at how
   have hnI2:¬((ids.length:Int)<(ids.length:Int)):=by omega
   subst hne
   have HGW:=hide hgw;have HOW:=hide how
   clear hn hlt hll hil hgw how hvr
   go_wp2_with fail
   go_ret
   exact⟨_,rfl,HOW.out,HGW.out⟩
end
section
open Go.RowKit
structure PQ(w:World)(t b:Nat)(m:Ms)(L:List Int)(LR:List Rs)(s:Gs)(R:Rt)(D:Nat→Prop)(c:Nat):Prop where
 gt:GT w t s m L LR
 rt:RT w b R D
 rm:RM R m
 ap:∀k,D k→s.own k=none
 dg:¬D 1∧¬D 0
 lt:R.tx.length≤c
 la:R.hd.length+R.aq.length≤c
def PB(s:Gs)(D:Nat→Prop)(k:Nat):Prop:=s.own k≠none∨D k
section
variable {w w':World} {t b c c':Nat} {m m':Ms} {L:List Int} {LR:List Rs} {s s':Gs} {R:Rt} {D:Nat→Prop}
theorem PQ.G(h:PQ w t b m L LR s R D c)(g:Go.Proofs.YtadfaiciolfgjaaGreatDoor.G w w'):PQ w' t b m L LR s R D c:=⟨h.gt.G g,h.rt.G g,h.rm,h.ap,h.dg,h.lt,h.la⟩
theorem PQ.more(h:PQ w t b m L LR s R D c)(hc:c≤c'):PQ w t b m L LR s R D c':=⟨h.gt,h.rt,h.rm,h.ap,h.dg,Nat.le_trans h.lt hc,Nat.le_trans h.la hc⟩
theorem PQ.far(h:PQ w t b m L LR s R D c){F:Nat→Prop}(k:Chg F w w')(hF:∀i,PB s D i→¬F i)(hg:¬F 1∧¬F 0):PQ w' t b m L LR s R D c:=by
 refine⟨h.gt.chg (D:=fun i=>F i) k (fun i hi=>⟨?_,fun e=>hg.1 (e▸hi),fun e=>hg.2 (e▸hi)⟩),h.rt.chg k (fun i hi=>hF i (.inr hi)),h.rm,h.ap,h.dg,h.lt,h.la⟩
 cases e:s.own i with
 | none=>rfl
 | some tg=>exact absurd hi (hF i (.inl (by rw[e];simp)))
theorem PQ.dl(h:PQ w t b m L LR s R D c){k:Nat}(hk:PB s D k):k<w.heap.size:=by
 rcases hk with hk|hk
 ·cases e:s.own k with
  | none=>exact absurd e hk
  | some tg=>exact h.gt.tt.lt k tg e
 ·obtain⟨_,_,_,_,h9⟩:=h.rt
  exact h9.dl k hk
structure PH(w:World)(t b:Nat)(m m':Ms)(L:List Int)(LR:List Rs)(s:Gs)(R:Rt)(D:Nat→Prop)(c:Nat):Prop where
 gt:GT w t s m' L LR
 rt:RT w b R D
 rm:RM R m
 ap:∀k,D k→s.own k=none
 dg:¬D 1∧¬D 0
 lt:R.tx.length≤c
 la:R.hd.length+R.aq.length≤c
theorem PQ.prog(h:PQ w t b m L LR s R D c)(hE:Ext w w' s s')(hg:GT w' t s' m' L LR):PH w' t b m m' L LR s' R D c∧Chg (PB s D) w w'∧∀k,PB s' D k→PB s D k∨w.heap.size≤k:=by
 refine⟨⟨hg,h.rt.chg hE.chg (fun k hk hh=>hh (h.ap k hk)),h.rm,fun k hk=>hE.free (h.dl (.inr hk)) (h.ap k hk),h.dg,h.lt,h.la⟩,hE.chg.mono (fun k hk=>.inl hk),fun k hk=>?_⟩
 rcases hk with hk|hk
 ·cases e:s'.own k with
  | none=>exact absurd e hk
  | some tg=>
   rcases hE.new k tg e with h1|h1
   ·exact .inl (.inl (by rw[h1];simp))
   ·exact .inr h1
 ·exact .inl (.inr hk)
theorem PH.doc(h:PH w t b m m' L LR s R D c)(hx:RX w w' b D m' c' c'):∃R' D',PQ w' t b m' L LR s R' D' c'∧Chg (PB s D) w w'∧∀k,PB s D' k→PB s D k∨w.heap.size≤k:=by
 obtain⟨R',D',h1,h2,h3,h4,h5,h6⟩:=hx
 refine⟨R',D',⟨h.gt.chg h3 (fun k hk=>⟨h.ap k hk,fun e=>h.dg.1 (e▸hk),fun e=>h.dg.2 (e▸hk)⟩),h1,h2,fun k hk=>?_,⟨fun hk=>?_,fun hk=>?_⟩,h5,h6⟩,h3.mono (fun k hk=>.inr hk),fun k hk=>?_⟩
 ·rcases h4 k hk with h7|h7
  ·exact h.ap k h7
  ·cases e:s.own k with
   | none=>rfl
   | some tg=>have:=h.gt.tt.lt k tg e;omega
 ·rcases h4 _ hk with h7|h7
  ·exact h.dg.1 h7
  ·have:=h.gt.tb.lf;omega
 ·rcases h4 _ hk with h7|h7
  ·exact h.dg.2 h7
  ·have:=h.gt.tb.lj;omega
 ·rcases hk with hk|hk
  ·exact .inl (.inl hk)
  ·rcases h4 k hk with h7|h7
   ·exact .inl (.inr h7)
   ·exact .inr h7
theorem PH.G(h:PH w t b m m' L LR s R D c)(g:Go.Proofs.YtadfaiciolfgjaaGreatDoor.G w w'):PH w' t b m m' L LR s R D c:=⟨h.gt.G g,h.rt.G g,h.rm,h.ap,h.dg,h.lt,h.la⟩
def PN(w w':World)(t b:Nat)(L:List Int)(LR:List Rs)(s:Gs)(D:Nat→Prop)(c:Nat):Prop:=∃m' s' R' D',PQ w' t b m' L LR s' R' D' c∧Chg (PB s D) w w'∧∀k,PB s' D' k→PB s D k∨w.heap.size≤k
theorem PN.two{w1:World}{c1:Nat}(h:PQ w t b m L LR s R D c)(hE:Ext w w1 s s')(hg:GT w1 t s' m' L LR)(hd:PH w1 t b m m' L LR s' R D c→∃w2,Go.Proofs.YtadfaiciolfgjaaGreatDoor.G w1 w2∧RX w2 w' b D m' c1 c1):PN w w' t b L LR s D c1:=by
 obtain⟨h1,h2,h3⟩:=h.prog hE hg
 obtain⟨w2,g2,hx⟩:=hd h1
 obtain⟨R',D',h4,h5,h6⟩:=(h1.G g2).doc hx
 refine⟨m',s',R',D',h4,(h2.trans g2.chg).more h5 (fun i hi hk=>?_),fun k hk=>?_⟩
 ·rcases h3 i hk with h7|h7
  ·exact h7
  ·omega
 ·rcases h6 k hk with h7|h7
  ·exact h3 k h7
  ·exact .inr (Nat.le_trans (h2.trans g2.chg).size h7)
theorem PN.of_G(h:PQ w t b m L LR s R D c)(g:Go.Proofs.YtadfaiciolfgjaaGreatDoor.G w w')(hc:c≤c'):PN w w' t b L LR s D c':=⟨m,s,R,D,(h.G g).more hc,g.chg,fun _ hk=>.inl hk⟩
theorem RX.same(h:RT w b R D)(hm:RM R m)(g:Go.Proofs.YtadfaiciolfgjaaGreatDoor.G w w')(h1:R.tx.length≤c)(h2:R.hd.length+R.aq.length≤c):RX w w' b D m c c:=⟨R,D,h.G g,hm,g.chg,fun _ hk=>.inl hk,h1,h2⟩
theorem RX.le{a a':Nat}(h:RX w w' b D m c a)(h1:c≤c')(h2:a≤a'):RX w w' b D m c' a':=by
 obtain⟨R',D',k1,k2,k3,k4,k5,k6⟩:=h
 exact⟨R',D',k1,k2,k3,k4,Nat.le_trans k5 h1,Nat.le_trans k6 h2⟩
end
def AskZ(m:Ms)(x:Int)(r:Rs)(mode k:Int)(l:List Int)(c:Int)(m':Ms):Prop:=
 (m.lv x=none∧k=0∧l=[]∧c=80∧m'=m)∨∃p,m.lv x=some p∧((resB r=false∧k=0∧l=[]∧c=82∧m'=m)∨(resB r=true∧modeB mode=false∧k=0∧l=[]∧c=81∧m'=m)∨(resB r=true∧modeB mode=true∧AskK m x p r mode k l c m'))
theorem askT_one{m:Ms}{x:Int}{p:Pm}{r:Rs}{g k k2:Int}{l l2:List Int}{m1 m2:Ms}(h1:AskT m x p r g k l m1)(h2:AskT m x p r g k2 l2 m2):k=k2∧l=l2∧m1=m2:=by
 obtain⟨a1,a2,a3⟩:=h1
 obtain⟨b1,b2,b3⟩:=h2
 have hm:k=k2∧m1=m2:=by
  rcases a1 with ⟨c1,c2,c3⟩|⟨c1,c2,c3⟩<;>rcases b1 with ⟨d1,d2,d3⟩|⟨d1,d2,d3⟩
  ·exact⟨c2.trans d2.symm,c3.trans d3.symm⟩
  ·exact absurd d1 c1
  ·exact absurd c1 d1
  ·exact⟨c2.trans d2.symm,c3.trans d3.symm⟩
 refine⟨hm.1,rise_int a2 b2 (fun y=>?_),hm.2⟩
 rw[a3,b3,hm.2]
theorem askZ_one{m:Ms}{x:Int}{r:Rs}{mode k k2 c c2:Int}{l l2:List Int}{m1 m2:Ms}(h1:AskZ m x r mode k l c m1)(h2:AskZ m x r mode k2 l2 c2 m2):k=k2∧l=l2∧c=c2∧m1=m2:=by
 rcases h1 with ⟨a1,rfl,rfl,rfl,rfl⟩|⟨p,a1,a2⟩<;>rcases h2 with ⟨b1,rfl,rfl,rfl,rfl⟩|⟨q,b1,b2⟩
 ·exact⟨rfl,rfl,rfl,rfl⟩
 iterate 2
  ·rw[a1] at b1;cases b1
 ·rw[a1] at b1
  cases b1
  rcases a2 with ⟨c1,rfl,rfl,rfl,rfl⟩|⟨c1,c2,rfl,rfl,rfl,rfl⟩|⟨c1,c2,c3⟩<;>rcases b2 with ⟨d1,rfl,rfl,rfl,rfl⟩|⟨d1,d2,rfl,rfl,rfl,rfl⟩|⟨d1,d2,d3⟩
  ·exact⟨rfl,rfl,rfl,rfl⟩
  iterate 3
   ·rw[c1] at d1;cases d1
  ·exact⟨rfl,rfl,rfl,rfl⟩
  ·rw[c2] at d2;cases d2
  ·rw[c1] at d1;cases d1
  ·rw[c2] at d2;cases d2
  ·rcases c3 with ⟨e1,rfl,rfl,rfl,rfl⟩|⟨e1,rfl,e2⟩<;>rcases d3 with ⟨f1,rfl,rfl,rfl,rfl⟩|⟨f1,rfl,f2⟩
   ·exact⟨rfl,rfl,rfl,rfl⟩
   ·exact absurd f1 e1
   ·exact absurd e1 f1
   ·rcases e2 with ⟨g1,rfl,rfl,rfl⟩|⟨g1,g2⟩<;>rcases f2 with ⟨h1,rfl,rfl,rfl⟩|⟨h1,h2⟩
    ·exact⟨rfl,rfl,rfl,rfl⟩
    ·exact absurd g1 h1
    ·exact absurd h1 g1
    ·obtain⟨k1,k2,k3⟩:=askT_one g2 h2
     exact⟨k1,k2,rfl,k3⟩
section
variable {w:World} {t b c:Nat} {m m':Ms} {L:List Int} {LR:List Rs} {s:Gs} {R:Rt} {D:Nat→Prop} {x:Int} {r:Rs} {mode:Int}
def AzP(w:World)(t:Nat)(s:Gs)(m:Ms)(L:List Int)(LR:List Rs)(x:Int)(r:Rs)(mode:Int)(e:Ending)(w':World):Prop:=∃(k:Int) (u:Value) (l:List Int) (c:Int) (s':Gs) (m':Ms),e=.returned (.tuple #[I k,u,I c])∧w'.ownsRow w.heap.size 3 1 u l.length (l.map fun z=>I z)∧GT w' t s' m' L LR∧Ext w w' s s'∧AskZ m x r mode k l c m'
theorem ask_p(h:GT w t s m L LR)(hx:R64 x)(hr:r∈LR)(hro:r.ok)(hL:L.length<2000000000000)(hLR:LR.length<2000000000000):Calls prog 5 #[ptr t,I x,r.v,I mode] w (AzP w t s m L LR x r mode):=by
 cases hp:m.lv x with
 | none=>
  refine(Ask_none t s x mode r w h.tt hx (h.ab.none.2 hp)).mono ?_
  rintro e w' ⟨rfl,g⟩
  exact⟨0,_,[],80,s,m,rfl,⟨rfl,.inl ⟨rfl,rfl⟩⟩,h.G g,G.ext s g,.inl ⟨hp,rfl,rfl,rfl,rfl⟩⟩
 | some p=>
  obtain⟨q,hq,-⟩:=h.ab.of hp
  cases hb:resB r with
  | false=>
   refine(Ask_nores t s x mode r w h.tt hx hq hb).mono ?_
   rintro e w' ⟨rfl,g⟩
   exact⟨0,_,[],82,s,m,rfl,⟨rfl,.inl ⟨rfl,rfl⟩⟩,h.G g,G.ext s g,.inr ⟨p,hp,.inl ⟨hb,rfl,rfl,rfl,rfl⟩⟩⟩
  | true=>
   cases hmo:modeB mode with
   | false=>
    refine(Ask_nomode t s x mode r w h.tt hx hq hb hmo).mono ?_
    rintro e w' ⟨rfl,g⟩
    exact⟨0,_,[],81,s,m,rfl,⟨rfl,.inl ⟨rfl,rfl⟩⟩,h.G g,G.ext s g,.inr ⟨p,hp,.inr (.inl ⟨hb,hmo,rfl,rfl,rfl,rfl⟩)⟩⟩
   | true=>
    refine(Ask_t h hp ⟨hr,hro,(resB_iff r).1 hb⟩ hmo hL hLR).mono ?_
    rintro e w' ⟨k,u,l,c,s',m',rfl,h1,h2,h3,h4⟩
    exact⟨k,u,l,c,s',m',rfl,h1,h2,h3,.inr ⟨p,hp,.inr (.inr ⟨hb,hmo,h4⟩)⟩⟩
def AzR(w:World)(D:Nat→Prop)(b:Nat)(m:Ms)(x:Int)(r:Rs)(mode:Int)(c:Nat)(e:Ending)(w':World):Prop:=∃(k:Int) (u:Value) (l:List Int) (c2:Int) (m':Ms),e=.returned (.tuple #[I k,u,I c2])∧w'.ownsRow w.heap.size 3 1 u l.length (l.map fun z=>I z)∧RX w w' b D m' c c∧AskZ m x r mode k l c2 m'
theorem tx_idx(hm:RM R m){p:Pm}(hp:m.lv x=some p):∃(i:Nat) (e:Tx),idxI (fun e:Tx=>e.x==x) R.tx=(i:Int)∧R.tx[i]?=some e∧e.x=x:=by
 rcases idxI_cases (fun e:Tx=>e.x==x) R.tx with ⟨-,h2⟩|⟨i,a,h1,h2,h3,-⟩
 ·obtain⟨e,he,hex⟩:=hm.tx.all x p hp
  have:=h2 e he
  simp[hex] at this
 ·exact⟨i,a,h1,h2,by simpa using h3⟩
theorem tx_no(hm:RM R m)(hp:m.lv x=none):∀e∈R.tx,(e.x==x)=false:=fun e he=>by
 cases h:(e.x==x)with
 | false=>rfl
 | true=>
  obtain⟨p,h1,-⟩:=hm.tx.ok e he
  have:e.x=x:=by simpa using h
  rw[this,hp] at h1;cases h1
theorem ask_d(h:RT w b R D)(hm:RM R m)(hI:Iv m L LR)(hr:r∈LR)(hro:r.ok)(hL:L.length<100000000000)(h1:R.tx.length≤c)(h2:R.hd.length+R.aq.length≤c)(hc:c<200000000000):Calls prog 6 #[ptr b,I x,r.v,I mode] w (AzR w D b m x r mode (c+1)):=by
 have hl:R.tx.length<400000000000∧R.hd.length<400000000000∧R.aq.length<400000000000:=by omega
 have hl2:R.tx.length<300000000000∧R.hd.length+R.aq.length<300000000000:=by omega
 cases hp:m.lv x with
 | none=>
  refine(ask_rnone h x r mode (tx_no hm hp) hl).mono ?_
  rintro e w' ⟨rfl,g⟩
  exact⟨0,_,[],80,m,rfl,⟨rfl,.inl ⟨rfl,rfl⟩⟩,RX.same h hm g (by omega) (by omega),.inl ⟨hp,rfl,rfl,rfl,rfl⟩⟩
 | some p=>
  obtain⟨i,te,hi,-,-⟩:=tx_idx hm hp
  cases hb:resB r with
  | false=>
   refine(ask_rres h x r mode i hi hb hl).mono ?_
   rintro e w' ⟨rfl,g⟩
   exact⟨0,_,[],82,m,rfl,⟨rfl,.inl ⟨rfl,rfl⟩⟩,RX.same h hm g (by omega) (by omega),.inr ⟨p,hp,.inl ⟨hb,rfl,rfl,rfl,rfl⟩⟩⟩
  | true=>
   cases hmo:modeB mode with
   | false=>
    refine(ask_rmode h x r mode i hi hb hmo hl).mono ?_
    rintro e w' ⟨rfl,g⟩
    exact⟨0,_,[],81,m,rfl,⟨rfl,.inl ⟨rfl,rfl⟩⟩,RX.same h hm g (by omega) (by omega),.inr ⟨p,hp,.inr (.inl ⟨hb,hmo,rfl,rfl,rfl,rfl⟩)⟩⟩
   | true=>
    have hgr:GoodR r LR:=⟨hr,hro,(resB_iff r).1 hb⟩
    have fin:∀{a:Nat} (e:Ending) (w':World),a≤c+1→AkP w D b m x p r mode R.tx.length a e w'→AzR w D b m x r mode (c+1) e w':=fun e w' ha=>by
     rintro⟨k,u,l,c2,m',rfl,k1,k2,k3⟩
     exact⟨k,u,l,c2,m',rfl,k1,k2.le (by omega) ha,.inr ⟨p,hp,.inr (.inr ⟨hb,hmo,k3⟩)⟩⟩
    by_cases hg0:p.goal=0
    ·by_cases hj:joinI (p.hf r) mode=p.hf r
     ·exact(ask_rheld h hm hI hp hg0 hgr hmo i hi hl2 hj).mono fun e w' hh=>fin e w' (by omega) hh
     ·by_cases hz:p.hf r=0
      ·exact(ask_rgo_false h hm hI hp hg0 hgr hmo i hi hl2 hj hz hL).mono fun e w' hh=>fin e w' (by omega) hh
      ·exact(ask_rgo_true h hm hI hp hg0 hgr hmo i hi hl2 hj hz hL).mono fun e w' hh=>fin e w' (by omega) hh
    ·have hq:∃n:Nat,idxI (fun e:Lk=>e.x==x) R.aq=(n:Int):=by
      rcases idxI_cases (fun e:Lk=>e.x==x) R.aq with ⟨-,h4⟩|⟨n,a,h3,-⟩
      ·have hin:(x,p.goal)∈m.qs p.at_:=(hI.qm p.at_ x p.goal).2 ⟨p,hp,rfl,hg0,rfl⟩
       rw[←hm.hq.qa] at hin
       obtain⟨e,he,-,e2,-⟩:=queP_mem.1 hin
       have:=h4 e he
       simp[e2] at this
      ·exact⟨n,h3⟩
     obtain⟨n,hn⟩:=hq
     refine(ask_rque h x r mode i hi hb hmo n hn hl).mono ?_
     rintro e w' ⟨rfl,g⟩
     exact⟨0,_,[],83,m,rfl,⟨rfl,.inl ⟨rfl,rfl⟩⟩,RX.same h hm g (by omega) (by omega),.inr ⟨p,hp,.inr (.inr ⟨hb,hmo,.inl ⟨hg0,rfl,rfl,rfl,rfl⟩⟩)⟩⟩
theorem end_d(h:RT w b R D)(hm:RM R m)(hI:Iv m L LR){p:Pm}(hp:m.lv x=some p){out:List Int}(hE:EndK m x p out m')(hI2:Iv m' L LR)(hL:L.length<100000000000)(h1:R.tx.length≤c)(h2:R.hd.length+R.aq.length≤c)(hc:c<200000000000):Calls prog 9 #[ptr b,I x] w (EnP w D b out m' c c):=by
 obtain⟨i,te,hi,hte,-⟩:=tx_idx hm hp
 obtain⟨vt,vh,va,tv,hR⟩:=h
 have hil:i<tv.length:=by have:=hR.tl;have:=(List.getElem?_eq_some_iff.1 hte).1;omega
 rcases hR.rt.2 with ⟨-,h0⟩|⟨ga,cap,cur,hv,-,-,hc2,-⟩
 ·omega
 ·subst hv
  refine(end_r1 hR x i hil hc2 hi hm hI hp hE hI2 hL (by omega)).mono ?_
  rintro e w' ⟨u,v,rfl,k1,k2,k3⟩
  exact⟨u,v,rfl,k1,k2,k3.le h1 h2⟩
end
end
section
open Go.RowKit
def BegZ(m:Ms)(x st c:Int)(m':Ms):Prop:=((x<1∨st<1)∧c=1∧m'=m)∨(¬(x<1∨st<1)∧takenM m x st∧c=80∧m'=m)∨(¬(x<1∨st<1)∧¬takenM m x st∧c=0∧m'=mNew m x st)
theorem begZ_one{m:Ms}{x st c c2:Int}{m1 m2:Ms}(h1:BegZ m x st c m1)(h2:BegZ m x st c2 m2):c=c2∧m1=m2:=by
 rcases h1 with ⟨a1,rfl,rfl⟩|⟨a1,a2,rfl,rfl⟩|⟨a1,a2,rfl,rfl⟩<;>rcases h2 with ⟨b1,rfl,rfl⟩|⟨b1,b2,rfl,rfl⟩|⟨b1,b2,rfl,rfl⟩
 ·exact⟨rfl,rfl⟩
 iterate 2
  ·exact absurd a1 b1
 ·exact absurd b1 a1
 ·exact⟨rfl,rfl⟩
 ·exact absurd a2 b2
 ·exact absurd b1 a1
 ·exact absurd b2 a2
 ·exact⟨rfl,rfl⟩
section
variable {w:World} {t b c:Nat} {m:Ms} {L:List Int} {LR:List Rs} {s:Gs} {R:Rt} {D:Nat→Prop} {x st:Int}
def BzP(w:World)(t:Nat)(s:Gs)(m:Ms)(L:List Int)(LR:List Rs)(x st:Int)(e:Ending)(w':World):Prop:=∃(c:Int) (s':Gs) (m':Ms),e=.returned (I c)∧GT w' t s' m' L LR∧Ext w w' s s'∧BegZ m x st c m'
theorem begin_p(h:GT w t s m L LR)(hx:R64 x)(hxl:x∈L)(hL:L.length<2000000000000):Calls prog 71 #[ptr t,I x,I st] w (BzP w t s m L LR x st):=by
 by_cases ha:x<1∨st<1
 ·refine(Begin_arg t x st w ha).mono ?_
  rintro e w' ⟨rfl,g⟩
  exact⟨1,s,m,rfl,h.G g,G.ext s g,.inl ⟨ha,rfl,rfl⟩⟩
 ·refine(begin_t h hx (by omega) hxl (by omega) hL).mono ?_
  rintro e w' (⟨h1,rfl,g⟩|⟨h1,rfl,s',h2,h3⟩)
  ·exact⟨80,s,m,rfl,h.G g,G.ext s g,.inr (.inl ⟨ha,h1,rfl,rfl⟩)⟩
  ·exact⟨0,s',_,rfl,h2,h3,.inr (.inr ⟨ha,h1,rfl,rfl⟩)⟩
def BzR(w:World)(D:Nat→Prop)(b:Nat)(m:Ms)(x st:Int)(c:Nat)(e:Ending)(w':World):Prop:=∃(c2:Int) (m':Ms),e=.returned (I c2)∧RX w w' b D m' c c∧BegZ m x st c2 m'
theorem tak_iff(hm:RM R m):takT R.tx x st↔takenM m x st:=by
 constructor
 ·rintro⟨e,he,h⟩
  obtain⟨p,h1,h2,-⟩:=hm.tx.ok e he
  exact⟨e.x,p,h1,h.imp id (fun h=>h2.trans h)⟩
 ·rintro⟨y,p,h1,h⟩
  obtain⟨e,he,hex⟩:=hm.tx.all y p h1
  obtain⟨q,k1,k2,-⟩:=hm.tx.ok e he
  rw[hex,h1] at k1
  cases k1
  exact⟨e,he,h.imp (fun h=>hex.trans h) (fun h=>k2.symm.trans h)⟩
theorem begin_d(h:RT w b R D)(hm:RM R m)(h1:R.tx.length≤c)(h2:R.hd.length+R.aq.length≤c)(hc:c<200000000000):Calls prog 72 #[ptr b,I x,I st] w (BzR w D b m x st (c+1)):=by
 by_cases ha:x<1∨st<1
 ·refine(begin_rarg b x st w ha).mono ?_
  rintro e w' ⟨rfl,rfl⟩
  exact⟨1,m,rfl,RX.same h hm (G.refl _) (by omega) (by omega),.inl ⟨ha,rfl,rfl⟩⟩
 ·have h0:=h
  obtain⟨vt,vh,va,tv,hR⟩:=h
  refine(begin_r hR x st (by omega) (by omega) (by omega)).mono ?_
  rintro e w' (⟨k1,rfl,rfl⟩|⟨k1,rfl,D',k2,k3,k4⟩)
  ·exact⟨80,m,rfl,RX.same h0 hm (G.refl _) (by omega) (by omega),.inr (.inl ⟨ha,(tak_iff hm).1 k1,rfl,rfl⟩)⟩
  ·have hnt:¬takenM m x st:=fun hh=>k1 ((tak_iff hm).2 hh)
   have hn:m.lv x=none:=by
    cases e:m.lv x with
    | none=>rfl
    | some p=>exact absurd ⟨x,p,e,.inl rfl⟩ hnt
   refine⟨0,mNew m x st,rfl,⟨_,D',k2,⟨⟨?_,fun y p hp=>?_,fun e he=>?_⟩,?_⟩,k3,k4,?_,by show R.hd.length+R.aq.length≤_;omega⟩,.inr (.inr ⟨ha,hnt,rfl,rfl⟩)⟩
   ·show((R.tx++[(⟨x,st,[]⟩:Tx)]).map Tx.x).Nodup
    rw[List.map_append,List.nodup_append]
    refine⟨hm.tx.nd,by simp,fun a ha2 d hd e=>?_⟩
    simp at hd
    obtain⟨e9,he9,hx9⟩:=List.mem_map.1 ha2
    have:=tx_no hm hn e9 he9
    rw[hx9,e,hd] at this
    simp at this
   ·by_cases e:y=x
    ·exact⟨⟨x,st,[]⟩,List.mem_append_right _ (List.mem_singleton.2 rfl),e.symm⟩
    ·have hp2:m.lv y=some p:=by
      have h9:(mNew m x st).lv y=m.lv y:=upd_other e
      rw[←h9];exact hp
     obtain⟨a,ha2,hax⟩:=hm.tx.all y p hp2
     exact⟨a,List.mem_append_left _ ha2,hax⟩
   ·rcases List.mem_append.1 he with he|he
    ·obtain⟨p,l1,l2⟩:=hm.tx.ok e he
     have hne:e.x≠x:=fun hh=>by rw[hh,hn] at l1;cases l1
     exact⟨p,by show(upd m.lv x _) e.x=_;rw[upd_other hne];exact l1,l2⟩
    ·simp at he
     subst he
     exact⟨_,upd_same _ _ _,rfl,List.Pairwise.nil,fun z=>by simp⟩
   ·rw[mNew_hl hn];exact hm.hq
   ·show(R.tx++[(⟨x,st,[]⟩:Tx)]).length≤_
    rw[List.length_append,List.length_singleton];omega
end
theorem PN.back{w W w':World}{t b c:Nat}{L:List Int}{LR:List Rs}{s:Gs}{D:Nat→Prop}(g:G w W)(h:PN W w' t b L LR s D c):PN w w' t b L LR s D c:=by
 obtain⟨m',s',R',D',h1,h2,h3⟩:=h
 exact⟨m',s',R',D',h1,g.chg.trans h2,fun k hk=>(h3 k hk).imp id (fun h=>Nat.le_trans g.size h)⟩
theorem changes_begin{w:World}{tw t b j c:Nat}{m:Ms}{L:List Int}{LR:List Rs}{s:Gs}{R:Rt}{D:Nat→Prop}(h:PQ w t b m L LR s R D c)(who x st md:Int)(r:Rs)(hj:j<2)(hw:bits BinOp.and IntKind.i64 who 1=(j:Int))(k1:w.cell? ⟨tw,j,none⟩=some (ptr t))(k2:w.cell? ⟨tw,2+j,none⟩=some (ptr b))(htw:tw<w.heap.size)(hx:R64 x)(hxl:x∈L)(hr:r∈LR)(hro:r.ok)(hL:L.length<100000000000)(hLR:LR.length<2000000000000)(hc:c<200000000000):Calls prog 37 #[ptr tw,.agg #[I 1,I who,I x,I st,I r.lv,.string r.lb,I r.id,I md]] w fun e w'=>e=.returned (.bool true)∧PN w w' t b L LR s D (c+1):=by
 have HG1:Hid (G w (w.alloc (.cells #[I 1,I who,I x,I st,I r.lv,.string r.lb,I r.id,I md] 35))):=(G.refl w).alloc _
 have HB1:Hid (Blk (w.alloc (.cells #[I 1,I who,I x,I st,I r.lv,.string r.lb,I r.id,I md] 35)) w.heap.size 35 [I 1,I who,I x,I st,I r.lv,.string r.lb,I r.id,I md]):=Blk.new w _ 35
 have hbx:=HB1.out.cell
 have q1:(w.alloc (.cells #[I 1,I who,I x,I st,I r.lv,.string r.lb,I r.id,I md] 35)).cell? ⟨tw,j,none⟩=some (ptr t):=(HG1.out.cell htw).trans k1
 have q2:(w.alloc (.cells #[I 1,I who,I x,I st,I r.lv,.string r.lb,I r.id,I md] 35)).cell? ⟨tw,2+j,none⟩=some (ptr b):=(HG1.out.cell htw).trans k2
 have hjI:(j:Int)<2:=by omega
 have hj0:(0:Int)≤(j:Int):=by omega
 have HH:=hide h;have HX:=hide hx;have HXL:=hide hxl;have HR:=hide hr;have HRO:=hide hro;have HL:=hide hL;have HLR:=hide hLR;have HC:=hide hc;have HTW:=hide htw;have HK1:=hide k1;have HK2:=hide k2
 clear h hx hxl hr hro hL hLR hc k1 k2 hj
 go_enter func37,ntmps37
 go_wp2_with fail
 go_quiet (fail)
 go_wp2_with fail
 go_quiet (fail)
 generalize hV:(((w.alloc (.cells #[I 1,I who,I x,I st,I r.lv,.string r.lb,I r.id,I md] 35))).drewN _).drewN _=V
 have HV:Hid (G w V):=by rw[←hV];exact(HG1.out.drewN _).drewN _
 have HBV:Hid (Blk V w.heap.size 35 [I 1,I who,I x,I st,I r.lv,.string r.lb,I r.id,I md]):=by rw[←hV];exact(HB1.out.drewN _).drewN _
 clear hV hbx q1 q2 HG1 HB1 hw htw
 obtain⟨bx,hbxe⟩:∃bx,bx=w.heap.size:=⟨_,rfl⟩
 have HBE:=hide hbxe
 rw[←hbxe] at HBV⊢
 clear hbxe
 have HBN:Hid (¬PB s D bx):=fun hh=>by have h1:=HH.out.dl hh;have h2:=HBE.out;omega
 have c0:=HBV.out.cell
 go_wp2_with fail
 clear c0
 refine wp_region_noPanic ?_
 refine wp_region_held_drew (S:=(fun U=>∀o,U.cell? ⟨bx,o,none⟩=([I 1,I who,I x,I st,I r.lv,.string r.lb,I r.id,I md]:List Value)[o]?)) (by kernel_rfl) ((HBV.out.drew).cell) (fun hHeld=>?_)
 refine wpAnyH_take (i:=0) (v:=?_) rfl (by kernel_rfl) (by kernel_rfl) (by kernel_rfl) (fun _ _ _ h=>h) (Or.inl ⟨by rfl,?_⟩) hHeld ?_
 rotate_left 1
 ·(intro w hSw;have c0:=hSw;go_simp;try with_reducible rfl)
 try simp only[Act.put,zzA,zzB,zzD,zzE,zzF]
 refine wpAnyH_take (i:=1) (v:=?_) rfl (by kernel_rfl) (by kernel_rfl) (by kernel_rfl) (fun _ _ _ h=>h) (Or.inl ⟨by rfl,?_⟩) hHeld ?_
 rotate_left 1
 ·(intro w hSw;have c0:=hSw;go_simp;try with_reducible rfl)
 try simp only[Act.put,zzA,zzB,zzC,zzD,zzE,zzF]
 refine wpAnyH_take (i:=2) (v:=?_) rfl (by kernel_rfl) (by kernel_rfl) (by kernel_rfl) (fun _ _ _ h=>h) (Or.inl ⟨by rfl,?_⟩) hHeld ?_
 rotate_left 1
 ·(intro w hSw;have c0:=hSw;go_simp;try with_reducible rfl)
 try simp only[Act.put,zzA,zzB,zzC,zzD,zzE,zzF]
 refine wpAnyH_take (i:=3) (v:=?_) rfl (by kernel_rfl) (by kernel_rfl) (by kernel_rfl) (fun _ _ _ h=>h) (Or.inl ⟨by rfl,?_⟩) hHeld ?_
 rotate_left 1
 ·(intro w hSw;have c0:=hSw;go_simp;try with_reducible rfl)
 try simp only[Act.put,zzA,zzB,zzC,zzD,zzE,zzF]
 refine wpAnyH_take (i:=4) (v:=?_) rfl (by kernel_rfl) (by kernel_rfl) (by kernel_rfl) (fun _ _ _ h=>h) (Or.inl ⟨by rfl,?_⟩) hHeld ?_
 rotate_left 1
 ·(intro w hSw;have c0:=hSw;go_simp;try with_reducible rfl)
 try simp only[Act.put,zzA,zzB,zzC,zzD,zzE,zzF]
 refine wpAnyH_take (i:=6) (v:=?_) rfl (by kernel_rfl) (by kernel_rfl) (by kernel_rfl) (fun _ _ _ h=>h) (Or.inl ⟨by rfl,?_⟩) hHeld ?_
 rotate_left 1
 ·(intro w hSw;have c0:=hSw;go_simp;try with_reducible rfl)
 try simp only[Act.put,zzA,zzB,zzC,zzD,zzE,zzF]
 refine wpAnyH_take (i:=7) (v:=?_) rfl (by kernel_rfl) (by kernel_rfl) (by kernel_rfl) (fun _ _ _ h=>h) (Or.inl ⟨by rfl,?_⟩) hHeld ?_
 rotate_left 1
 ·(intro w hSw;have c0:=hSw;go_simp;try with_reducible rfl)
 try simp only[Act.put,zzA,zzB,zzC,zzD,zzE,zzF]
 refine wpAnyH_take (i:=8) (v:=?_) rfl (by kernel_rfl) (by kernel_rfl) (by kernel_rfl) (fun _ _ _ h=>h) (Or.inl ⟨by rfl,?_⟩) hHeld ?_
 rotate_left 1
 ·(intro w hSw;have c0:=hSw;go_simp;try with_reducible rfl)
 try simp only[Act.put,zzA,zzB,zzC,zzD,zzE,zzF]
 refine wpAnyH_take (i:=9) (v:=?_) rfl (by kernel_rfl) (by kernel_rfl) (by kernel_rfl) (fun _ _ _ h=>h) (Or.inl ⟨by rfl,?_⟩) hHeld ?_
 rotate_left 1
 ·(intro w hSw;have c0:=hSw;go_simp;try with_reducible rfl)
 try simp only[Act.put,zzA,zzB,zzC,zzD,zzE,zzF]
 refine wpAnyH_take (i:=10) (v:=?_) rfl (by kernel_rfl) (by kernel_rfl) (by kernel_rfl) (fun _ _ _ h=>h) (Or.inl ⟨by rfl,?_⟩) hHeld ?_
 rotate_left 1
 ·(intro w hSw;have c0:=hSw;go_simp;try with_reducible rfl)
 try simp only[Act.put,zzA,zzB,zzC,zzD,zzE,zzF]
 refine wpAnyH_ready (rs:=[5]) (by kernel_rfl) (by simp) (AllReadyH.cons rfl (fun K hK=>?_) AllReadyH.nil)
 clear hHeld
 go_simp
 refine(begin_p (HH.out.G (HV.out.drew)).gt HX.out HXL.out (by have:=HL.out;omega)).mono ?_
 rintro e w3 ⟨c3,s3,m3,rfl,g3,e3,z3⟩
 have HE3:=hide e3;have HG3:=hide g3;have HZ3:=hide z3
 have HP3:=hide ((HH.out.G (HV.out.drew)).prog e3 g3)
 have HB3:=hide ((HBV.out.drew).chg HP3.out.2.1 HBN.out)
 clear e3 g3 z3
 refine hK.out _ _ (HB3.out.cell) (fun hHeld=>?_)
 clear hK K
 try simp only[Act.put,zzA,zzB,zzC,zzD,zzE,zzF]
 refine wpAnyH_ready (rs:=[11]) (by kernel_rfl) (by simp) (AllReadyH.cons rfl (fun K hK=>?_) AllReadyH.nil)
 clear hHeld
 go_simp
 refine(begin_d HP3.out.1.rt HP3.out.1.rm HP3.out.1.lt HP3.out.1.la HC.out).mono ?_
 rintro e w4 ⟨c4,m4,rfl,x4,z4⟩
 obtain⟨e1,e2⟩:=begZ_one HZ3.out z4
 subst e1 e2
 have HX4:=hide x4
 have HN4:Hid (PN w w4 t b L LR s D (c+1)):=PN.back HV.out.drew (PN.two (HH.out.G (HV.out.drew)) HE3.out HG3.out (fun _=>⟨w3,G.refl _,x4⟩))
 have HB4:Hid (Blk w4 bx 35 [I 1,I who,I x,I st,I r.lv,.string r.lb,I r.id,I md]):=by
  obtain⟨_,_,_,_,k3,_⟩:=x4
  exact HB3.out.chg k3 (fun hh=>HBN.out (by
   rcases HP3.out.2.2 bx (.inr hh)with h9|h9
   ·exact h9
   ·have h10:=HBV.out.lt;have h11:bx<V.heap.size:=h10;have h12:V.drew.heap.size≤bx:=h9;exact absurd h12 (Nat.not_le.2 h11)))
 clear x4 z4
 refine hK.out _ _ (HB4.out.cell) (fun hHeld=>?_)
 clear hK K
 try simp only[Act.put,zzA,zzB,zzC,zzD,zzE,zzF]
 refine wpAnyH_take (i:=12) (v:=?_) rfl (by kernel_rfl) (by kernel_rfl) (by kernel_rfl) (fun _ _ _ h=>h) (Or.inl ⟨by rfl,?_⟩) hHeld ?_
 rotate_left 1
 ·(intro w hSw;(try dsimp only at hSw);go_simp;try with_reducible rfl)
 try simp only[Act.put,zzA,zzB,zzC,zzD,zzE,zzF]
 refine wpAnyH_take (i:=13) (v:=?_) rfl (by kernel_rfl) (by kernel_rfl) (by kernel_rfl) (fun _ _ _ h=>h) (Or.inl ⟨by rfl,?_⟩) hHeld ?_
 rotate_left 1
 ·(intro w hSw;(try dsimp only at hSw);go_simp;try with_reducible rfl)
 try simp only[Act.put,zzA,zzB,zzC,zzD,zzE,zzF]
 refine wpAnyH_done (by kernel_rfl) ?_ _
 refine NoPanic.normal ?_
 go_wp2_with fail
 go_ret
 exact⟨rfl,HN4.out⟩
end
section
open Go.RowKit
theorem PN.G{w w' w2:World}{t b c:Nat}{L:List Int}{LR:List Rs}{s:Gs}{D:Nat→Prop}(h:PN w w' t b L LR s D c)(g:Go.Proofs.YtadfaiciolfgjaaGreatDoor.G w' w2):PN w w2 t b L LR s D c:=by
 obtain⟨m',s',R',D',h1,h2,h3⟩:=h
 exact⟨m',s',R',D',h1.G g,h2.trans g.chg,h3⟩
theorem askZ_len{m m':Ms}{L:List Int}{LR:List Rs}{x:Int}{r:Rs}{mode k c:Int}{l:List Int}(h:Iv m L LR)(hz:AskZ m x r mode k l c m'):l.length≤L.length:=by
 rcases hz with ⟨-,-,rfl,-⟩|⟨p,-,⟨-,-,rfl,-⟩|⟨-,-,-,rfl,-⟩|⟨-,-,⟨-,-,-,rfl,-⟩|⟨-,-,⟨-,-,rfl,-⟩|⟨-,-,h1,h2⟩⟩⟩⟩
 iterate 5
  ·exact Nat.zero_le _
 ·exact nodup_sub_le0 l L (rise_nodup h1) (fun y hy=>by
   obtain⟨b,-,hb,-⟩:=(h2 y).1 hy
   exact(h.lv y b hb).xl)
theorem endK_len{m m':Ms}{L:List Int}{LR:List Rs}{x:Int}{p:Pm}{out:List Int}(h:Iv m L LR)(hz:EndK m x p out m'):out.length≤L.length:=by
 obtain⟨rs,-,-,-,-,h5,-,-,h8⟩:=hz
 exact nodup_sub_le0 out L h5 (fun y hy=>by
  obtain⟨b,hb,-⟩:=h8 y hy
  exact(h.lv y b (mDel_lv.1 hb).2).xl)
theorem row_stay{W w w':World}{t b c lo e k n:Nat}{m:Ms}{L:List Int}{LR:List Rs}{s:Gs}{R:Rt}{D:Nat→Prop}{v:Value}{xs:List Value}(hp:PQ W t b m L LR s R D c)(h:w.ownsRow lo e k v n xs)(hlo:W.heap.size≤lo)(hc:Chg D w w'):w'.ownsRow lo e k v n xs:=own_chg h hc (fun g hg hd=>by
 have h1:=(World.ownsRow.lt h g hg).1
 have h2:=hp.dl (.inr hd)
 omega)
end
end Go.Proofs.YtadfaiciolfgjaaGreatDoor
