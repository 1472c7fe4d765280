import Derived.Shelf.SlicesE.Compact
import Derived.Lib.SlicesCompact
import Derived.Test.YtadfaiciolfgjaaGreatDoorLk80
import Derived.Test.YtadfaiciolfgjaaGreatDoorShCo
import Derived.Test.YtadfaiciolfgjaaGreatDoorLk76
namespace Go.Proofs.YtadfaiciolfgjaaGreatDoor
open Go.Proofs.Tryz
set_option maxHeartbeats 1000000
set_option maxRecDepth 100000
section
open Go.RowKit Go.Sort Go.Shelf
def cmp(zs:List Int):List Int:=Lib.compact zs
theorem cmp_upto(d:Array Int):∀m,m≤d.size→(∀i j,i≤j→j<d.size→d[i]!≤d[j]!)→(Lib.compactUpTo d m).Pairwise (·<·)∧(∀y∈Lib.compactUpTo d m,∃j,j<m∧d[j]! = y)∧∀j,j<m→d[j]!∈Lib.compactUpTo d m
 | 0,_,_=>⟨by simp[Lib.compactUpTo],fun y hy=>by simp[Lib.compactUpTo] at hy,fun j hj=>by omega⟩
 | m+1,hm,hs=>by
  obtain⟨h1,h2,h3⟩:=cmp_upto d m (by omega) hs
  rw[Lib.compactUpTo_succ]
  by_cases hk:Lib.keeps d m=true
  ·rw[if_pos hk]
   have hlt:∀y∈Lib.compactUpTo d m,y<d[m]!:=fun y hy=>by
    obtain⟨j,hj,rfl⟩:=h2 y hy
    have a1:=hs j (m-1) (by omega) (by omega)
    have a2:=hs (m-1) m (by omega) (by omega)
    have a3:d[m]!≠d[m-1]!:=by
     unfold Lib.keeps at hk
     rcases of_decide_eq_true hk with e|e
     ·omega
     ·exact e
    omega
   refine⟨?_,fun y hy=>?_,fun j hj=>?_⟩
   ·rw[List.pairwise_append]
    exact⟨h1,List.pairwise_singleton _ _,fun a ha b hb=>by rw[List.mem_singleton.1 hb];exact hlt a ha⟩
   ·rcases List.mem_append.1 hy with hy|hy
    ·obtain⟨j,hj,e⟩:=h2 y hy
     exact⟨j,by omega,e⟩
    ·exact⟨m,by omega,(List.mem_singleton.1 hy).symm⟩
   ·rw[List.mem_append]
    by_cases e:j=m
    ·subst e;exact .inr (List.mem_singleton.2 rfl)
    ·exact .inl (h3 j (by omega))
  ·rw[if_neg hk,List.append_nil]
   have hne:¬(m=0∨d[m]!≠d[m-1]!):=fun e=>hk (by unfold Lib.keeps;exact decide_eq_true e)
   rw[not_or] at hne
   have e1:d[m]! = d[m-1]!:=Decidable.byContradiction fun e=>hne.2 e
   refine⟨h1,fun y hy=>?_,fun j hj=>?_⟩
   ·obtain⟨j,hj,e⟩:=h2 y hy
    exact⟨j,by omega,e⟩
   ·by_cases e:j=m
    ·subst e
     rw[e1]
     exact h3 (j-1) (by have:=hne.1;omega)
    ·exact h3 j (by omega)
theorem cmp_srt(zs:List Int):(cmp (srt zs)).Pairwise (·<·)∧∀y,y∈cmp (srt zs)↔y∈zs:=by
 have hup:=srt_up zs
 have hget:∀(i:Nat) (h:i<(srt zs).length),(srt zs).toArray[i]! = (srt zs)[i]:=fun i h=>by simp[h]
 obtain⟨h1,h2,h3⟩:=cmp_upto (srt zs).toArray (srt zs).length (by simp) (fun i j hij hj=>by
  have hj':j<(srt zs).length:=by simpa using hj
  rw[hget i (by omega),hget j hj']
  by_cases e:i=j
  ·subst e;exact Int.le_refl _
  ·exact List.pairwise_iff_getElem.1 hup i j (by omega) hj' (by omega))
 refine⟨h1,fun y=>⟨fun hy=>?_,fun hy=>?_⟩⟩
 ·obtain⟨j,hj,e⟩:=h2 y hy
  rw[hget j hj] at e
  exact(srt_perm zs).mem_iff.1 (by rw[←e];exact List.getElem_mem hj)
 ·obtain⟨j,hj,e⟩:=List.mem_iff_getElem.1 ((srt_perm zs).mem_iff.2 hy)
  rw[←e,←hget j hj]
  exact h3 j hj
theorem cmp_len(zs:List Int):(cmp zs).length≤zs.length:=by
 unfold cmp Lib.compact Lib.compactUpTo
 rw[List.length_map]
 exact Nat.le_trans (List.length_filter_le _ _) (by simp)
theorem compact_row(W:World)(lo:Nat)(v:Value)(zs:List Int)(h:W.ownsRow lo 3 1 v zs.length (zs.map fun z=>I z))(hl:zs.length<4611686018427387904) :
  Calls prog 104 #[v] W fun e W'=>∃v',e=.returned v'∧W'.ownsRow lo 3 1 v' (cmp zs).length ((cmp zs).map fun z=>I z)∧Chg (fun k=>v.ownBlock=some k) W W':=by
 rcases h.2 with ⟨rfl,h0⟩|⟨g,cap,cur,rfl,hlo,hg,hc,hm,hs,ht⟩
 ·have hz:zs=[]:=List.eq_nil_of_length_eq_zero h0
  subst hz
  go_enter func104,ntmps104
  go_wp2
  go_ret
  exact⟨_,rfl,h,Chg.refl _ _⟩
 ·have hH:Holds (Value.int .i64) W g 0 zs.toArray:=holds_of_blockI hg (by rw[Nat.mul_one] at ht;exact ht)
  have:=AnyE.slices_Compact Tryz.compI (Value.int .i64) (fun _=>rfl) (EqlAt.intD _ _ _) (NeqAt.intD _ _ _) (0:Int) (by exact zeroValue3) g 0 cap zs.toArray W hH (by simp;omega) (by simpa using hc)
  simp only[List.size_toArray] at this
  refine Calls.mono this ?_
  rintro e W' ⟨rfl,q,rfl⟩
  have hcl:=cmp_len zs
  have hlen:(Lib.compactUpTo zs.toArray zs.length++List.replicate (zs.length-(Lib.compactUpTo zs.toArray zs.length).length) (0:Int)).length=zs.length:=by
   rw[List.length_append,List.length_replicate]
   have:(Lib.compactUpTo zs.toArray zs.length).length≤zs.length:=hcl
   omega
  have hrow:=ownsRow_sortedI (w:=W) (n:=q) (os:=#[]) (ss:=zs) hlen hlo hg hc hm hs
  have hgr:=grownBy_sortedI (w:=W) (g:=g) (n:=q) (os:=#[]) (Lib.compactUpTo zs.toArray zs.length++List.replicate (zs.length-(Lib.compactUpTo zs.toArray zs.length).length) (0:Int)).toArray
  have he:∀w:World,grow w #[]=w:=fun w=>by simp[grow]
  rw[he] at hrow hgr
  refine⟨_,rfl,?_,⟨hgr.os,hgr.tape,hgr.output,hgr.size,fun k hk hn=>hgr.block k hk (fun e=>hn e.symm)⟩⟩
  rcases hrow.2 with ⟨e,-⟩|⟨g',cap',cur',e,a1,a2,a3,a4,a5,a6⟩
  ·cases e
  ·cases e
   refine⟨by simp,.inr ⟨g,cap,cur',rfl,a1,a2,Nat.le_trans hcl hc,a4,a5,?_⟩⟩
   have:(cur'.toList.take (zs.length*1)).take (cmp zs).length=((Lib.compactUpTo zs.toArray zs.length++List.replicate (zs.length-(Lib.compactUpTo zs.toArray zs.length).length) (0:Int)).map (Value.int .i64)).take (cmp zs).length:=by rw[a6]
   rw[List.take_take,Nat.mul_one,Nat.min_eq_left hcl,List.map_append,List.take_append_of_le_length (by rw[List.length_map];exact Nat.le_refl _)] at this
   have e2:((Lib.compactUpTo zs.toArray zs.length).map (Value.int .i64)).take (cmp zs).length=(Lib.compactUpTo zs.toArray zs.length).map (Value.int .i64):=List.take_of_length_le (by rw[List.length_map];exact Nat.le_refl _)
   rw[e2] at this
   rw[Nat.mul_one]
   exact this
theorem index_any(w:World)(v:Value)(qs:List (Int×Int))(x g:Int)(hq:QSl w v qs)(i:Nat)(hi:qs[i]?=some (x,g))(hno:∀j,j<i→qs[j]?≠some (x,g)) :
  Calls prog 105 #[v,.agg #[I x,I g]] w fun e w'=>e=.returned (I (i:Int))∧G w w':=by
 rcases hq with ⟨-,rfl⟩|⟨gb,cap,rest,rfl,hb,hl,hm⟩
 ·simp at hi
 have hil:=(List.getElem?_eq_some_iff.1 hi).1
 have hmx:maxLen≤9223372036854775807:=of_decide_eq_true (by kernel_rfl)
 have HIL:=hide hil
 have HB:=hide hb
 have HX:=hide (Blk.new w [I x,I g] 68)
 have HG:Hid (G w (w.alloc (.cells #[I x,I g] 68))):=(G.refl w).alloc _
 have HI:=hide hi;have HNO:=hide hno
 have HQL:Hid (qs.length≤9223372036854775807):=by show _≤_;omega
 clear hi hno hb hl hm hil hmx
 go_enter func105,ntmps105
 go_wp2_with fail
 generalize w.alloc (.cells #[I x,I g] 68)=w1 at HX HG⊢
 generalize w.heap.size=xb at HX⊢
 go_loopw [8] (fun iv wr=>∃j:Nat,j≤i∧iv=I (j:Int)∧G w1 wr) (fun iv _=>qs.length-(RowKit.intOf iv).toNat)
 case atStart=>exact⟨0,Nat.zero_le _,rfl,G.refl _⟩
 case round=>
  obtain⟨j,hj,rfl,hgj⟩:=hrel
  have hil:=HIL.out
  have hjl:j<qs.length:=by omega
  have hjI:(j:Int)<(qs.length:Int):=by omega
  obtain⟨⟨y,gy⟩,hy⟩:∃a,qs[j]?=some a:=⟨_,List.getElem?_eq_getElem hjl⟩
  obtain⟨k1,k2⟩:=qc_at qs rest j y gy hy
  have c1:=((HB.out.G (HG.out.trans hgj)).cell (j*2)).trans k1
  have c2:=((HB.out.G (HG.out.trans hgj)).cell (j*2+1)).trans k2
  have c3:=(HX.out.G hgj).cell
  have hwj:wrap64 ((j:Int)+1)=(j:Int)+1:=by have:=HQL.out;unfold wrap64;omega
  have HWJ:=hide hwj
  have HGJ:=hide hgj
  have HJL:=hide hjl
  by_cases e1:x=y
  ·subst e1
   by_cases e2:g=gy
   ·subst e2
    have hji:j=i:=by
     refine Decidable.byContradiction fun e=>?_
     exact HNO.out j (by omega) hy
    subst hji
    clear hgj hjl hj hil hy k1 k2 hwj
    go_wp2
    go_quiet (fail)
    generalize hV:World.drewN wr _=V
    have HGV:Hid (G w1 V):=by rw[←hV];exact HGJ.out.drewN _
    clear hV c1 c2 c3
    go_wp2
    go_ret
    exact⟨rfl,HG.out.trans HGV.out⟩
   ·have hji:j<i:=by
     refine Decidable.byContradiction fun e=>?_
     have e3:j=i:=by omega
     rw[e3,HI.out] at hy
     cases hy
     exact e2 rfl
    have d1:(g==gy)=false:=by simp[e2]
    have d2:decide (g=gy)=false:=by simp[e2]
    have HJI:=hide hji
    clear hgj hjl hj hil hy k1 k2 hwj hji
    go_wp2
    go_quiet (fail)
    generalize hV:World.drewN wr _=V
    have HGV:Hid (G w1 V):=by rw[←hV];exact HGJ.out.drewN _
    clear hV c1 c2 c3
    go_wp2
    exact⟨⟨j+1,HJI.out,by rw[HWJ.out];exact rl1 j,HGV.out⟩,by rw[HWJ.out];exact ms_end HJL.out⟩
  ·have hji:j<i:=by
    refine Decidable.byContradiction fun e=>?_
    have e3:j=i:=by omega
    rw[e3,HI.out] at hy
    cases hy
    exact e1 rfl
   have d1:(x==y)=false:=by simp[e1]
   have d2:decide (x=y)=false:=by simp[e1]
   have HJI:=hide hji
   clear hgj hjl hj hil hy k1 k2 hwj hji
   go_wp2
   go_quiet (fail)
   generalize hV:World.drewN wr _=V
   have HGV:Hid (G w1 V):=by rw[←hV];exact HGJ.out.drewN _
   clear hV c1 c2 c3
   go_wp2
   exact⟨⟨j+1,HJI.out,by rw[HWJ.out];exact rl1 j,HGV.out⟩,by rw[HWJ.out];exact ms_end HJL.out⟩
end
section
open Go.RowKit
theorem wf_mem(t:Nat)(s:Gs)(x:Int)(p:Pt)(q:Pl)(i:Nat)(L:List Int)(w:World)(h:TT w t s)(ht:Tb w)(hx:R64 x)(hp:s.lv x=some p)(hat:p.at_.ok)(hq:s.pl p.at_=some q)(hi:q.qs[i]?=some (x,p.goal))(hno:∀j,j<i→q.qs[j]?≠some (x,p.goal))(hL:∀y,q.hf y≠0→y∈L)(hR:∀y,q.hf y≠0→R64 y)(hlq:q.qs.length≤maxLen)(hN:L.length+q.qs.length<4200000000000) :
  Calls prog 84 #[ptr t,I x] w fun e w'=>∃(v:Value) (ws:List Int),e=.returned v∧ws.Pairwise (·<·)∧(∀y,y∈ws↔inW q.hf q.qs x p.goal i y)∧w'.ownsRow w.heap.size 3 1 v ws.length (ws.map fun z=>I z)∧G w w'∧ws.length≤L.length+q.qs.length:=by
 have hil:=(List.getElem?_eq_some_iff.1 hi).1
 have HBD:Hid (i≤q.qs.length∧(∀y,q.hf y≠0→y∈L)∧(∀y,q.hf y≠0→R64 y)∧q.qs.length≤maxLen∧L.length+q.qs.length<4200000000000):=⟨Nat.le_of_lt hil,hL,hR,hlq,hN⟩
 have hc:=h.tb.cell
 have hl1:=h.lm.look kyI underlying78 (zeroValue55 w) (kyI_ok.2 hx)
 rw[hp] at hl1
 simp only[Option.map_some,Option.getD_some] at hl1
 have hl2:=h.pm.lookN kyR underlying79 zeroValue84 (kyR_ok.2 hat)
 rw[hq] at hl2
 simp only[Option.map_some,Option.getD_some,Rs.v] at hl2
 have hpc:=(h.pt x p hp).blk.cell
 simp only[Pt.cells] at hpc
 obtain⟨qa,qn,qcap,hqv⟩:=qsl_form (h.pl _ q hq).q
 have HT:=hide h;have HTB:=hide ht;have HP:=hide hp;have HQ:=hide hq;have HI:=hide hi;have HNO:=hide hno;have HQV:=hide hqv
 clear h ht hp hq hi hno hqv hx hat hil hL hR hlq hN
 go_enter func84,ntmps84
 go_wp2
 go_quiet (fail)
 generalize hV:World.drewN w _=V
 have HGV:Hid (G w V):=by rw[←hV];exact(G.refl w).drewN _
 clear hV hc hl1 hl2 hpc
 have hpc:=((HT.out.G HGV.out).pt x p HP.out).blk.cell
 simp only[Pt.cells] at hpc
 go_wp2_with fail
 go_upto_region 4 with fail
 obtain⟨w2,hw2⟩:∃w2,w2=V.alloc (.cells #[I x,I p.goal] 68):=⟨_,rfl⟩
 rw[←hw2]
 have HX2:Hid (Blk w2 V.heap.size 68 [I x,I p.goal]):=by rw[hw2];exact Blk.new V _ 68
 have HGW:Hid (G w w2):=by rw[hw2];exact HGV.out.alloc _
 clear hw2 hpc
 generalize V.heap.size=xb at HX2⊢
 have HT2:Hid (TT w2 t s∧Tb w2):=⟨HT.out.G HGW.out,HTB.out.G HGW.out⟩
 have HCC:Hid (∀U,G w2 U→(∀o,U.cell? ⟨xb,o,none⟩=([I x,I p.goal]:List Value)[o]?)∧∀o,U.cell? ⟨q.blk,o,none⟩=([.map (some q.hb),.slice qa qn qcap]:List Value)[o]?):=fun U gU=>⟨(HX2.out.G gU).cell,by have:=((HT2.out.1.G gU).pl _ q HQ.out).blk.cell;rw[HQV.out] at this;exact this⟩
 have KI:Hid (∀U,G w2 U→Calls prog 105 #[.slice qa qn qcap,.agg #[I x,I p.goal]] U fun e w'=>e=.returned (I (i:Int))∧G U w'):=fun U gU=>by
  rw[←HQV.out]
  exact index_any U q.q q.qs x p.goal ((HT2.out.1.G gU).pl _ q HQ.out).q i HI.out HNO.out
 refine wp_region_noPanic ?_
 refine wp_region_held_drew (S:=(fun U=>G w2 U)) (by kernel_rfl) ((G.refl w2).drew) (fun hHeld=>?_)
 refine wpAnyH_take (i:=0) (v:=?_) rfl (by kernel_rfl) (by kernel_rfl) (by kernel_rfl) (fun _ _ _ h=>h) (Or.inl ⟨by rfl,?_⟩) hHeld ?_
 rotate_left 1
 ·(intro w hSw;obtain⟨q1,q2⟩:=HCC.out _ hSw;go_simp;try with_reducible rfl)
 try simp only[Act.put,zzA,zzB,zzD,zzE,zzF]
 refine wpAnyH_take (i:=1) (v:=?_) rfl (by kernel_rfl) (by kernel_rfl) (by kernel_rfl) (fun _ _ _ h=>h) (Or.inl ⟨by rfl,?_⟩) hHeld ?_
 rotate_left 1
 ·(intro w hSw;obtain⟨q1,q2⟩:=HCC.out _ hSw;go_simp;try with_reducible rfl)
 try simp only[Act.put,zzA,zzB,zzC,zzD,zzE,zzF]
 refine wpAnyH_take (i:=2) (v:=?_) rfl (by kernel_rfl) (by kernel_rfl) (by kernel_rfl) (fun _ _ _ h=>h) (Or.inl ⟨by rfl,?_⟩) hHeld ?_
 rotate_left 1
 ·(intro w hSw;obtain⟨q1,q2⟩:=HCC.out _ hSw;go_simp;try with_reducible rfl)
 try simp only[Act.put,zzA,zzB,zzC,zzD,zzE,zzF]
 refine wpAnyH_take (i:=3) (v:=?_) rfl (by kernel_rfl) (by kernel_rfl) (by kernel_rfl) (fun _ _ _ h=>h) (Or.inl ⟨by rfl,?_⟩) hHeld ?_
 rotate_left 1
 ·(intro w hSw;obtain⟨q1,q2⟩:=HCC.out _ hSw;go_simp;try with_reducible rfl)
 try simp only[Act.put,zzA,zzB,zzC,zzD,zzE,zzF]
 refine wpAnyH_take (i:=4) (v:=?_) rfl (by kernel_rfl) (by kernel_rfl) (by kernel_rfl) (fun _ _ _ h=>h) (Or.inl ⟨by rfl,?_⟩) hHeld ?_
 rotate_left 1
 ·(intro w hSw;obtain⟨q1,q2⟩:=HCC.out _ hSw;go_simp;try with_reducible rfl)
 try simp only[Act.put,zzA,zzB,zzC,zzD,zzE,zzF]
 refine wpAnyH_take (i:=5) (v:=?_) rfl (by kernel_rfl) (by kernel_rfl) (by kernel_rfl) (fun _ _ _ h=>h) (Or.inl ⟨by rfl,?_⟩) hHeld ?_
 rotate_left 1
 ·(intro w hSw;obtain⟨q1,q2⟩:=HCC.out _ hSw;go_simp;try with_reducible rfl)
 try simp only[Act.put,zzA,zzB,zzC,zzD,zzE,zzF]
 refine wpAnyH_take (i:=6) (v:=?_) rfl (by kernel_rfl) (by kernel_rfl) (by kernel_rfl) (fun _ _ _ h=>h) (Or.inl ⟨by rfl,?_⟩) hHeld ?_
 rotate_left 1
 ·(intro w hSw;obtain⟨q1,q2⟩:=HCC.out _ hSw;go_simp;try with_reducible rfl)
 try simp only[Act.put,zzA,zzB,zzC,zzD,zzE,zzF]
 refine wpAnyH_ready (rs:=[7]) (by kernel_rfl) (by simp) (AllReadyH.cons rfl (fun K hK=>?_) AllReadyH.nil)
 have hgc:=hHeld
 clear hHeld
 go_simp
 with_reducible refine(KI.out _ hgc).mono ?_
 rintro e w3 ⟨rfl,hg3⟩
 have HG3:=hide (hgc.trans hg3)
 clear hg3 hgc
 refine hK.out _ _ (HG3.out) (fun hHeld=>?_)
 clear hK K
 try simp only[Act.put,zzA,zzB,zzC,zzD,zzE,zzF]
 refine wpAnyH_ready (rs:=[8]) (by kernel_rfl) (by simp) (AllReadyH.cons rfl (fun K hK=>?_) AllReadyH.nil)
 clear hHeld
 go_simp
 refine(inway_any q x p.goal i w3).mono ?_
 rintro e w4 ⟨rfl,rfl⟩
 have HW4:Hid (Way (wayW w3 q x p.goal i) w3.heap.size (w3.heap.size+1) (w3.heap.size+2) q x p.goal i∧G w2 (wayW w3 q x p.goal i)):=by
  have gy:G w3 (wayW w3 q x p.goal i):=(((G.refl _).alloc _).alloc _).alloc _
  have h3:=HT2.out.1.G HG3.out
  exact⟨way_of x p.goal i (HT2.out.2.G HG3.out) (h3.pl _ q HQ.out).blk (h3.pl _ q HQ.out).hm (h3.pl _ q HQ.out).q,HG3.out.trans gy⟩
 generalize wayW w3 q x p.goal i=w4 at HW4⊢
 refine hK.out _ _ (HW4.out.2) (fun hHeld=>?_)
 clear hK K
 try simp only[Act.put,zzA,zzB,zzC,zzD,zzE,zzF]
 refine wpAnyH_ready (rs:=[9]) (by kernel_rfl) (by simp) (AllReadyH.cons rfl (fun K hK=>?_) AllReadyH.nil)
 clear hHeld
 go_simp
 refine(sod_any _ _ _ i q x p.goal L w4 HW4.out.1 HBD.out.1 HBD.out.2.1 HBD.out.2.2.1 HBD.out.2.2.2.1 HBD.out.2.2.2.2).mono ?_
 rintro e w5 ⟨v5,xs,rfl,hS5,hrow5,hg5,hle5⟩
 obtain⟨va5,vc5,rfl⟩:=row_form hrow5
 have H5:Hid (((∀y∈xs,inW q.hf q.qs x p.goal i y)∧∀y,inW q.hf q.qs x p.goal i y→y∈xs)∧w5.ownsRow w.heap.size 3 1 (.slice va5 xs.length vc5) xs.length ((srt xs).map fun z=>I z)∧xs.length≤L.length+q.qs.length):=⟨hS5,own_lo hrow5 (by have:=(HGW.out.trans HW4.out.2).size;omega),hle5⟩
 have HG5:=hide (HW4.out.2.trans hg5)
 have HLO5:Hid (∀k,(Value.slice va5 xs.length vc5).ownBlock=some k→w2.heap.size≤k):=fun k hk=>by have h1:=(World.ownsRow.lt hrow5 k hk).1;have h2:=HW4.out.2.size;omega
 clear hS5 hrow5 hg5 hle5
 refine hK.out _ _ (HG5.out) (fun hHeld=>?_)
 clear hK K
 try simp only[Act.put,zzA,zzB,zzC,zzD,zzE,zzF]
 refine wpAnyH_ready (rs:=[10]) (by kernel_rfl) (by simp) (AllReadyH.cons rfl (fun K hK=>?_) AllReadyH.nil)
 clear hHeld
 go_simp
 have hr5:=H5.out.2.1
 rw[←srt_len xs] at hr5
 have KC:=hide (compact_row w5 w.heap.size _ (srt xs) hr5 (by rw[srt_len];have:=H5.out.2.2;have:=HBD.out.2.2.2.2;omega))
 rw[srt_len xs] at KC
 clear hr5
 with_reducible refine KC.out.mono ?_
 rintro e w6 ⟨v6,rfl,hrow6,hc6⟩
 obtain⟨va6,vc6,rfl⟩:=row_form hrow6
 have H6:=hide hrow6
 have HG6:Hid (G w2 w6):=HG5.out.of_chg' hc6 (fun k hk=>HLO5.out k hk)
 clear hrow6 hc6 KC
 refine hK.out _ _ (HG6.out) (fun hHeld=>?_)
 clear hK K
 try simp only[Act.put,zzA,zzB,zzC,zzD,zzE,zzF]
 refine wpAnyH_take (i:=11) (v:=?_) rfl (by kernel_rfl) (by kernel_rfl) (by kernel_rfl) (fun _ _ _ h=>h) (Or.inl ⟨by rfl,?_⟩) hHeld ?_
 rotate_left 1
 ·(intro w hSw;(try dsimp only at hSw);go_simp;try with_reducible rfl)
 try simp only[Act.put,zzA,zzB,zzC,zzD,zzE,zzF]
 refine wpAnyH_done (by kernel_rfl) ?_ _
 refine NoPanic.normal ?_
 clear hHeld
 go_wp2_with fail
 go_ret
 obtain⟨c1,c2⟩:=cmp_srt xs
 refine⟨_,cmp (srt xs),rfl,c1,fun y=>?_,H6.out,HGW.out.trans HG6.out,?_⟩
 ·rw[c2 y]
  exact⟨H5.out.1.1 y,H5.out.1.2 y⟩
 ·have h1:=cmp_len (srt xs)
  rw[srt_len] at h1
  have h2:=H5.out.2.2
  omega
theorem nodup_sub_le0:∀(l L:List Int),l.Nodup→(∀a∈l,a∈L)→l.length≤L.length
 | [],L,_,_=>Nat.zero_le _
 | a::l,L,hn,hs=>by
  have ha:=hs a (List.mem_cons_self ..)
  have hp:=(List.perm_cons_erase ha).length_eq
  have h1:=nodup_sub_le0 l (L.erase a) (List.nodup_cons.1 hn).2 (fun c hc=>(List.mem_erase_of_ne (fun e=>(List.nodup_cons.1 hn).1 (by rw[←e];exact hc))).2 (hs c (List.mem_cons_of_mem _ hc)))
  rw[hp]
  simp only[List.length_cons]
  omega
def Wy(m:Ms)(x:Int)(p:Pm)(y:Int):Prop:=∃i,(m.qs p.at_)[i]?=some (x,p.goal)∧inW (m.hl p.at_) (m.qs p.at_) x p.goal i y
theorem waitedFor_t{w:World}{t:Nat}{s:Gs}{m:Ms}{L:List Int}{LR:List Rs}{x:Int}{pm:Pm}(h:GT w t s m L LR)(hpm:m.lv x=some pm)(hg:pm.goal≠0)(hL:L.length<2000000000000) :
  Calls prog 84 #[ptr t,I x] w fun e w'=>∃(v:Value) (ws:List Int),e=.returned v∧ws.Pairwise (·<·)∧(∀y,y∈ws↔Wy m x pm y)∧w'.ownsRow w.heap.size 3 1 v ws.length (ws.map fun z=>I z)∧G w w'∧ws.length≤2*L.length:=by
 have hpi:=h.iv.lv x pm hpm
 obtain⟨p,hp,rfl⟩:=h.ab.of hpm
 have hmem:(x,p.goal)∈m.qs p.at_:=(h.iv.qm p.at_ x p.goal).2 ⟨p.m,hpm,rfl,hg,rfl⟩
 obtain⟨i,hi⟩:=List.mem_iff_getElem?.1 hmem
 obtain⟨q,hq⟩:∃q,s.pl p.at_=some q:=by
  cases e:s.pl p.at_ with
  | some q=>exact⟨q,rfl⟩
  | none=>
   have:=(h.ab.no _ e).2
   rw[this] at hmem;cases hmem
 obtain⟨y1,y2,-⟩:=h.ab.yes _ q hq
 have hno:∀j,j<i→(m.qs p.at_)[j]?≠some (x,p.goal):=fun j hj e=>by have:=nodup_at (h.iv.qn p.at_) hi e;omega
 have hql:(m.qs p.at_).length≤L.length:=by
  have:=nodup_sub_le0 ((m.qs p.at_).map Prod.fst) L (h.iv.qn p.at_) (fun a ha=>by
   obtain⟨⟨u,g⟩,hu,rfl⟩:=List.mem_map.1 ha
   obtain⟨b,hb,-⟩:=(h.iv.qm p.at_ u g).1 hu
   exact(h.iv.lv u b hb).xl)
  rw[List.length_map] at this
  exact this
 have hmx:(4100000000000:Nat)≤maxLen:=of_decide_eq_true (by kernel_rfl)
 refine(wf_mem t s x p q i L w h.tt h.tb hpi.xr hp (hpi.g1 hg).2.2.1 hq (by rw[y2];exact hi) (fun j hj=>by rw[y2];exact hno j hj) (fun y hy=>?_) (fun y hy=>?_) (by rw[y2];omega) (by rw[y2];omega)).mono ?_
 ·rw[y1] at hy
  obtain⟨b,hb,-⟩:=hl_live hy
  exact(h.iv.lv y b hb).xl
 ·rw[y1] at hy
  obtain⟨b,hb,-⟩:=hl_live hy
  exact(h.iv.lv y b hb).xr
 ·rintro e w' ⟨v,ws,rfl,a1,a2,a3,a4,a5⟩
  rw[y2] at a5
  refine⟨v,ws,rfl,a1,fun y=>?_,a3,a4,by omega⟩
  rw[a2 y,y1,y2]
  constructor
  ·exact fun hh=>⟨i,hi,hh⟩
  ·rintro⟨j,hj,hh⟩
   have:j=i:=nodup_at (h.iv.qn p.at_) hj hi
   rw[this] at hh
   exact hh
end
section
open Go.RowKit
def Wt(m:Ms)(a:Int×Int×Rs):Prop:=∃p,m.lv a.1=some p∧p.goal≠0∧p.hurt=false∧Wy m a.1 p a.2.1∧a.2.2=p.at_
def wLt(a b:Int×Int×Rs):Prop:=a.1<b.1∨(a.1=b.1∧a.2.1<b.2.1)
structure WtP(m:Ms)(ids:List Int)(wl:List (Int×Int×Rs)):Prop where
 mem:∀a,a∈wl↔a.1∈ids∧Wt m a
 ord:wl.Pairwise wLt
theorem WtP.nil(m:Ms):WtP m [] []:=⟨fun a=>⟨fun h=>(by cases h),fun h=>by cases h.1⟩,List.Pairwise.nil⟩
section
variable {m:Ms} {ids:List Int} {wl:List (Int×Int×Rs)} {n:Nat} {x:Int} {p:Pm}
theorem take_one{ids:List Int}{n:Nat}{x:Int}(h:ids[n]?=some x):ids.take (n+1)=ids.take n++[x]:=by rw[List.take_add_one,h];rfl
theorem WtP.skip(h:WtP m (ids.take n) wl)(hx:ids[n]?=some x)(hp:m.lv x=some p)(hn:p.goal=0∨p.hurt=true):WtP m (ids.take (n+1)) wl:=by
 refine⟨fun a=>?_,h.ord⟩
 rw[h.mem a,take_one hx,List.mem_append,List.mem_singleton]
 constructor
 ·exact fun hh=>⟨.inl hh.1,hh.2⟩
 ·rintro⟨h1|h1,h2⟩
  ·exact⟨h1,h2⟩
  ·obtain⟨q,hq,k1,k2,-⟩:=h2
   rw[h1,hp] at hq
   cases hq
   rcases hn with hn|hn
   ·exact absurd hn k1
   ·rw[k2] at hn;cases hn
theorem WtP.add(h:WtP m (ids.take n) wl)(hids:ids.Pairwise (·<·))(hx:ids[n]?=some x)(hp:m.lv x=some p)(hg:p.goal≠0)(hh:p.hurt=false){ws:List Int}(hws:ws.Pairwise (·<·))(hwm:∀y,y∈ws↔Wy m x p y):WtP m (ids.take (n+1)) (wl++ws.map fun y=>(x,y,p.at_)):=by
 refine⟨fun a=>?_,?_⟩
 ·rw[List.mem_append,h.mem a,take_one hx,List.mem_append,List.mem_singleton]
  constructor
  ·rintro(hh|hh)
   ·exact⟨.inl hh.1,hh.2⟩
   ·obtain⟨y,hy,rfl⟩:=List.mem_map.1 hh
    exact⟨.inr rfl,p,hp,hg,by assumption,(hwm y).1 hy,rfl⟩
  ·rintro⟨h1|h1,h2⟩
   ·exact .inl ⟨h1,h2⟩
   ·obtain⟨q,hq,-,-,k3,k4⟩:=h2
    rw[h1] at hq k3
    rw[hp] at hq
    cases hq
    refine .inr (List.mem_map.2 ⟨a.2.1,(hwm _).2 k3,?_⟩)
    rw[←k4,←h1]
 ·rw[List.pairwise_append]
  refine⟨h.ord,?_,fun a ha b hb=>?_⟩
  ·rw[List.pairwise_map]
   exact hws.imp (fun hlt=>.inr ⟨rfl,hlt⟩)
  ·obtain⟨y,hy,rfl⟩:=List.mem_map.1 hb
   have h1:=((h.mem a).1 ha).1
   obtain⟨j,hj⟩:=List.mem_iff_getElem?.1 h1
   rw[List.getElem?_take] at hj
   by_cases hjn:j<n
   ·rw[if_pos hjn] at hj
    obtain⟨l1,e1⟩:=List.getElem?_eq_some_iff.1 hj
    obtain⟨l2,e2⟩:=List.getElem?_eq_some_iff.1 hx
    have:=List.pairwise_iff_getElem.1 hids j n l1 l2 hjn
    rw[e1,e2] at this
    exact .inl this
   ·rw[if_neg hjn] at hj;cases hj
end
def WaP(w:World)(m:Ms)(ids:List Int)(e:Ending)(w':World):Prop:=∃(v:Value) (wl:List (Int×Int×Rs)),e=.returned v∧WtP m ids wl∧w'.ownsRow w.heap.size 101 5 v wl.length (gc wl)∧Go.Proofs.YtadfaiciolfgjaaGreatDoor.G w w'∧wl.length<2000000000000
theorem waits_t{w:World}{t:Nat}{s:Gs}{m:Ms}{L:List Int}{LR:List Rs}{live:List (Int×Int)}(h:GT w t s m L LR)(hb:Bk m live)(hl:live.length<2000000000000)(hL:L.length<2000000000000)(hLL:live.length*L.length<2000000000000) :
  Calls prog 48 #[ptr t] w (WaP w m (srt (live.map fun a=>a.1))):=by
 have KL:=hide (live_t h hb hl)
 have hlen:(srt (live.map fun a=>a.1)).length=live.length:=by rw[srt_len,List.length_map]
 have hids:=srt_lt hb.nd
 have hidm:∀x∈srt (live.map fun a=>a.1),∃p,m.lv x=some p:=fun x hx=>by
  obtain⟨⟨u,st⟩,hu,rfl⟩:=List.mem_map.1 ((srt_perm _).mem_iff.1 hx)
  obtain⟨p,hp,-⟩:=(hb.mem u st).1 hu
  exact⟨p,hp⟩
 have HT:=hide h;have HL:=hide hL
 rw[←hlen] at hl hLL KL
 clear h hb hL hlen
 change (srt (live.map Prod.fst)).Pairwise (·<·)at hids
 generalize srt (live.map fun a=>a.1)=ids at KL hl hLL hids hidm⊢
 have HLN:=hide hl;have HLL:=hide hLL;have HID:=hide hids;have HIM:=hide hidm
 clear hl hLL hids hidm
 go_enter func48,ntmps48
 go_wp2_with (first|(go_at_call 45;refine Hid.out ?_)|fail)
 unfold Hid
 refine KL.out.mono ?_
 rintro e w1 ⟨vl,rfl,hrow,hg1⟩
 obtain⟨la,lc,rfl⟩:=row_form hrow
 have HROW:=hide hrow;have HG1:=hide hg1
 clear hrow hg1 KL
 go_wp2_with fail
 go_loopw [3,12] (fun ov iv wr=>∃(n:Nat) (wl:List (Int×Int×Rs)),n≤ids.length∧iv=I (n:Int)∧wr.ownsRow w1.heap.size 101 5 ov wl.length (gc wl)∧WtP m (ids.take n) wl∧wl.length≤n*L.length∧G w1 wr) (fun _ iv _=>ids.length-(RowKit.intOf iv).toNat)
 case atStart=>exact⟨0,[],Nat.zero_le _,rfl,⟨rfl,.inl ⟨rfl,rfl⟩⟩,WtP.nil m,Nat.zero_le _,G.refl _⟩
 case round=>
  obtain⟨n,wl,hn,rfl,hrw,hwt,hwl,hgw⟩:=hrel
  by_cases hlt:n<ids.length
  ·obtain⟨x,hx⟩:∃a,ids[n]?=some a:=⟨_,List.getElem?_eq_getElem hlt⟩
   obtain⟨p,hp⟩:=HIM.out x (List.mem_of_getElem? hx)
   obtain⟨ga,hga,kx⟩:=int_at (own_G HROW.out hgw) hx
   subst hga
   have hT:=(HT.out.G HG1.out).G hgw
   obtain⟨pt,hpt,rfl⟩:=hT.ab.of hp
   have hxr:=(hT.iv.lv x pt.m hp).xr
   have hc:=hT.tt.tb.cell
   have hl1:=hT.tt.lm.look kyI underlying78 (zeroValue55 wr) (kyI_ok.2 hxr)
   rw[hpt] at hl1
   simp only[Option.map_some,Option.getD_some] at hl1
   have hpc:=(hT.tt.pt x pt hpt).blk.cell
   simp only[Pt.cells] at hpc
   have KI:=hide (isWounded_any pt wr (hT.tt.pt x pt hpt).blk (hT.tt.pt x pt hpt).wm (fun y hy=>((hT.iv.lv x pt.m hp).wd y hy).1))
   have hnI:(n:Int)<(ids.length:Int):=by omega
   have hwn:wrap64 ((n:Int)+1)=(n:Int)+1:=by have:=HLN.out;unfold wrap64;omega
   have hsz:wl.length≤(n+1)*L.length:=Nat.le_trans hwl (Nat.mul_le_mul_right _ (Nat.le_succ n))
   have HWN:=hide hwn;have HLT:=hide hlt;have HX:=hide hx;have HP:=hide hp;have HPT:=hide hpt;have HTW:=hide hT;have HGW:=hide hgw;have HRW:=hide hrw;have HWT:=hide hwt;have HWL:=hide hwl;have HSZ:=hide hsz
   clear hwn hlt hx hp hpt hT hgw hrw hwt hwl hn hxr hsz
   by_cases hg:pt.goal=0
   ·have HSK:=hide (HWT.out.skip HX.out HP.out (.inl hg))
    have g1:(pt.goal==0)=true:=by simp[hg]
    rw[hg] at hpc
    clear hg
    go_wp2
    exact⟨⟨n+1,wl,HLT.out,by rw[HWN.out];exact rl1 n,HRW.out,HSK.out,HSZ.out,HGW.out⟩,by rw[HWN.out];exact ms_end HLT.out⟩
   ·have g1:(pt.goal==0)=false:=by simp[hg]
    have g2:decide (pt.goal=0)=false:=by simp[hg]
    have HGO:=hide hg
    cases hh:pt.hurt with
    | true=>
     have HSK:=hide (HWT.out.skip HX.out HP.out (.inr (by rw[Pt.m_hurt];exact hh)))
     rw[hh] at KI
     clear hh
     go_wp2_with (first|(go_at_call 83;with_reducible refine KI.out.mono ?_;rintro e w' ⟨rfl,hw'⟩;have hw2:=hw'.symm;subst hw2;clear hw')|fail)
     exact⟨⟨n+1,wl,HLT.out,by rw[HWN.out];exact rl1 n,HRW.out,HSK.out,HSZ.out,HGW.out⟩,by rw[HWN.out];exact ms_end HLT.out⟩
    | false=>
     rw[hh] at KI
     have HHU:Hid (pt.m.hurt=false):=by rw[Hid,Pt.m_hurt];exact hh
     have KF:=hide (waitedFor_t HTW.out HP.out HGO.out HL.out)
     clear hh
     go_wp2_with (first|(go_at_call 83;with_reducible refine KI.out.mono ?_;rintro e w' ⟨rfl,hw'⟩;have hw2:=hw'.symm;subst hw2;clear hw')|(go_at_call 84;refine Hid.out ?_)|fail)
     unfold Hid
     refine KF.out.mono ?_
     rintro e w2 ⟨vw,ws,rfl,ws1,ws2,ws3,ws4,-⟩
     obtain⟨ua,uc,rfl⟩:=row_form ws3
     have hwsL:ws.length≤L.length:=nodup_sub_le0 ws L (ws1.imp (fun h e=>by omega)) (fun y hy=>by
      obtain⟨i,hi,hw⟩:=(ws2 y).1 hy
      obtain⟨-,b,hb⟩:=HTW.out.iv.way (fun j g' hj hj2=>by have:=nodup_at (HTW.out.iv.qn _) hi hj2;omega) hw
      exact(HTW.out.iv.lv y b hb).xl)
     have HAD:=hide (HWT.out.add HID.out HX.out HP.out HGO.out HHU.out ws1 ws2)
     have hbnd:wl.length+ws.length≤(n+1)*L.length:=by rw[Nat.succ_mul];have:=HWL.out;omega
     have hbnd2:(n+1)*L.length≤ids.length*L.length:=Nat.mul_le_mul_right _ HLT.out
     have HBN:=hide hbnd
     have HBT:Hid (wl.length+ws.length<2000000000000):=by show _<_;have:=HLL.out;omega
     have HWR:Hid (w2.ownsRow w1.heap.size 3 1 (.slice ua ws.length uc) ws.length (ws.map fun z=>I z)):=own_lo ws3 HGW.out.size
     have HG2:Hid (G w1 w2):=HGW.out.trans ws4
     have HR2:=hide (own_G HRW.out ws4)
     clear ws1 ws2 ws3 ws4 KF KI hwsL hbnd hbnd2 hc hl1 hpc kx HWT HWL HSZ HRW HGW HTW HLL
     go_wp2_with fail
     go_loopw [3,35] (fun ov jv wi=>∃j:Nat,j≤ws.length∧jv=I (j:Int)∧wi.ownsRow w1.heap.size 101 5 ov (wl++(ws.take j).map fun y=>(x,y,pt.at_)).length (gc (wl++(ws.take j).map fun y=>(x,y,pt.at_)))∧wi.ownsRow w1.heap.size 3 1 (.slice ua ws.length uc) ws.length (ws.map fun z=>I z)∧G w1 wi) (fun _ jv _=>ws.length-(RowKit.intOf jv).toNat)
     case atStart=>exact⟨0,Nat.zero_le _,rfl,by simpa using HR2.out,HWR.out,HG2.out⟩
     case round=>
      obtain⟨j,hj,rfl,hro,hrs,hgj⟩:=hrel
      by_cases hjl:j<ws.length
      ·obtain⟨y,hy⟩:∃a,ws[j]?=some a:=⟨_,List.getElem?_eq_getElem hjl⟩
       obtain⟨gb,hgb,ky⟩:=int_at hrs hy
       subst hgb
       have hjI:(j:Int)<(ws.length:Int):=by omega
       have hwj:wrap64 ((j:Int)+1)=(j:Int)+1:=by have:=HBT.out;unfold wrap64;omega
       have hpc:=(((HT.out.G HG1.out).G hgj).tt.pt x pt HPT.out).blk.cell
       simp only[Pt.cells] at hpc
       have hlj:(wl++(ws.take j).map fun y=>(x,y,pt.at_)).length<2199023255552:=by
        rw[List.length_append,List.length_map,List.length_take]
        have:=HBT.out
        omega
       obtain⟨v9,w9,r1,r2,r3⟩:=app_gol wr w1.heap.size u3 _ (x,y,pt.at_) hro hlj hgj.size
       have hsn:(wl++(ws.take j).map fun y=>(x,y,pt.at_))++[(x,y,pt.at_)]=wl++(ws.take (j+1)).map fun y=>(x,y,pt.at_):=by
        rw[take_one hy,List.map_append,List.append_assoc];rfl
       rw[hsn] at r2
       have HR1:=hide r1
       have HR9:=hide r2
       have HG9:Hid (G w1 w9):=grown_G (hgj.alloc _) r3 (fun k hk=>(World.ownsRow.lt hro k hk).1)
       have HS9:Hid (w9.ownsRow w1.heap.size 3 1 (.slice (some ⟨gb,0,none⟩) ws.length uc) ws.length (ws.map fun z=>I z)):=own_chg (F:=fun k=>u3.ownBlock=some k) (own_G hrs ((G.refl wr).alloc _)) ⟨r3.os,r3.tape,r3.output,r3.size,fun k hk hn=>r3.block k hk (fun e=>hn e.symm)⟩ (fun k hk e=>own_apart hrs hro (by decide) k hk e)
       have HWJ:=hide hwj;have HJL:=hide hjl
       clear r1 r2 r3 hsn hlj hro hrs hgj hwj hjl hj hy
       go_wp2_with (first|(at_builtin;refine wpList_append_run rfl _ _ 95 rfl _ _ rfl rfl HR1.out ?_)|fail)
       exact⟨⟨j+1,HJL.out,by rw[HWJ.out];exact rl1 j,HR9.out,HS9.out,HG9.out⟩,by rw[HWJ.out];exact ms_end HJL.out⟩
      ·have hne:j=ws.length:=by omega
       subst hne
       have hjI:¬((ws.length:Int)<(ws.length:Int)):=by omega
       rw[List.take_length] at hro
       have HRO:=hide hro;have HGJ:=hide hgj
       clear hj hjl hro hrs hgj
       go_wp2
       exact⟨⟨n+1,_,HLT.out,by rw[HWN.out];exact rl1 n,HRO.out,HAD.out,by rw[List.length_append,List.length_map];exact HBN.out,HGJ.out⟩,by rw[HWN.out];exact ms_end HLT.out⟩
  ·have hne:n=ids.length:=by omega
   subst hne
   have hnI:¬((ids.length:Int)<(ids.length:Int)):=by omega
   rw[List.take_length] at hwt
   have HR:Hid (wr.ownsRow w.heap.size 101 5 u3 wl.length (gc wl)):=own_lo hrw HG1.out.size
   have HF:Hid (WtP m ids wl∧G w wr∧wl.length<2000000000000):=⟨hwt,HG1.out.trans hgw,by have:=HLL.out;omega⟩
   clear hn hlt hrw hwt hwl hgw
   go_wp2
   go_ret
   exact⟨_,wl,rfl,HF.out.1,HR.out,HF.out.2.1,HF.out.2.2⟩
end
section
open Go.RowKit
structure HdP(m:Ms)(r:Rs)(hs:List (Int×Int)):Prop where
 mem:∀a c,(a,c)∈hs↔c=m.hl r a∧c≠0
 ord:(hs.map Prod.fst).Pairwise (·<·)
def HoP(w:World)(m:Ms)(r:Rs)(L:List Int)(e:Ending)(w':World):Prop:=∃(v:Value) (hs:List (Int×Int)),e=.returned v∧HdP m r hs∧w'.ownsRow w.heap.size 68 2 v hs.length (qc hs)∧Go.Proofs.YtadfaiciolfgjaaGreatDoor.G w w'∧hs.length≤L.length
def QuP(w:World)(m:Ms)(r:Rs)(e:Ending)(w':World):Prop:=∃v,e=.returned v∧w'.ownsRow w.heap.size 68 2 v (m.qs r).length (qc (m.qs r))∧Go.Proofs.YtadfaiciolfgjaaGreatDoor.G w w'
section
variable {w:World} {t:Nat} {s:Gs} {m:Ms} {L:List Int} {LR:List Rs} {r:Rs}
theorem qs_len(h:GT w t s m L LR)(r:Rs):(m.qs r).length≤L.length:=by
 have:=nodup_sub_le0 ((m.qs r).map Prod.fst) L (h.iv.qn r) (fun a ha=>by
  obtain⟨⟨u,g⟩,hu,rfl⟩:=List.mem_map.1 ha
  obtain⟨b,hb,-⟩:=(h.iv.qm r u g).1 hu
  exact(h.iv.lv u b hb).xl)
 rw[List.length_map] at this
 exact this
theorem holders_t(h:GT w t s m L LR)(hr:r.ok)(hL:L.length<2000000000000):Calls prog 40 #[ptr t,.agg #[I r.lv,.string r.lb,I r.id]] w (HoP w m r L):=by
 cases e:s.pl r with
 | none=>
  refine Calls.mono (holders_none t s r w h.tt hr e) ?_
  rintro e w' ⟨rfl,g⟩
  refine⟨_,[],rfl,⟨fun a c=>⟨fun hh=>(by cases hh),fun hh=>?_⟩,List.Pairwise.nil⟩,⟨rfl,.inl ⟨rfl,rfl⟩⟩,g,Nat.zero_le _⟩
  rw[(h.ab.no r e).1 a] at hh
  exact absurd hh.1 hh.2
 | some q=>
  obtain⟨y1,-,-⟩:=h.ab.yes r q e
  obtain⟨l,l1,l2,l3⟩:=fin_list (fun a=>q.hf a≠0) L
  have hm:∀a,a∈srt l↔q.hf a≠0:=fun a=>by
   rw[(srt_perm l).mem_iff,l2 a]
   refine⟨fun hh=>hh.2,fun hh=>⟨?_,hh⟩⟩
   rw[y1] at hh
   obtain⟨b,hb,-⟩:=hl_live hh
   exact(h.iv.lv a b hb).xl
  refine Calls.mono (holders_any t s r q (srt l) w h.tt hr e (srt_lt l1) (fun a=>by
   rw[hm a]
   refine⟨fun hh=>⟨?_,hh⟩,fun hh=>hh.2⟩
   rw[y1] at hh
   obtain⟨b,hb,-⟩:=hl_live hh
   exact(h.iv.lv a b hb).xr) (by rw[srt_len];omega)) ?_
  rintro e w' ⟨v,rfl,hrow,g⟩
  refine⟨v,(srt l).map fun a=>(a,q.hf a),rfl,⟨fun a c=>?_,?_⟩,by rw[List.length_map];exact hrow,g,by rw[List.length_map,srt_len];exact l3⟩
  ·rw[←y1]
   constructor
   ·intro hh
    obtain⟨b,hb,e2⟩:=List.mem_map.1 hh
    cases e2
    exact⟨rfl,(hm a).1 hb⟩
   ·rintro⟨rfl,h2⟩
    exact List.mem_map.2 ⟨a,(hm a).2 h2,rfl⟩
  ·rw[List.map_map]
   have:(Prod.fst∘fun a=>(a,q.hf a))=id:=rfl
   rw[this,List.map_id]
   exact srt_lt l1
theorem queue_t(h:GT w t s m L LR)(hr:r.ok)(hL:L.length<2000000000000):Calls prog 42 #[ptr t,.agg #[I r.lv,.string r.lb,I r.id]] w (QuP w m r):=by
 cases e:s.pl r with
 | none=>
  refine Calls.mono (queue_none t s r w h.tt hr e) ?_
  rintro e w' ⟨rfl,g⟩
  rw[QuP,(h.ab.no r e).2]
  exact⟨_,rfl,⟨rfl,.inl ⟨rfl,rfl⟩⟩,g⟩
 | some q=>
  obtain⟨-,y2,-⟩:=h.ab.yes r q e
  have hql:=qs_len h r
  refine Calls.mono (queue_any t s r q w h.tt hr e (by rw[y2];omega)) ?_
  rintro e w' ⟨v,rfl,hrow,g⟩
  rw[y2] at hrow
  exact⟨v,rfl,hrow,g⟩
theorem rc_cell{w:World}{lo:Nat}{va:Option Addr}{vn vc:Nat}{l:List Rs}(h:w.ownsRow lo 33 3 (.slice va vn vc) l.length (rc l)){n:Nat}{a:Rs}(ha:l[n]?=some a):∃ga,va=some ⟨ga,0,none⟩∧w.cell? ⟨ga,n*3,none⟩=some (I a.lv)∧w.cell? ⟨ga,n*3+1,none⟩=some (.string a.lb)∧w.cell? ⟨ga,n*3+2,none⟩=some (I a.id):=by
 have hlt:=(List.getElem?_eq_some_iff.1 ha).1
 rcases h.2 with ⟨e,e2⟩|⟨ga,cap,cur,e,-⟩
 ·omega
 ·have e3:va=some ⟨ga,0,none⟩:=by cases e;rfl
  rw[e] at h
  exact⟨ga,e3,by rw[h.cellAt _ (by omega)];exact rc_at l n a ha 0 _ rfl,by rw[h.cellAt _ (by omega)];exact rc_at l n a ha 1 _ rfl,by rw[h.cellAt _ (by omega)];exact rc_at l n a ha 2 _ rfl⟩
end
end
section
open Go.RowKit
structure Lk where
 x:Int
 r:Rs
 c:Int
 up:Bool
def Lk.cs(l:Lk):List Value:=[I l.x,I l.r.lv,.string l.r.lb,I l.r.id,I l.c,.bool l.up]
def lkc(l:List Lk):List Value:=l.flatMap Lk.cs
structure Tx where
 x:Int
 st:Int
 ws:List Int
def txC(e:Tx×Value):List Value:=[I e.1.x,I e.1.st,e.2]
def txc(l:List (Tx×Value)):List Value:=l.flatMap txC
theorem flat_at{α:Type}(f:α→List Value)(k:Nat)(hf:∀a,(f a).length=k):∀(l:List α) (n:Nat) (a:α) (j:Nat),l[n]?=some a→j<k→(l.flatMap f)[n*k+j]?=(f a)[j]?
 | [],n,a,j,h,_=>by simp at h
 | c::l,0,a,j,h,hj=>by
  simp at h
  subst h
  show(f c++l.flatMap f)[0*k+j]?=_
  rw[Nat.zero_mul,Nat.zero_add,List.getElem?_append_left (by rw[hf];exact hj)]
 | c::l,n+1,a,j,h,hj=>by
  have h1:=flat_at f k hf l n a j (by simpa using h) hj
  show(f c++l.flatMap f)[(n+1)*k+j]?=_
  have e:(n+1)*k+j=k+(n*k+j):=by rw[Nat.succ_mul];omega
  rw[e,List.getElem?_append_right (by rw[hf];omega),hf,Nat.add_sub_cancel_left]
  exact h1
theorem flat_len{α:Type}(f:α→List Value)(k:Nat)(hf:∀a,(f a).length=k):∀l:List α,(l.flatMap f).length=l.length*k
 | []=>by simp
 | c::l=>by
  show(f c++l.flatMap f).length=_
  rw[List.length_append,hf,flat_len f k hf l,List.length_cons,Nat.succ_mul,Nat.add_comm]
theorem row_cell{α:Type}{f:α→List Value}{k:Nat}(hf:∀a,(f a).length=k){w:World}{lo e:Nat}{va:Option Addr}{vn vc:Nat}{l:List α}(h:w.ownsRow lo e k (.slice va vn vc) l.length (l.flatMap f)){n:Nat}{a:α}(ha:l[n]?=some a):∃ga,va=some ⟨ga,0,none⟩∧∀j,j<k→w.cell? ⟨ga,n*k+j,none⟩=(f a)[j]?:=by
 have hlt:=(List.getElem?_eq_some_iff.1 ha).1
 rcases h.2 with ⟨e1,e2⟩|⟨ga,cap,cur,e1,-⟩
 ·omega
 ·have e3:va=some ⟨ga,0,none⟩:=by cases e1;rfl
  rw[e1] at h
  refine⟨ga,e3,fun j hj=>?_⟩
  have hl2:n*k+j<l.length*k:=by
   have:n*k+k≤l.length*k:=by rw[←Nat.succ_mul];exact Nat.mul_le_mul_right _ hlt
   omega
  rw[h.cellAt _ hl2]
  exact flat_at f k hf l n a j ha hj
theorem lk_len(a:Lk):a.cs.length=6:=rfl
theorem tx_len(a:Tx×Value):(txC a).length=3:=rfl
structure Rt where
 tx:List Tx
 hd:List Lk
 aq:List Lk
structure RV(w:World)(b:Nat)(R:Rt)(D:Nat→Prop)(vt vh va:Value)(tv:List (Tx×Value)):Prop where
 tm:tv.map Prod.fst=R.tx
 blk:Blk w b 89 [vt,vh,va]
 rt:w.ownsRow 0 115 3 vt tv.length (txc tv)
 rh:w.ownsRow 0 73 6 vh R.hd.length (lkc R.hd)
 ra:w.ownsRow 0 73 6 va R.aq.length (lkc R.aq)
 rw_:∀e∈tv,w.ownsRow 0 3 1 e.2 e.1.ws.length (e.1.ws.map fun z=>I z)
 db:D b
 dt:∀k,vt.ownBlock=some k→D k
 dh:∀k,vh.ownBlock=some k→D k
 da:∀k,va.ownBlock=some k→D k
 dw:∀e∈tv,∀k,e.2.ownBlock=some k→D k
 sp:∀k,vh.ownBlock=some k→va.ownBlock≠some k
 dl:∀k,D k→k<w.heap.size
def RT(w:World)(b:Nat)(R:Rt)(D:Nat→Prop):Prop:=∃vt vh va tv,RV w b R D vt vh va tv
section
variable {w w':World} {b:Nat} {R:Rt} {D:Nat→Prop} {vt vh va:Value} {tv:List (Tx×Value)}
theorem RV.chg(h:RV w b R D vt vh va tv){F:Nat→Prop}(c:Chg F w w')(hF:∀k,D k→¬F k):RV w' b R D vt vh va tv:=
 ⟨h.tm,h.blk.chg c (hF _ h.db),own_chg h.rt c (fun k hk=>hF k (h.dt k hk)),own_chg h.rh c (fun k hk=>hF k (h.dh k hk)),own_chg h.ra c (fun k hk=>hF k (h.da k hk)),fun e he=>own_chg (h.rw_ e he) c (fun k hk=>hF k (h.dw e he k hk)),h.db,h.dt,h.dh,h.da,h.dw,h.sp,fun k hk=>Nat.lt_of_lt_of_le (h.dl k hk) c.size⟩
theorem RV.G(h:RV w b R D vt vh va tv)(g:Go.Proofs.YtadfaiciolfgjaaGreatDoor.G w w'):RV w' b R D vt vh va tv:=h.chg (F:=fun _=>False) g.chg (fun _ _=>id)
theorem RT.G(h:RT w b R D)(g:Go.Proofs.YtadfaiciolfgjaaGreatDoor.G w w'):RT w' b R D:=by obtain⟨vt,vh,va,tv,h⟩:=h;exact⟨vt,vh,va,tv,h.G g⟩
theorem RT.chg(h:RT w b R D){F:Nat→Prop}(c:Chg F w w')(hF:∀k,D k→¬F k):RT w' b R D:=by obtain⟨vt,vh,va,tv,h⟩:=h;exact⟨vt,vh,va,tv,h.chg c hF⟩
theorem RV.tl(h:RV w b R D vt vh va tv):tv.length=R.tx.length:=by rw[←h.tm,List.length_map]
theorem RV.at(h:RV w b R D vt vh va tv){n:Nat}{e:Tx}(he:R.tx[n]?=some e):∃v,tv[n]?=some (e,v):=by
 rw[←h.tm,List.getElem?_map] at he
 cases h1:tv[n]? with
 | none=>rw[h1] at he;cases he
 | some a=>
  rw[h1] at he
  have:a.1=e:=by simpa using he
  exact⟨a.2,by rw[←this]⟩
end
def idxI{α:Type}(f:α→Bool)(l:List α):Int:=match l.findIdx? f with|some i=>(i:Int)|none=>-1
theorem idxI_some{α:Type}{f:α→Bool}{l:List α}{i:Nat}{a:α}(ha:l[i]?=some a)(hf:f a=true)(hn:∀j b,j<i→l[j]?=some b→f b=false):idxI f l=(i:Int):=by
 have:l.findIdx? f=some i:=by
  rw[List.findIdx?_eq_some_iff_getElem]
  obtain⟨h1,h2⟩:=List.getElem?_eq_some_iff.1 ha
  refine⟨h1,by rw[h2];exact hf,fun j hj=>?_⟩
  rw[hn j _ hj (List.getElem?_eq_getElem (by omega))]
  simp
 unfold idxI
 rw[this]
theorem idxI_none{α:Type}{f:α→Bool}{l:List α}(hn:∀a∈l,f a=false):idxI f l = -1:=by
 have:l.findIdx? f=none:=by
  rw[List.findIdx?_eq_none_iff]
  exact hn
 unfold idxI
 rw[this]
end
section
open Go.RowKit
theorem Ask_none(t:Nat)(s:Gs)(x m:Int)(r:Rs)(w:World)(h:TT w t s)(hx:R64 x)(hp:s.lv x=none):Calls prog 5 #[ptr t,I x,r.v,I m] w fun e w'=>e=.returned (.tuple #[I 0,.slice none 0 0,I 80])∧G w w':=by
 have g1:G w (w.alloc (.cells #[I r.lv,.string r.lb,I r.id] 33)):=(G.refl w).alloc _
 have g2:G w ((w.alloc (.cells #[I r.lv,.string r.lb,I r.id] 33)).alloc (.cells #[I r.lv,.string r.lb,I r.id] 33)):=g1.alloc _
 have KP:=hide (partyOf_any t s x _ (h.G g1) hx)
 rw[hp] at KP
 simp only[ptv,Option.isSome_none,if_false,Bool.false_eq_true] at KP
 have KR:=hide (isRes_any r (w.alloc (.cells #[I r.lv,.string r.lb,I r.id] 33)))
 have KM:=hide (isMode_any m ((w.alloc (.cells #[I r.lv,.string r.lb,I r.id] 33)).alloc (.cells #[I r.lv,.string r.lb,I r.id] 33)))
 clear KR KM
 have HG:=hide (And.intro g1 g2)
 clear g1 g2 hp h hx
 simp only[Rs.v]
 go_enter func5,ntmps5
 go_wp2_with (first|(go_at_call 17;refine KP.out.mono ?_;rintro e w' ⟨rfl,rfl⟩)|fail)
 exact bodyPost_ret (v:=.tuple #[.int .i64 0,.slice none 0 0,.int .i64 80]) (by simp[results,results5,go_sem]) rfl ⟨rfl,HG.out.1⟩
theorem Ask_nores(t:Nat)(s:Gs)(x m:Int)(r:Rs)(w:World)(h:TT w t s)(hx:R64 x){p:Pt}(hp:s.lv x=some p)(hr:resB r=false):Calls prog 5 #[ptr t,I x,r.v,I m] w fun e w'=>e=.returned (.tuple #[I 0,.slice none 0 0,I 82])∧G w w':=by
 have g1:G w (w.alloc (.cells #[I r.lv,.string r.lb,I r.id] 33)):=(G.refl w).alloc _
 have g2:G w ((w.alloc (.cells #[I r.lv,.string r.lb,I r.id] 33)).alloc (.cells #[I r.lv,.string r.lb,I r.id] 33)):=g1.alloc _
 have KP:=hide (partyOf_any t s x _ (h.G g1) hx)
 rw[hp] at KP
 simp only[ptv,Option.isSome_some,if_true] at KP
 have KR:=hide (isRes_any r (w.alloc (.cells #[I r.lv,.string r.lb,I r.id] 33)))
 have KM:=hide (isMode_any m ((w.alloc (.cells #[I r.lv,.string r.lb,I r.id] 33)).alloc (.cells #[I r.lv,.string r.lb,I r.id] 33)))
 rw[hr] at KR
 clear KM hr
 have HG:=hide (And.intro g1 g2)
 clear g1 g2 hp h hx
 simp only[Rs.v]
 go_enter func5,ntmps5
 go_wp2_with (first|(go_at_call 17;refine KP.out.mono ?_;rintro e w' ⟨rfl,rfl⟩)|(go_at_call 18;refine KR.out.mono ?_;rintro e w' ⟨rfl,rfl⟩)|fail)
 exact bodyPost_ret (v:=.tuple #[.int .i64 0,.slice none 0 0,.int .i64 82]) (by simp[results,results5,go_sem]) rfl ⟨rfl,HG.out.2⟩
theorem Ask_nomode(t:Nat)(s:Gs)(x m:Int)(r:Rs)(w:World)(h:TT w t s)(hx:R64 x){p:Pt}(hp:s.lv x=some p)(hr:resB r=true)(hm:modeB m=false):Calls prog 5 #[ptr t,I x,r.v,I m] w fun e w'=>e=.returned (.tuple #[I 0,.slice none 0 0,I 81])∧G w w':=by
 have g1:G w (w.alloc (.cells #[I r.lv,.string r.lb,I r.id] 33)):=(G.refl w).alloc _
 have g2:G w ((w.alloc (.cells #[I r.lv,.string r.lb,I r.id] 33)).alloc (.cells #[I r.lv,.string r.lb,I r.id] 33)):=g1.alloc _
 have KP:=hide (partyOf_any t s x _ (h.G g1) hx)
 rw[hp] at KP
 simp only[ptv,Option.isSome_some,if_true] at KP
 have KR:=hide (isRes_any r (w.alloc (.cells #[I r.lv,.string r.lb,I r.id] 33)))
 have KM:=hide (isMode_any m ((w.alloc (.cells #[I r.lv,.string r.lb,I r.id] 33)).alloc (.cells #[I r.lv,.string r.lb,I r.id] 33)))
 rw[hr] at KR
 rw[hm] at KM
 clear hr hm
 have HG:=hide (And.intro g1 g2)
 clear g1 g2 hp h hx
 simp only[Rs.v]
 go_enter func5,ntmps5
 go_wp2_with (first|(go_at_call 17;refine KP.out.mono ?_;rintro e w' ⟨rfl,rfl⟩)|(go_at_call 18;refine KR.out.mono ?_;rintro e w' ⟨rfl,rfl⟩)|(go_at_call 19;refine KM.out.mono ?_;rintro e w' ⟨rfl,rfl⟩)|fail)
 exact bodyPost_ret (v:=.tuple #[.int .i64 0,.slice none 0 0,.int .i64 81]) (by simp[results,results5,go_sem]) rfl ⟨rfl,HG.out.2⟩
theorem End_none(t:Nat)(s:Gs)(x:Int)(w:World)(h:TT w t s)(hx:R64 x)(hp:s.lv x=none):Calls prog 8 #[ptr t,I x] w fun e w'=>e=.returned (.tuple #[.slice none 0 0,.slice none 0 0,I 80])∧G w w':=by
 have KP:=hide (partyOf_any t s x _ h hx)
 rw[hp] at KP
 simp only[ptv,Option.isSome_none,if_false,Bool.false_eq_true] at KP
 clear hp h hx
 go_enter func8,ntmps8
 go_wp2_with (first|(go_at_call 17;refine KP.out.mono ?_;rintro e w' ⟨rfl,rfl⟩)|fail)
 exact bodyPost_ret (v:=.tuple #[.slice none 0 0,.slice none 0 0,.int .i64 80]) (by simp[results,results8,go_sem]) rfl ⟨rfl,G.refl _⟩
theorem Mode_none(t:Nat)(s:Gs)(x:Int)(r:Rs)(w:World)(h:TT w t s)(hx:R64 x)(hp:s.lv x=none):Calls prog 73 #[ptr t,I x,r.v] w fun e w'=>e=.returned (.tuple #[I 0,I 80])∧G w w':=by
 have g1:G w (w.alloc (.cells #[I r.lv,.string r.lb,I r.id] 33)):=(G.refl w).alloc _
 have KP:=hide (partyOf_any t s x _ (h.G g1) hx)
 rw[hp] at KP
 simp only[ptv,Option.isSome_none,if_false,Bool.false_eq_true] at KP
 have HG:=hide g1
 clear g1 hp h hx
 simp only[Rs.v]
 go_enter func73,ntmps73
 go_wp2_with (first|(go_at_call 17;refine KP.out.mono ?_;rintro e w' ⟨rfl,rfl⟩)|fail)
 exact bodyPost_ret (v:=.tuple #[.int .i64 0,.int .i64 80]) (by simp[results,results73,go_sem]) rfl ⟨rfl,HG.out⟩
theorem Begin_arg(t:Nat)(x st:Int)(w:World)(hx:x<1∨st<1):Calls prog 71 #[ptr t,I x,I st] w fun e w'=>e=.returned (I 1)∧G w w':=by
 by_cases h1:x<1
 ·clear hx
  go_enter func71,ntmps71
  go_wp2
  go_ret
  exact⟨rfl,G.refl _⟩
 ·have h2:st<1:=by omega
  have d1:decide (x<1)=false:=by simp;omega
  clear hx
  go_enter func71,ntmps71
  go_wp2
  go_ret
  exact⟨rfl,G.refl _⟩
theorem ints_same(l:List Int)(u v:Value)(lo lo2:Nat)(w:World)(hl:l.length<4100000000000)(hu:w.ownsRow lo 3 1 u l.length (l.map fun z=>I z))(hv:w.ownsRow lo2 3 1 v l.length (l.map fun z=>I z)):Calls prog 44 #[u,v] w fun e w'=>e=.returned (.bool true)∧G w w':=by
 obtain⟨ua,uc,rfl⟩:=row_form hu
 obtain⟨va,vc,rfl⟩:=row_form hv
 have HU:=hide hu;have HV:=hide hv;have HL:=hide hl
 clear hu hv hl
 go_enter func44,ntmps44
 go_wp2_with fail
 go_loopw [5] (fun i wr=>∃n:Nat,i=I n∧n≤l.length∧G w wr) (fun i _=>l.length-(RowKit.intOf i).toNat)
 case atStart=>exact⟨0,rfl,Nat.zero_le _,G.refl _⟩
 case round=>
  obtain⟨n,rfl,hn,hg⟩:=hrel
  have hll:=HL.out
  by_cases hlt:n<l.length
  ·obtain⟨a,ha⟩:∃z,l[n]?=some z:=⟨_,List.getElem?_eq_getElem hlt⟩
   obtain⟨ga,hga,kc⟩:=int_at (own_G HU.out hg) ha
   obtain⟨gb,hgb,kd⟩:=int_at (own_G HV.out hg) ha
   subst hga hgb
   have d0:wr.cell? ⟨ga,n,none⟩=some (I a):=kc
   have e0:wr.cell? ⟨gb,n,none⟩=some (I a):=kd
   have hnI:(n:Int)<(l.length:Int):=by omega
   have hwn:wrap64 ((n:Int)+1)=(n:Int)+1:=by unfold wrap64;omega
   have HWN:=hide hwn;have HLT:=hide hlt;have HG:=hide hg
   clear kc kd ha hg hlt hn hwn hll
   go_wp2_with fail
   go_quiet (fail)
   generalize hV:World.drewN wr _=V
   have HGV:Hid (G wr V):=by rw[←hV];exact(G.refl wr).drewN _
   clear hV
   go_wp2_with fail
   exact⟨⟨n+1,by rw[HWN.out];exact rl1 n,HLT.out,HG.out.trans HGV.out⟩,by rw[HWN.out];exact ms_end HLT.out⟩
  ·have hnI:¬(n:Int)<(l.length:Int):=by omega
   have HG:=hide hg
   clear hg hlt hn hll
   go_wp2_with fail
   go_ret
   exact⟨rfl,HG.out⟩
theorem held_same(l:List (Int×Int))(u v:Value)(lo lo2:Nat)(w:World)(hl:l.length<4100000000000)(hu:w.ownsRow lo 68 2 u l.length (l.flatMap (fun q:Int×Int=>[I q.1,I q.2])))(hv:w.ownsRow lo2 68 2 v l.length (l.flatMap (fun q:Int×Int=>[I q.1,I q.2]))):Calls prog 39 #[u,v] w fun e w'=>e=.returned (.bool true)∧G w w':=by
 obtain⟨ua,uc,rfl⟩:=row_form hu
 obtain⟨va,vc,rfl⟩:=row_form hv
 have HU:=hide hu;have HV:=hide hv;have HL:=hide hl
 clear hu hv hl
 go_enter func39,ntmps39
 go_wp2_with fail
 go_loopw [5] (fun i wr=>∃n:Nat,i=I n∧n≤l.length∧G w wr) (fun i _=>l.length-(RowKit.intOf i).toNat)
 case atStart=>exact⟨0,rfl,Nat.zero_le _,G.refl _⟩
 case round=>
  obtain⟨n,rfl,hn,hg⟩:=hrel
  have hll:=HL.out
  by_cases hlt:n<l.length
  ·obtain⟨a,ha⟩:∃z,l[n]?=some z:=⟨_,List.getElem?_eq_getElem hlt⟩
   obtain⟨ga,hga,kc⟩:=row_cell (f:=(fun q:Int×Int=>[I q.1,I q.2])) (k:=2) (fun _=>rfl) (own_G HU.out hg) ha
   obtain⟨gb,hgb,kd⟩:=row_cell (f:=(fun q:Int×Int=>[I q.1,I q.2])) (k:=2) (fun _=>rfl) (own_G HV.out hg) ha
   subst hga hgb
   have d0:wr.cell? ⟨ga,n*2,none⟩=some (I a.1):=kc 0 (by omega)
   have e0:wr.cell? ⟨gb,n*2,none⟩=some (I a.1):=kd 0 (by omega)
   have d1:wr.cell? ⟨ga,n*2+1,none⟩=some (I a.2):=kc 1 (by omega)
   have e1:wr.cell? ⟨gb,n*2+1,none⟩=some (I a.2):=kd 1 (by omega)
   have hnI:(n:Int)<(l.length:Int):=by omega
   have hwn:wrap64 ((n:Int)+1)=(n:Int)+1:=by unfold wrap64;omega
   have HWN:=hide hwn;have HLT:=hide hlt;have HG:=hide hg
   clear kc kd ha hg hlt hn hwn hll
   go_wp2_with fail
   go_quiet (fail)
   generalize hV:World.drewN wr _=V
   have HGV:Hid (G wr V):=by rw[←hV];exact(G.refl wr).drewN _
   clear hV
   go_wp2_with fail
   exact⟨⟨n+1,by rw[HWN.out];exact rl1 n,HLT.out,HG.out.trans HGV.out⟩,by rw[HWN.out];exact ms_end HLT.out⟩
  ·have hnI:¬(n:Int)<(l.length:Int):=by omega
   have HG:=hide hg
   clear hg hlt hn hll
   go_wp2_with fail
   go_ret
   exact⟨rfl,HG.out⟩
theorem waits_same(l:List (Int×Int×Rs))(u v:Value)(lo lo2:Nat)(w:World)(hl:l.length<4100000000000)(hu:w.ownsRow lo 101 5 u l.length (l.flatMap gC))(hv:w.ownsRow lo2 101 5 v l.length (l.flatMap gC)):Calls prog 47 #[u,v] w fun e w'=>e=.returned (.bool true)∧G w w':=by
 obtain⟨ua,uc,rfl⟩:=row_form hu
 obtain⟨va,vc,rfl⟩:=row_form hv
 have HU:=hide hu;have HV:=hide hv;have HL:=hide hl
 clear hu hv hl
 go_enter func47,ntmps47
 go_wp2_with fail
 go_loopw [5] (fun i wr=>∃n:Nat,i=I n∧n≤l.length∧G w wr) (fun i _=>l.length-(RowKit.intOf i).toNat)
 case atStart=>exact⟨0,rfl,Nat.zero_le _,G.refl _⟩
 case round=>
  obtain⟨n,rfl,hn,hg⟩:=hrel
  have hll:=HL.out
  by_cases hlt:n<l.length
  ·obtain⟨a,ha⟩:∃z,l[n]?=some z:=⟨_,List.getElem?_eq_getElem hlt⟩
   obtain⟨ga,hga,kc⟩:=row_cell (f:=gC) (k:=5) (fun _=>rfl) (own_G HU.out hg) ha
   obtain⟨gb,hgb,kd⟩:=row_cell (f:=gC) (k:=5) (fun _=>rfl) (own_G HV.out hg) ha
   subst hga hgb
   have d0:wr.cell? ⟨ga,n*5,none⟩=some (I a.1):=kc 0 (by omega)
   have e0:wr.cell? ⟨gb,n*5,none⟩=some (I a.1):=kd 0 (by omega)
   have d1:wr.cell? ⟨ga,n*5+1,none⟩=some (I a.2.1):=kc 1 (by omega)
   have e1:wr.cell? ⟨gb,n*5+1,none⟩=some (I a.2.1):=kd 1 (by omega)
   have d2:wr.cell? ⟨ga,n*5+2,none⟩=some (I a.2.2.lv):=kc 2 (by omega)
   have e2:wr.cell? ⟨gb,n*5+2,none⟩=some (I a.2.2.lv):=kd 2 (by omega)
   have d3:wr.cell? ⟨ga,n*5+3,none⟩=some (.string a.2.2.lb):=kc 3 (by omega)
   have e3:wr.cell? ⟨gb,n*5+3,none⟩=some (.string a.2.2.lb):=kd 3 (by omega)
   have d4:wr.cell? ⟨ga,n*5+4,none⟩=some (I a.2.2.id):=kc 4 (by omega)
   have e4:wr.cell? ⟨gb,n*5+4,none⟩=some (I a.2.2.id):=kd 4 (by omega)
   have hnI:(n:Int)<(l.length:Int):=by omega
   have hwn:wrap64 ((n:Int)+1)=(n:Int)+1:=by unfold wrap64;omega
   have HWN:=hide hwn;have HLT:=hide hlt;have HG:=hide hg
   clear kc kd ha hg hlt hn hwn hll
   go_wp2_with fail
   go_quiet (fail)
   generalize hV:World.drewN wr _=V
   have HGV:Hid (G wr V):=by rw[←hV];exact(G.refl wr).drewN _
   clear hV
   go_wp2_with fail
   exact⟨⟨n+1,by rw[HWN.out];exact rl1 n,HLT.out,HG.out.trans HGV.out⟩,by rw[HWN.out];exact ms_end HLT.out⟩
  ·have hnI:¬(n:Int)<(l.length:Int):=by omega
   have HG:=hide hg
   clear hg hlt hn hll
   go_wp2_with fail
   go_ret
   exact⟨rfl,HG.out⟩
end
end Go.Proofs.YtadfaiciolfgjaaGreatDoor
