import Derived.Test.YtadfaiciolfgjaaGreatDoorLkA
namespace Go.Proofs.YtadfaiciolfgjaaGreatDoor
open Go.Proofs.Tryz
set_option maxHeartbeats 1000000
set_option maxRecDepth 100000
section
open Go.RowKit
def cutQ(qs:List (Int×Int))(i:Nat):List (Int×Int):=qs.take i++qs.drop (i+1)
theorem cutQ_len{qs:List (Int×Int)}{i:Nat}(h:i<qs.length):(cutQ qs i).length=qs.length-1:=by
 unfold cutQ
 rw[List.length_append,List.length_take,List.length_drop]
 omega
theorem qc_app(a b:List (Int×Int)):qc (a++b)=qc a++qc b:=by simp[qc]
theorem run_clear_one(w:World)(ty:TypeId)(b o c:Nat)(h0:(w.cell? ⟨b,o,none⟩).isSome=true)(h1:(w.cell? ⟨b,o+1,none⟩).isSome=true)(f0:w.frozen? ⟨b,o,none⟩=false)(f1:w.frozen? ⟨b,o+1,none⟩=false) :
  (Builtin.clear_ #[91] ty #[.slice (some ⟨b,o,none⟩) 1 c]).run prog w=.ok (.tuple #[]) (w.setCells b o [I 0,I 0]):=by
 have hzc:(Builtin.zeroCells (Value.agg #[I 0,I 0]).cells 1).toList=[I 0,I 0]:=by kernel_rfl
 have hst:=run_storeCells_cells (P:=prog) b o [I 0,I 0] 0 w (fun j hj=>by
  have:j=0∨j=1:=by simp at hj;omega
  rcases this with rfl|rfl
  ·simpa using h0
  ·simpa using h1) (fun j hj=>by
  have:j=0∨j=1:=by simp at hj;omega
  rcases this with rfl|rfl
  ·simpa using f0
  ·simpa using f1) (by intro v hv;simp at hv;subst hv;rfl)
 simp only[Nat.add_zero] at hst
 simp[Builtin.clear_,run_underlying underlying91,zeroValue68,hzc,hst]
theorem Blk.two{w:World}{g:Nat}{e:TypeId}{xs:List Value}(h:Blk w g e xs)(o:Nat)(u v:Value):Blk (w.setCells g o [u,v]) g e ((xs.set o u).set (o+1) v)∧Chg (fun k=>k=g) w (w.setCells g o [u,v]):=by
 have e1:w.setCells g o [u,v]=(w.setCell ⟨g,o,none⟩ u).setCell ⟨g,o+1,none⟩ v:=rfl
 rw[e1]
 exact⟨(h.set o u).set (o+1) v,(chgk _ _ _ _).trans (chgk _ _ _ _)⟩
theorem delete_any(qs:List (Int×Int))(v:Value)(i:Nat)(w:World)(hq:QSl w v qs)(hi:i<qs.length)(hlen:qs.length≤17592186044416) :
  Calls prog 69 #[v,I (i:Int),I ((i:Int)+1)] w fun e w'=>∃v',e=.returned v'∧QSl w' v' (cutQ qs i)∧Chg (fun k=>v.ownBlock=some k) w w'∧v'.ownBlock=v.ownBlock:=by
 rcases hq with ⟨rfl,rfl⟩|⟨g,cap,rest,rfl,hb,hcap,hmax⟩
 ·simp at hi
 have hqa:QSl w (.slice (some ⟨g,0,none⟩) qs.length cap) qs:=.inr ⟨g,cap,rest,rfl,hb,hcap,hmax⟩
 have hcl:qs.length≤cap:=by omega
 obtain⟨i0,hi0,hz0,hz1,hz2⟩:=info_parts (show(prog.info? 68).map (fun i=>(i.zero,i.size,i.bytes))=some (some (.agg #[.int .i64 0,.int .i64 0]),2,16)from by kernel_rfl)
 have hbd:Blk w.drew g 68 (qc qs++rest):=hb.drew
 have hrow:w.drew.ownsRow 0 68 2 (.slice (some ⟨g,0,none⟩) i cap) i (qc (qs.take i)):=by
  have h1:(qs.take i).length=i:=by rw[List.length_take];omega
  have:QSl w.drew (.slice (some ⟨g,0,none⟩) (qs.take i).length cap) (qs.take i):=.inr ⟨g,cap,qc (qs.drop i)++rest,rfl,by
   rw[←List.append_assoc,←qc_app,List.take_append_drop]
   exact hbd,by
   rw[List.length_append,qc_len,List.length_drop,h1]
   omega,hmax⟩
  have:=this.row
  rw[h1] at this
  exact this
 have key:∀(a:Addr) (c:Nat),(∀j u,(qc (qs.drop (i+1)))[j]?=some u→w.drew.cell? (a.add j)=some u)→∃w',(Builtin.append_ #[91,91] 91 #[.slice (some ⟨g,0,none⟩) i cap,.slice (some a) (qs.length-(i+1)) c]).run prog w.drew=.ok (.slice (some ⟨g,0,none⟩) (qs.length-1) cap) w'∧(∀ty,(Builtin.clear_ #[91] ty #[.slice (some ⟨g,(qs.length-1)*2,none⟩) 1 (cap-(qs.length-1))]).run prog w'=.ok (.tuple #[]) (w'.setCells g ((qs.length-1)*2) [I 0,I 0]))∧∃v',Value.slice (some ⟨g,0,none⟩) (qs.length-1) cap=v'∧QSl (w'.setCells g ((qs.length-1)*2) [I 0,I 0]) v' (cutQ qs i)∧Chg (fun k=>(Value.slice (some ⟨g,0,none⟩) qs.length cap).ownBlock=some k) w (w'.setCells g ((qs.length-1)*2) [I 0,I 0])∧v'.ownBlock=(Value.slice (some ⟨g,0,none⟩) qs.length cap).ownBlock:=fun a c ha=>by
  obtain⟨w',q1,q2,q3⟩:=run_append_fits (P:=prog) (w:=w.drew) 0 91 91 68 i0 2 underlying91 hi0 hz1 g i cap (qc (qs.take i)) hrow a (qs.length-(i+1)) c (qc (qs.drop (i+1))) (by rw[qc_len,List.length_drop]) ha (fun u hu=>by
   obtain⟨q,_,hq⟩:=List.mem_flatMap.1 hu
   simp at hq
   rcases hq with rfl|rfl<;>rfl) (by omega)
  rw[show i+(qs.length-(i+1))=qs.length-1 by omega] at q1 q2
  rw[←qc_app] at q2
  have hQ:QSl w' (.slice (some ⟨g,0,none⟩) (qs.length-1) cap) (cutQ qs i):=QSl.of_row (b:=0) (by rw[cutQ_len hi];exact q2)
  rcases hQ with ⟨e,-⟩|⟨g',cap',rest',e,hb',hc',-⟩
  ·cases e
  have e2:=e
  simp only[Value.slice.injEq,Option.some.injEq,Addr.mk.injEq,and_true] at e2
  obtain⟨rfl,-,rfl⟩:=e2
  rw[cutQ_len hi] at hc'
  have hl:(qs.length-1)*2+1<(qc (cutQ qs i)++rest').length:=by
   rw[List.length_append,qc_len,cutQ_len hi]
   omega
  obtain⟨s1,s2⟩:=hb'.two ((qs.length-1)*2) (I 0) (I 0)
  have cs:∀o,o<(qc (cutQ qs i)++rest').length→(w'.cell? ⟨g,o,none⟩).isSome=true:=fun o ho=>by
   rw[hb'.cell,List.getElem?_eq_getElem ho]
   rfl
  refine⟨w',q1,fun ty=>run_clear_one w' ty g _ _ (cs _ (by omega)) (cs _ hl) (hb'.frozen _) (hb'.frozen _),_,rfl,.inr ⟨g,cap,((rest'.set 0 (I 0)).set 1 (I 0)),by rw[cutQ_len hi],?_,?_,hmax⟩,?_,rfl⟩
  ·have e3:((qc (cutQ qs i)++rest').set ((qs.length-1)*2) (I 0)).set ((qs.length-1)*2+1) (I 0)=qc (cutQ qs i)++(rest'.set 0 (I 0)).set 1 (I 0):=by
    have hl2:(qc (cutQ qs i)).length=(qs.length-1)*2:=by rw[qc_len,cutQ_len hi]
    rw[←hl2,List.set_append_right _ _ (Nat.le_refl _),Nat.sub_self,List.set_append_right _ _ (Nat.le_succ _)]
    congr 2
    omega
   rw[e3] at s1
   exact s1
  ·rw[cutQ_len hi]
   simp only[List.length_set]
   exact hc'
  ·have c1:Chg (fun k=>(Value.slice (some ⟨g,0,none⟩) qs.length cap).ownBlock=some k) w.drew w':=⟨q3.os,q3.tape,q3.output,q3.size,fun k hk hn=>q3.block k hk (fun e=>hn e.symm)⟩
   exact((G.refl w).drew.chg.trans c1).trans (s2.mono (fun b hb=>by rw[hb];rfl))
 have f1:(i:Int)<qs.length:=by omega
 have f2:¬((qs.length:Int)<(i:Int)+1):=by omega
 have f3:¬((cap:Int)<qs.length):=by omega
 have f4:¬((i:Int)+1<i):=by omega
 have f5:¬((i:Int)<0):=by omega
 have f6:((i:Int)==(i:Int)+1)=false:=beq_eq_false_iff_ne.2 (by omega)
 have f7:¬((cap:Int)<i):=by omega
 have f8:(0:Int)≤(i:Int)+1:=by omega
 by_cases hce:cap=i+1
 ·obtain⟨w1,hrun,hclr,hfin⟩:=key ⟨g,0,none⟩ 0 (fun j u hj=>by
   have:=(List.getElem?_eq_some_iff.1 hj).1
   rw[qc_len,List.length_drop] at this
   omega)
  rw[show qs.length-(i+1)=0 by omega] at hrun
  have HRUN:=hide hrun
  have HCLR:=hide (hclr)
  have HFIN:=hide hfin
  clear key hrun hclr hfin hrow hqa hb hbd hz0 hz1 hz2 hi0 hcap hmax
  have HN:Hid (qs.length=i+1):=by show _=_;omega
  subst hce
  go_enter func69,ntmps69
  go_wp2_with fail
  refine wp_region_noPanic ?_
  refine wp_region_held_drew (S:=(fun _=>True)) (by kernel_rfl) (trivial) (fun hHeld=>?_)
  refine wpAnyH_take (i:=0) (v:=?_) rfl (by kernel_rfl) (by kernel_rfl) (by kernel_rfl) (fun _ _ _ h=>h) (Or.inl ⟨by rfl,?_⟩) hHeld ?_
  rotate_left 1
  ·(intro w hSw;(try dsimp only at hSw);go_simp;try with_reducible rfl)
  try simp only[Act.put,zzA,zzB,zzD,zzE,zzF]
  refine wpAnyH_take (i:=1) (v:=?_) rfl (by kernel_rfl) (by kernel_rfl) (by kernel_rfl) (fun _ _ _ h=>h) (Or.inl ⟨by rfl,?_⟩) hHeld ?_
  rotate_left 1
  ·(intro w hSw;(try dsimp only at hSw);go_simp;try with_reducible rfl)
  try simp only[Act.put,zzA,zzB,zzC,zzD,zzE,zzF]
  refine wpAnyH_take (i:=2) (v:=?_) rfl (by kernel_rfl) (by kernel_rfl) (by kernel_rfl) (fun _ _ _ h=>h) (Or.inl ⟨by rfl,?_⟩) hHeld ?_
  rotate_left 1
  ·(intro w hSw;(try dsimp only at hSw);go_simp;try with_reducible rfl)
  try simp only[Act.put,zzA,zzB,zzC,zzD,zzE,zzF]
  refine wpAnyH_take (i:=3) (v:=?_) rfl (by kernel_rfl) (by kernel_rfl) (by kernel_rfl) (fun _ _ _ h=>h) (Or.inl ⟨by rfl,?_⟩) hHeld ?_
  rotate_left 1
  ·(intro w hSw;(try dsimp only at hSw);go_simp;try with_reducible rfl)
  try simp only[Act.put,zzA,zzB,zzC,zzD,zzE,zzF]
  refine wpAnyH_take (i:=4) (v:=?_) rfl (by kernel_rfl) (by kernel_rfl) (by kernel_rfl) (fun _ _ _ h=>h) (Or.inl ⟨by rfl,?_⟩) hHeld ?_
  rotate_left 1
  ·(intro w hSw;(try dsimp only at hSw);go_simp;try with_reducible rfl)
  try simp only[Act.put,zzA,zzB,zzC,zzD,zzE,zzF]
  refine wpAnyH_take (i:=5) (v:=?_) rfl (by kernel_rfl) (by kernel_rfl) (by kernel_rfl) (fun _ _ _ h=>h) (Or.inl ⟨by rfl,?_⟩) hHeld ?_
  rotate_left 1
  ·(intro w hSw;(try dsimp only at hSw);go_simp;try with_reducible rfl)
  try simp only[Act.put,zzA,zzB,zzC,zzD,zzE,zzF]
  refine wpAnyH_ready (rs:=[6]) (by kernel_rfl) (by simp) (AllReadyH.cons rfl (fun K hK=>?_) AllReadyH.nil)
  clear hHeld
  refine(if_pos rfl).mpr ?_
  refine wp_of_exec (exec_append _ _ 91 rfl (.slice (some ⟨g,0,none⟩) i (i+1)) (.slice (some ⟨g,0,none⟩) 0 0) rfl rfl 91 rfl HRUN.out) ?_
  refine hK.out _ _ (trivial) (fun hHeld=>?_)
  clear hK K
  try simp only[Act.put,zzA,zzB,zzC,zzD,zzE,zzF]
  refine wpAnyH_take (i:=7) (v:=?_) rfl (by kernel_rfl) (by kernel_rfl) (by kernel_rfl) (fun _ _ _ h=>h) (Or.inl ⟨by rfl,?_⟩) hHeld ?_
  rotate_left 1
  ·(intro w hSw;(try dsimp only at hSw);go_simp;try with_reducible rfl)
  try simp only[Act.put,zzA,zzB,zzC,zzD,zzE]
  refine wpAnyH_done (by kernel_rfl) ?_ _
  refine NoPanic.normal ?_
  have g1:¬((qs.length:Int)<((qs.length-1:Nat):Int)):=by omega
  have g2:¬(((i+1:Nat):Int)<qs.length):=by omega
  have g3:¬(i+1=qs.length-1):=by omega
  have g4:qs.length-(qs.length-1)=1:=by omega
  go_wp2_with fail
  rw[HCLR.out]
  go_wp2_with fail
  go_ret
  obtain⟨v',rfl,h1,h2,h3⟩:=HFIN.out
  exact⟨_,rfl,h1,h2,h3⟩
 ·obtain⟨w1,hrun,hclr,hfin⟩:=key ⟨g,(i+1)*2,none⟩ (cap-(i+1)) (fun j u hj=>by
   have hjl:=(List.getElem?_eq_some_iff.1 hj).1
   rw[Addr.add_mid,hbd.cell,List.getElem?_append_left (by rw[qc_len] at hjl ⊢;rw[List.length_drop] at hjl;omega)]
   have e:qc qs=qc (qs.take (i+1))++qc (qs.drop (i+1)):=by rw[←qc_app,List.take_append_drop]
   rw[e,List.getElem?_append_right (by rw[qc_len,List.length_take];omega),qc_len,List.length_take,show(i+1)*2+j-min (i+1) qs.length*2=j by omega]
   exact hj)
  have HRUN:=hide hrun
  have HCLR:=hide (hclr)
  have HFIN:=hide hfin
  clear key hrun hclr hfin hrow hqa hb hbd hz0 hz1 hz2 hi0 hcap hmax
  go_enter func69,ntmps69
  go_wp2_with fail
  refine wp_region_noPanic ?_
  refine wp_region_held_drew (S:=(fun _=>True)) (by kernel_rfl) (trivial) (fun hHeld=>?_)
  refine wpAnyH_take (i:=0) (v:=?_) rfl (by kernel_rfl) (by kernel_rfl) (by kernel_rfl) (fun _ _ _ h=>h) (Or.inl ⟨by rfl,?_⟩) hHeld ?_
  rotate_left 1
  ·(intro w hSw;(try dsimp only at hSw);go_simp;try with_reducible rfl)
  try simp only[Act.put,zzA,zzB,zzD,zzE,zzF]
  refine wpAnyH_take (i:=1) (v:=?_) rfl (by kernel_rfl) (by kernel_rfl) (by kernel_rfl) (fun _ _ _ h=>h) (Or.inl ⟨by rfl,?_⟩) hHeld ?_
  rotate_left 1
  ·(intro w hSw;(try dsimp only at hSw);go_simp;try with_reducible rfl)
  try simp only[Act.put,zzA,zzB,zzC,zzD,zzE,zzF]
  refine wpAnyH_take (i:=2) (v:=?_) rfl (by kernel_rfl) (by kernel_rfl) (by kernel_rfl) (fun _ _ _ h=>h) (Or.inl ⟨by rfl,?_⟩) hHeld ?_
  rotate_left 1
  ·(intro w hSw;(try dsimp only at hSw);go_simp;try with_reducible rfl)
  try simp only[Act.put,zzA,zzB,zzC,zzD,zzE,zzF]
  refine wpAnyH_take (i:=3) (v:=?_) rfl (by kernel_rfl) (by kernel_rfl) (by kernel_rfl) (fun _ _ _ h=>h) (Or.inl ⟨by rfl,?_⟩) hHeld ?_
  rotate_left 1
  ·(intro w hSw;(try dsimp only at hSw);go_simp;try with_reducible rfl)
  try simp only[Act.put,zzA,zzB,zzC,zzD,zzE,zzF]
  refine wpAnyH_take (i:=4) (v:=?_) rfl (by kernel_rfl) (by kernel_rfl) (by kernel_rfl) (fun _ _ _ h=>h) (Or.inl ⟨by rfl,?_⟩) hHeld ?_
  rotate_left 1
  ·(intro w hSw;(try dsimp only at hSw);go_simp;try with_reducible rfl)
  try simp only[Act.put,zzA,zzB,zzC,zzD,zzE,zzF]
  refine wpAnyH_take (i:=5) (v:=?_) rfl (by kernel_rfl) (by kernel_rfl) (by kernel_rfl) (fun _ _ _ h=>h) (Or.inl ⟨by rfl,?_⟩) hHeld ?_
  rotate_left 1
  ·(intro w hSw;(try dsimp only at hSw);go_simp;try with_reducible rfl)
  try simp only[Act.put,zzA,zzB,zzC,zzD,zzE,zzF]
  refine wpAnyH_ready (rs:=[6]) (by kernel_rfl) (by simp) (AllReadyH.cons rfl (fun K hK=>?_) AllReadyH.nil)
  clear hHeld
  refine(if_pos rfl).mpr ?_
  refine wp_of_exec (exec_append _ _ 91 rfl (.slice (some ⟨g,0,none⟩) i cap) (.slice (some ⟨g,(i+1)*2,none⟩) (qs.length-(i+1)) (cap-(i+1))) rfl rfl 91 rfl HRUN.out) ?_
  refine hK.out _ _ (trivial) (fun hHeld=>?_)
  clear hK K
  try simp only[Act.put,zzA,zzB,zzC,zzD,zzE,zzF]
  refine wpAnyH_take (i:=7) (v:=?_) rfl (by kernel_rfl) (by kernel_rfl) (by kernel_rfl) (fun _ _ _ h=>h) (Or.inl ⟨by rfl,?_⟩) hHeld ?_
  rotate_left 1
  ·(intro w hSw;(try dsimp only at hSw);go_simp;try with_reducible rfl)
  try simp only[Act.put,zzA,zzB,zzC,zzD,zzE]
  refine wpAnyH_done (by kernel_rfl) ?_ _
  refine NoPanic.normal ?_
  have g1:¬((qs.length:Int)<((qs.length-1:Nat):Int)):=by omega
  have g3:¬(cap=qs.length-1):=by omega
  have g4:qs.length-(qs.length-1)=1:=by omega
  go_wp2_with fail
  rw[HCLR.out]
  go_wp2_with fail
  go_ret
  obtain⟨v',rfl,h1,h2,h3⟩:=HFIN.out
  exact⟨_,rfl,h1,h2,h3⟩
end
end Go.Proofs.YtadfaiciolfgjaaGreatDoor
