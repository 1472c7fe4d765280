import Derived.Test.YtadfaiciolfgjaaGreatDoorLk14
namespace Go.Proofs.YtadfaiciolfgjaaGreatDoor
open Go.Proofs.Tryz
set_option maxHeartbeats 1000000
set_option maxRecDepth 100000
section
open Go.RowKit
theorem QSl.row{w:World}{v:Value}{qs:List (Int×Int)}(h:QSl w v qs):w.ownsRow 0 68 2 v qs.length (qc qs):=by
 refine⟨qc_len qs,?_⟩
 rcases h with ⟨rfl,rfl⟩|⟨g,cap,rest,rfl,hb,hl,hm⟩
 ·exact .inl ⟨rfl,rfl⟩
 ·refine .inr ⟨g,cap,(qc qs++rest).toArray,rfl,Nat.zero_le _,hb.h,by omega,hm,?_,?_⟩
  ·simp[qc_len];omega
  ·simp[←qc_len]
theorem QSl.of_row{w:World}{b:Nat}{v:Value}{qs:List (Int×Int)}(h:w.ownsRow b 68 2 v qs.length (qc qs)):QSl w v qs:=by
 rcases h.2 with ⟨rfl,h0⟩|⟨g,cap,cur,rfl,_,hg,hc,hm,hs,ht⟩
 ·exact .inl ⟨rfl,List.eq_nil_of_length_eq_zero h0⟩
 ·have e:cur.toList=qc qs++cur.toList.drop (qs.length*2):=by
   rw[←ht];exact(List.take_append_drop _ _).symm
  refine .inr ⟨g,cap,cur.toList.drop (qs.length*2),rfl,⟨?_⟩,?_,hm⟩
  ·rw[←e];exact hg
  ·simp;omega
theorem qc_snoc(qs:List (Int×Int))(x m:Int):qc (qs++[(x,m)])=qc qs++[I x,I m]:=by simp[qc]
theorem insert_end(qs:List (Int×Int))(v:Value)(x m:Int)(b:Nat)(w:World)(hq:QSl w v qs)(hb:Blk w b 68 [I x,I m])(hn:(qs.length+1)*16≤140737488355328):Calls prog 59 #[v,I qs.length,.slice (some ⟨b,0,none⟩) 1 1] w fun e w'=>∃v',e=.returned v'∧QSl w' v' (qs++[(x,m)])∧Chg (fun k=>v.ownBlock=some k) w w'∧(v'.ownBlock=v.ownBlock∨v'.ownBlock=some w.heap.size):=by
 obtain⟨i0,hi,hz0,hz1,hz2⟩:=info_parts (show(prog.info? 68).map (fun i=>(i.zero,i.size,i.bytes))=some (some (.agg #[.int .i64 0,.int .i64 0]),2,16)from by kernel_rfl)
 have hrow:=hq.row
 have hnews:∀j u,[I x,I m][j]?=some u→w.cell? ((⟨b,0,none⟩:Addr).add j)=some u:=fun j u hj=>by
  have:=hb.cell j
  rw[hj] at this
  by_cases e:j=0
  ·subst e;simpa [Addr.add] using this
  ·simpa [Addr.add,e] using this
 have HN:=hide hnews
 have HR:=hide hrow
 have HB:=hide hb
 have hmx:(140737488355328:Nat)≤maxLen*16:=of_decide_eq_true (by kernel_rfl)
 have HNB:=hide hn
 have HMX:=hide hmx
 have fin:∀v' w',w'.ownsRow 0 68 2 v' (qs.length+1) (qc qs++[I x,I m])→w.grownBy w' v.ownBlock→QSl w' v' (qs++[(x,m)])∧Chg (fun k=>v.ownBlock=some k) w w':=fun v' w' h1 h2=>by
  refine⟨QSl.of_row (b:=0) (by rw[qc_snoc,List.length_append];exact h1),⟨h2.os,h2.tape,h2.output,h2.size,fun i hi hn=>h2.block i hi (fun e=>hn e.symm)⟩⟩
 have HF:=hide fin
 clear fin hnews hrow hb hmx hn
 rcases hq with ⟨rfl,rfl⟩|⟨g,cap,rest,rfl,hb2,hl,hm⟩
 ·go_enter func59,ntmps59
  go_wp2_with (first|(at_builtin;refine wpList_append_own_at _ rfl _ _ 91 rfl 0 68 i0 (.agg #[.int .i64 0,.int .i64 0]) 2 16 underlying91 hi hz0 hz1 hz2 rfl (by decide) _ _ _ rfl HR.out ⟨b,0,none⟩ 1 1 [I x,I m] rfl rfl HN.out (by simp[Value.oneCell']) (by have:=HNB.out;have:=HMX.out;simp at *;omega) HNB.out (Nat.zero_le _) ?_;intro v9 w9 hown9 hgrow9 hnil9 hloc9)|go_in)
  go_ret
  exact⟨v9,rfl,(HF.out v9 w9 hown9 hgrow9).1,(HF.out v9 w9 hown9 hgrow9).2,hloc9⟩
 ·have hcl:qs.length≤cap:=by omega
  clear hb2 hl
  by_cases hce:cap=qs.length
  ·subst hce
   go_enter func59,ntmps59
   go_wp2_with (first|(at_builtin;refine wpList_append_own_at _ rfl _ _ 91 rfl 0 68 i0 (.agg #[.int .i64 0,.int .i64 0]) 2 16 underlying91 hi hz0 hz1 hz2 rfl (by decide) _ _ _ rfl HR.out ⟨b,0,none⟩ 1 1 [I x,I m] rfl rfl HN.out (by simp[Value.oneCell']) (by have:=HNB.out;have:=HMX.out;simp at *;omega) HNB.out (Nat.zero_le _) ?_;intro v9 w9 hown9 hgrow9 hnil9 hloc9)|go_in)
   go_ret
   exact⟨v9,rfl,(HF.out v9 w9 hown9 hgrow9).1,(HF.out v9 w9 hown9 hgrow9).2,hloc9⟩
  ·have hlt:qs.length<cap:=by omega
   go_enter func59,ntmps59
   go_wp2_with (first|(at_builtin;refine wpList_append_own_at _ rfl _ _ 91 rfl 0 68 i0 (.agg #[.int .i64 0,.int .i64 0]) 2 16 underlying91 hi hz0 hz1 hz2 rfl (by decide) _ _ _ rfl HR.out ⟨b,0,none⟩ 1 1 [I x,I m] rfl rfl HN.out (by simp[Value.oneCell']) (by have:=HNB.out;have:=HMX.out;simp at *;omega) HNB.out (Nat.zero_le _) ?_;intro v9 w9 hown9 hgrow9 hnil9 hloc9)|go_in)
   go_ret
   exact⟨v9,rfl,(HF.out v9 w9 hown9 hgrow9).1,(HF.out v9 w9 hown9 hgrow9).2,hloc9⟩
end
end Go.Proofs.YtadfaiciolfgjaaGreatDoor
