import Derived.Shelf.SlicesE.Clone
import Derived.Test.YtadfaiciolfgjaaGreatDoorLk45
import Derived.Test.YtadfaiciolfgjaaGreatDoorShCl
namespace Go.Proofs.YtadfaiciolfgjaaGreatDoor
open Go.Proofs.Tryz
set_option maxHeartbeats 1000000
set_option maxRecDepth 100000
section
open Go.RowKit
theorem clone_any(qs:List (Int×Int))(v:Value)(w:World)(hq:QSl w v qs)(hlen:qs.length<4100000000000):Calls prog 81 #[v] w fun e w'=>∃v',e=.returned v'∧w'.ownsRow w.heap.size 68 2 v' qs.length (qc qs)∧G w w':=by
 have hmx:(4100000000000:Nat)≤maxLen:=of_decide_eq_true (by kernel_rfl)
 obtain⟨i0,hi0,hz0,hzs,hzb⟩:=info_parts (show(prog.info? 68).map (fun i=>(i.zero,i.size,i.bytes))=some (some (.agg #[.int .i64 0,.int .i64 0]),2,16)from by kernel_rfl)
 rcases hq with ⟨rfl,rfl⟩|⟨g,cap,rest,rfl,hb,hcap,hmax⟩
 ·refine(AnyE.slices_Clone_nil Tryz.cloneHeld 0 0 w).mono ?_
  rintro e w' ⟨rfl,rfl⟩
  exact⟨_,rfl,⟨rfl,.inl ⟨rfl,rfl⟩⟩,G.refl _⟩
 ·refine(AnyE.slices_Clone Tryz.cloneHeld i0 _ 2 16 hi0 hz0 hzs hzb rfl (by decide) sizeOf68 g 0 qs.length cap (qc qs) w (qc_len qs) (by omega) (by omega) (fun j u hj=>by
   have hjl:=(List.getElem?_eq_some_iff.1 hj).1
   rw[Nat.zero_add,hb.cell,List.getElem?_append_left hjl];exact hj) (fun u hu=>qc_one hu)).mono ?_
  rintro e w' ⟨v',rfl,hrow,-,hbl⟩
  exact⟨v',rfl,hrow,hbl⟩
theorem queue_none(t:Nat)(s:Gs)(r:Rs)(w:World)(h:TT w t s)(hr:r.ok)(hq:s.pl r=none):Calls prog 42 #[ptr t,r.v] w fun e w'=>e=.returned (.slice none 0 0)∧G w w':=by
 have g1:=(G.refl w).alloc (.cells #[I r.lv,.string r.lb,I r.id] 33)
 have hc:=(h.tb.G g1).cell
 have hbc:=(Blk.new w [I r.lv,.string r.lb,I r.id] 33).cell
 have hlk:=(h.pm.G g1).lookN kyR underlying79 zeroValue84 (kyR_ok.2 hr)
 rw[hq] at hlk
 simp only[Option.map_none,Option.getD_none] at hlk
 clear h hr hq g1
 simp only[Rs.v] at hlk⊢
 go_enter func42,ntmps42
 go_wp2
 go_quiet (fail)
 go_wp2
 go_ret
 exact⟨rfl,((G.refl w).alloc _).drewN _⟩
theorem holders_none(t:Nat)(s:Gs)(r:Rs)(w:World)(h:TT w t s)(hr:r.ok)(hq:s.pl r=none):Calls prog 40 #[ptr t,r.v] w fun e w'=>e=.returned (.slice none 0 0)∧G w w':=by
 have g1:=(G.refl w).alloc (.cells #[I r.lv,.string r.lb,I r.id] 33)
 have hc:=(h.tb.G g1).cell
 have hbc:=(Blk.new w [I r.lv,.string r.lb,I r.id] 33).cell
 have hlk:=(h.pm.G g1).lookN kyR underlying79 zeroValue84 (kyR_ok.2 hr)
 rw[hq] at hlk
 simp only[Option.map_none,Option.getD_none] at hlk
 clear h hr hq g1
 simp only[Rs.v] at hlk⊢
 go_enter func40,ntmps40
 go_wp2
 go_quiet (fail)
 go_wp2
 go_ret
 exact⟨rfl,((G.refl w).alloc _).drewN _⟩
theorem queue_any(t:Nat)(s:Gs)(r:Rs)(q:Pl)(w:World)(h:TT w t s)(hr:r.ok)(hq:s.pl r=some q)(hlen:q.qs.length<4100000000000):Calls prog 42 #[ptr t,r.v] w fun e w'=>∃v,e=.returned v∧w'.ownsRow w.heap.size 68 2 v q.qs.length (qc q.qs)∧G w w':=by
 have g1:=(G.refl w).alloc (.cells #[I r.lv,.string r.lb,I r.id] 33)
 have hTA:=h.G g1
 have hc:=hTA.tb.cell
 have hbn:=Blk.new w [I r.lv,.string r.lb,I r.id] 33
 have hbc:=hbn.cell
 have hlk:=hTA.pm.lookN kyR underlying79 zeroValue84 (kyR_ok.2 hr)
 rw[hq] at hlk
 simp only[Option.map_some,Option.getD_some] at hlk
 have ho:=hTA.pl r q hq
 have KC:Hid (∀W,G (w.alloc (.cells #[I r.lv,.string r.lb,I r.id] 33)) W→Calls prog 81 #[q.q] W fun e w'=>∃v',e=.returned v'∧w'.ownsRow w.heap.size 68 2 v' q.qs.length (qc q.qs)∧G w w'∧G W w'):=fun W gW=>by
  refine(clone_any q.qs q.q _ ((hTA.G gW).pl r q hq).q hlen).mono ?_
  rintro e w' ⟨v,rfl,hrow,hg⟩
  exact⟨v,rfl,own_lo hrow (g1.trans gW).size,(g1.trans gW).trans hg,hg⟩
 obtain⟨qa,qn,qcap,hqv⟩:=qsl_form ho.q
 rw[hqv] at KC
 have HTA:=hide hTA;have HBX:=hide hbn;have HRO:=hide hr;have HQ:=hide hq;have HQV:=hide hqv;have HG1:=hide g1
 clear h hr hq g1 ho hqv hTA hbn
 simp only[Rs.v] at hlk⊢
 go_enter func42,ntmps42
 go_wp2
 go_quiet (fail)
 go_wp2
 clear hc hbc hlk
 have HGV:Hid (G (w.alloc (.cells #[I r.lv,.string r.lb,I r.id] 33)) (((w.alloc (.cells #[I r.lv,.string r.lb,I r.id] 33)).drewN nq).drew)):=((G.refl _).drewN nq).drew
 generalize (w.alloc (.cells #[I r.lv,.string r.lb,I r.id] 33)).drewN nq=V at HGV⊢
 refine wp_region_noPanic ?_
 refine wp_region_held_drew (S:=(fun W=>G (w.alloc (.cells #[I r.lv,.string r.lb,I r.id] 33)) W)) (by kernel_rfl) (HGV.out) (fun hHeld=>?_)
 refine wpAnyH_take (i:=0) (v:=?_) rfl (by kernel_rfl) (by kernel_rfl) (by kernel_rfl) (fun _ _ _ h=>h) (Or.inl ⟨by rfl,?_⟩) hHeld ?_
 rotate_left 1
 ·(intro w hSw;have hT:=HTA.out.G hSw;have q1:=hT.tb.cell;have q2:=(HBX.out.G hSw).cell;have q3:=hT.pm.look kyR underlying79 (zeroValue84 _) (kyR_ok.2 HRO.out);rw[HQ.out] at q3;have q4:=(hT.pl r q HQ.out).blk.cell;rw[HQV.out] at q4;simp only[Option.map_some,Option.getD_some,Rs.v] at q3;go_simp;try with_reducible rfl)
 try simp only[Act.put,zzA,zzB,zzD,zzE,zzF]
 refine wpAnyH_take (i:=1) (v:=?_) rfl (by kernel_rfl) (by kernel_rfl) (by kernel_rfl) (fun _ _ _ h=>h) (Or.inl ⟨by rfl,?_⟩) hHeld ?_
 rotate_left 1
 ·(intro w hSw;have hT:=HTA.out.G hSw;have q1:=hT.tb.cell;have q2:=(HBX.out.G hSw).cell;have q3:=hT.pm.look kyR underlying79 (zeroValue84 _) (kyR_ok.2 HRO.out);rw[HQ.out] at q3;have q4:=(hT.pl r q HQ.out).blk.cell;rw[HQV.out] at q4;simp only[Option.map_some,Option.getD_some,Rs.v] at q3;go_simp;try with_reducible rfl)
 try simp only[Act.put,zzA,zzB,zzC,zzD,zzE,zzF]
 refine wpAnyH_take (i:=2) (v:=?_) rfl (by kernel_rfl) (by kernel_rfl) (by kernel_rfl) (fun _ _ _ h=>h) (Or.inl ⟨by rfl,?_⟩) hHeld ?_
 rotate_left 1
 ·(intro w hSw;have hT:=HTA.out.G hSw;have q1:=hT.tb.cell;have q2:=(HBX.out.G hSw).cell;have q3:=hT.pm.look kyR underlying79 (zeroValue84 _) (kyR_ok.2 HRO.out);rw[HQ.out] at q3;have q4:=(hT.pl r q HQ.out).blk.cell;rw[HQV.out] at q4;simp only[Option.map_some,Option.getD_some,Rs.v] at q3;go_simp;try with_reducible rfl)
 try simp only[Act.put,zzA,zzB,zzC,zzD,zzE,zzF]
 refine wpAnyH_take (i:=3) (v:=?_) rfl (by kernel_rfl) (by kernel_rfl) (by kernel_rfl) (fun _ _ _ h=>h) (Or.inl ⟨by rfl,?_⟩) hHeld ?_
 rotate_left 1
 ·(intro w hSw;have hT:=HTA.out.G hSw;have q1:=hT.tb.cell;have q2:=(HBX.out.G hSw).cell;have q3:=hT.pm.look kyR underlying79 (zeroValue84 _) (kyR_ok.2 HRO.out);rw[HQ.out] at q3;have q4:=(hT.pl r q HQ.out).blk.cell;rw[HQV.out] at q4;simp only[Option.map_some,Option.getD_some,Rs.v] at q3;go_simp;try with_reducible rfl)
 try simp only[Act.put,zzA,zzB,zzC,zzD,zzE,zzF]
 refine wpAnyH_take (i:=4) (v:=?_) rfl (by kernel_rfl) (by kernel_rfl) (by kernel_rfl) (fun _ _ _ h=>h) (Or.inl ⟨by rfl,?_⟩) hHeld ?_
 rotate_left 1
 ·(intro w hSw;have hT:=HTA.out.G hSw;have q1:=hT.tb.cell;have q2:=(HBX.out.G hSw).cell;have q3:=hT.pm.look kyR underlying79 (zeroValue84 _) (kyR_ok.2 HRO.out);rw[HQ.out] at q3;have q4:=(hT.pl r q HQ.out).blk.cell;rw[HQV.out] at q4;simp only[Option.map_some,Option.getD_some,Rs.v] at q3;go_simp;try with_reducible rfl)
 try simp only[Act.put,zzA,zzB,zzC,zzD,zzE,zzF]
 refine wpAnyH_take (i:=5) (v:=?_) rfl (by kernel_rfl) (by kernel_rfl) (by kernel_rfl) (fun _ _ _ h=>h) (Or.inl ⟨by rfl,?_⟩) hHeld ?_
 rotate_left 1
 ·(intro w hSw;have hT:=HTA.out.G hSw;have q1:=hT.tb.cell;have q2:=(HBX.out.G hSw).cell;have q3:=hT.pm.look kyR underlying79 (zeroValue84 _) (kyR_ok.2 HRO.out);rw[HQ.out] at q3;have q4:=(hT.pl r q HQ.out).blk.cell;rw[HQV.out] at q4;simp only[Option.map_some,Option.getD_some,Rs.v] at q3;go_simp;try with_reducible rfl)
 try simp only[Act.put,zzA,zzB,zzC,zzD,zzE,zzF]
 refine wpAnyH_take (i:=6) (v:=?_) rfl (by kernel_rfl) (by kernel_rfl) (by kernel_rfl) (fun _ _ _ h=>h) (Or.inl ⟨by rfl,?_⟩) hHeld ?_
 rotate_left 1
 ·(intro w hSw;have hT:=HTA.out.G hSw;have q1:=hT.tb.cell;have q2:=(HBX.out.G hSw).cell;have q3:=hT.pm.look kyR underlying79 (zeroValue84 _) (kyR_ok.2 HRO.out);rw[HQ.out] at q3;have q4:=(hT.pl r q HQ.out).blk.cell;rw[HQV.out] at q4;simp only[Option.map_some,Option.getD_some,Rs.v] at q3;go_simp;try with_reducible rfl)
 try simp only[Act.put,zzA,zzB,zzC,zzD,zzE,zzF]
 refine wpAnyH_take (i:=7) (v:=?_) rfl (by kernel_rfl) (by kernel_rfl) (by kernel_rfl) (fun _ _ _ h=>h) (Or.inl ⟨by rfl,?_⟩) hHeld ?_
 rotate_left 1
 ·(intro w hSw;have hT:=HTA.out.G hSw;have q1:=hT.tb.cell;have q2:=(HBX.out.G hSw).cell;have q3:=hT.pm.look kyR underlying79 (zeroValue84 _) (kyR_ok.2 HRO.out);rw[HQ.out] at q3;have q4:=(hT.pl r q HQ.out).blk.cell;rw[HQV.out] at q4;simp only[Option.map_some,Option.getD_some,Rs.v] at q3;go_simp;try with_reducible rfl)
 try simp only[Act.put,zzA,zzB,zzC,zzD,zzE,zzF]
 refine wpAnyH_take (i:=8) (v:=?_) rfl (by kernel_rfl) (by kernel_rfl) (by kernel_rfl) (fun _ _ _ h=>h) (Or.inl ⟨by rfl,?_⟩) hHeld ?_
 rotate_left 1
 ·(intro w hSw;have hT:=HTA.out.G hSw;have q1:=hT.tb.cell;have q2:=(HBX.out.G hSw).cell;have q3:=hT.pm.look kyR underlying79 (zeroValue84 _) (kyR_ok.2 HRO.out);rw[HQ.out] at q3;have q4:=(hT.pl r q HQ.out).blk.cell;rw[HQV.out] at q4;simp only[Option.map_some,Option.getD_some,Rs.v] at q3;go_simp;try with_reducible rfl)
 try simp only[Act.put,zzA,zzB,zzC,zzD,zzE,zzF]
 refine wpAnyH_ready (rs:=[9]) (by kernel_rfl) (by simp) (AllReadyH.cons rfl (fun K hK=>?_) AllReadyH.nil)
 clear hHeld
 go_simp
 with_reducible refine(KC.out _ HGV.out).mono ?_
 rintro e w5 ⟨v5,rfl,hrow5,hg5,hgv5⟩
 go_wp2_with fail
 refine hK.out _ _ (HGV.out.trans hgv5) (fun hHeld=>?_)
 clear hK K
 try simp only[Act.put,zzA,zzB,zzC,zzD,zzE,zzF]
 refine wpAnyH_take (i:=10) (v:=?_) rfl (by kernel_rfl) (by kernel_rfl) (by kernel_rfl) (fun _ _ _ h=>h) (Or.inl ⟨by rfl,?_⟩) hHeld ?_
 rotate_left 1
 ·(intro w hSw;(try dsimp only at hSw);go_simp;try with_reducible rfl)
 try simp only[Act.put,zzA,zzB,zzC,zzD,zzE,zzF]
 refine wpAnyH_done (by kernel_rfl) ?_ _
 refine NoPanic.normal ?_
 go_wp2
 go_ret
 exact⟨v5,rfl,hrow5,hg5⟩
end
section
open Go.RowKit
theorem app_held(w7:World)(lo:Nat)(u:Value)(qs:List (Int×Int))(x m:Int)(hu:w7.ownsRow lo 68 2 u qs.length (qc qs))(hl:qs.length<4100000000000)(hlo:lo≤w7.heap.size) :
  ∃v' w9,(Builtin.append_ #[91,91] 91 #[u,.slice (some ⟨w7.heap.size,0,none⟩) 1 1]).run prog (w7.alloc (.cells #[I x,I m] 68))=.ok v' w9∧w9.ownsRow lo 68 2 v' (qs++[(x,m)]).length (qc (qs++[(x,m)]))∧(w7.alloc (.cells #[I x,I m] 68)).grownBy w9 u.ownBlock:=by
 obtain⟨i0,hi,hz0,hz1,hz2⟩:=info_parts (show(prog.info? 68).map (fun i=>(i.zero,i.size,i.bytes))=some (some (.agg #[.int .i64 0,.int .i64 0]),2,16)from by kernel_rfl)
 have hmx:(4100000000001:Nat)≤maxLen:=of_decide_eq_true (by kernel_rfl)
 have gA:G w7 (w7.alloc (.cells #[I x,I m] 68)):=(G.refl w7).alloc _
 have hb:=(Blk.new w7 [I x,I m] 68)
 have hu2:(w7.alloc (.cells #[I x,I m] 68)).ownsRow lo 68 2 u qs.length (qc qs):=own_G hu gA
 obtain⟨v',w9,q1,q2,q3,-,-⟩:=run_append_own_at (P:=prog) (w:=w7.alloc (.cells #[I x,I m] 68)) lo 91 91 68 i0 _ 2 16 underlying91 hi hz0 hz1 hz2 rfl (by decide) u _ _ hu2 ⟨w7.heap.size,0,none⟩ 1 1 [I x,I m] (by simp) (fun j u hj=>by
  have:=hb.cell j
  rw[hj] at this
  rw[Addr.add_mid,Nat.zero_add];exact this) (fun u hu=>by simp at hu;rcases hu with rfl|rfl<;>rfl) (by omega) (by omega) (Nat.le_trans hlo gA.size)
 refine⟨v',w9,q1,?_,q3⟩
 rw[qc_snoc,List.length_append]
 exact q2
theorem take_map_snoc{ids:List Int}{n:Nat}{a:Int}(f:Int→Int×Int)(h:ids[n]?=some a):(ids.take (n+1)).map f=(ids.take n).map f++[f a]:=by
 rw[List.take_add_one,h];simp
theorem holders_any(t:Nat)(s:Gs)(r:Rs)(q:Pl)(ids:List Int)(w:World)(h:TT w t s)(hr:r.ok)(hq:s.pl r=some q)(hids:ids.Pairwise (·<·))(hmem:∀a,a∈ids↔R64 a∧q.hf a≠0)(hlen:ids.length<4100000000000):Calls prog 40 #[ptr t,r.v] w fun e w'=>∃v,e=.returned v∧w'.ownsRow w.heap.size 68 2 v ids.length (qc (ids.map fun a=>(a,q.hf a)))∧G w w':=by
 have g1:=(G.refl w).alloc (.cells #[I r.lv,.string r.lb,I r.id] 33)
 have hTA:=h.G g1
 have hc:=hTA.tb.cell
 have hbc:=(Blk.new w [I r.lv,.string r.lb,I r.id] 33).cell
 have hlk:=hTA.pm.lookN kyR underlying79 zeroValue84 (kyR_ok.2 hr)
 rw[hq] at hlk
 simp only[Option.map_some,Option.getD_some] at hlk
 have hqb:=(hTA.pl r q hq).blk.cell
 obtain⟨qa,qn,qcap,hqv⟩:=qsl_form (h.pl r q hq).q
 rw[hqv] at hqb
 have HM0:=hide (h.pl r q hq).hm
 have K1:Hid (∀W,Calls prog 80 #[.map (some q.hb)] W fun e W'=>e=.returned (.func (.func 102) #[] #[.pointer (some ⟨W.heap.size,0,none⟩)])∧W'=W.alloc (.cells #[.map (some q.hb)] 107)):=fun W=>keys_callM W q.hb
 have K2:Hid (∀W,G w W→Calls prog 79 #[.func (.func 102) #[] #[.pointer (some ⟨W.heap.size,0,none⟩)]] (W.alloc (.cells #[.map (some q.hb)] 107)) fun e W'=>∃v,e=.returned v∧W'.ownsRow w.heap.size 3 1 v ids.length (ids.map fun z=>I z)∧G w W'):=fun W gW=>by
  refine(sorted_callM W q.hb _ ids (HM0.out.G gW) hids (fun a=>by rw[hmem a];exact and_congr Iff.rfl (by unfold nz;by_cases e:q.hf a=0<;>simp[e])) hlen).mono ?_
  rintro e W' ⟨v,rfl,hrow,hg⟩
  exact⟨v,rfl,own_lo hrow (gW.alloc _).size,(gW.alloc _).trans hg⟩
 have HLEN:=hide hlen
 have HMEM:=hide hmem
 have HG1:=hide g1
 clear h hr hq g1 hTA hqv hids hmem hlen
 simp only[Rs.v] at hlk⊢
 go_enter func40,ntmps40
 go_wp2
 go_quiet (fail)
 go_wp2
 go_quiet (fail)
 generalize hV:((w.alloc (.cells #[I r.lv,.string r.lb,I r.id] 33)).drewN _).drewN _=V
 have HGV:Hid (G w V):=by rw[←hV];exact(HG1.out.drewN _).drewN _
 clear hV hc hbc hlk hqb
 go_wp2_with (first|(go_at_call 80;with_reducible refine(K1.out _).mono ?_;rintro e w' ⟨rfl,rfl⟩)|(go_at_call 79;with_reducible refine(K2.out _ HGV.out).mono ?_;rintro e w2 ⟨vi,rfl,hrow,hg2⟩;obtain⟨ia,ic,hvi⟩:=row_form hrow;subst hvi)|fail)
 obtain⟨vi,hvi⟩:∃vi,vi=Value.slice ia ids.length ic:=⟨_,rfl⟩
 rw[←hvi] at hrow
 have HVI:=hide hvi
 have HROW:=hide hrow
 have HG2:=hide hg2
 clear hvi hrow hg2 HGV HG1 K1 K2
 go_loopw [6,8,33] (fun u _ i wr=>∃n:Nat,n≤ids.length∧i=I (n:Int)∧wr.ownsRow w.heap.size 68 2 u ((ids.take n).map fun a=>(a,q.hf a)).length (qc ((ids.take n).map fun a=>(a,q.hf a)))∧wr.ownsRow w.heap.size 3 1 vi ids.length (ids.map fun z=>I z)∧G w wr) (fun _ _ i _=>ids.length-(RowKit.intOf i).toNat)
 case atStart=>exact⟨0,Nat.zero_le _,rfl,⟨rfl,.inl ⟨rfl,rfl⟩⟩,HROW.out,HG2.out⟩
 case round=>
  obtain⟨n,hn,rfl,hu,hvr,hgw⟩:=hrel
  by_cases hlt:n<ids.length
  ·obtain⟨x,hx⟩:∃x,ids[n]?=some x:=⟨_,List.getElem?_eq_getElem hlt⟩
   have hnI:(n:Int)<(ids.length:Int):=by omega
   have hwn:wrap64 ((n:Int)+1)=(n:Int)+1:=by have:=HLEN.out;unfold wrap64;omega
   have HWN:=hide hwn
   have hcel:∃ga,ia=some ⟨ga,0,none⟩∧wr.cell? ⟨ga,n,none⟩=some (I x):=by
    have h2:=hvr
    rw[HVI.out] at h2
    rcases h2.2 with ⟨e,e2⟩|⟨ga,cap,cur,e,-⟩
    ·omega
    ·have e3:ia=some ⟨ga,0,none⟩:=by cases e;rfl
     rw[e] at h2
     refine⟨ga,e3,?_⟩
     rw[h2.cellAt _ (by omega),List.getElem?_map,hx];rfl
   obtain⟨ga,hia,hc0⟩:=hcel
   subst hia
   obtain⟨m,hm⟩:∃m,m=q.hf x:=⟨_,rfl⟩
   have hlk:=(HM0.out.G hgw).look kyI underlying107 (zeroValue3 _) (kyI_ok.2 ((HMEM.out x).1 (List.mem_of_getElem? hx)).1)
   simp only[nz_get] at hlk
   rw[←hm] at hlk
   have htl:((ids.take n).map fun a=>(a,q.hf a)).length<4100000000000:=by have:=HLEN.out;rw[List.length_map,List.length_take];omega
   obtain⟨v9,w9,r1,r2,r3⟩:=app_held wr w.heap.size u6 _ x m hu htl hgw.size
   rw[hm] at r2
   rw[←take_map_snoc (fun a=>(a,q.hf a)) hx] at r2
   have g9:G w w9:=grown_G (hgw.alloc _) r3 (fun b hb=>(World.ownsRow.lt hu b hb).1)
   have hcg:Chg (fun k=>u6.ownBlock=some k) (wr.alloc (.cells #[I x,I m] 68)) w9:=⟨r3.os,r3.tape,r3.output,r3.size,fun k hk hn=>r3.block k hk (fun e=>hn e.symm)⟩
   have hv9:=own_chg (own_G hvr ((G.refl wr).alloc (.cells #[I x,I m] 68))) hcg (fun b hb e=>own_apart hu hvr (by decide) b e hb)
   have HR1:=hide r1;have HR2:=hide r2;have HG9:=hide g9;have HV9:=hide hv9;have HLT:=hide hlt
   clear r1 r2 r3 g9 hcg hv9 hu hvr hgw htl hm hwn hlt hx hn
   go_wp2_with (first|(at_builtin;refine wpList_append_run rfl _ _ 91 rfl _ _ rfl rfl HR1.out ?_)|fail)
   exact⟨⟨n+1,HLT.out,by rw[HWN.out];exact rl1 n,HR2.out,HV9.out,HG9.out⟩,by rw[HWN.out];exact ms_end HLT.out⟩
  ·have hne:n=ids.length:=by omega
   subst hne
   have HU:=hide hu
   have HGW:=hide hgw
   have hnI:¬((ids.length:Int)<(ids.length:Int)):=by omega
   clear hu hvr hgw hn hlt
   go_wp2
   go_ret
   have h:=HU.out
   rw[List.take_length] at h
   rw[List.length_map] at h
   first
    | exact⟨u6,rfl,h,HGW.out⟩
    | fail
end
section
open Go.RowKit
structure Pm where
 stamp:Int
 hf:Rs→Int
 at_:Rs
 goal:Int
 wd:Int→Bool
structure Ms where
 lv:Int→Option Pm
 qs:Rs→List (Int×Int)
def Pt.m(p:Pt):Pm:=⟨p.stamp,p.hf,p.at_,p.goal,p.wd⟩
noncomputable def Pm.hurt(p:Pm):Bool:=@decide (∃y,p.wd y=true) (Classical.propDecidable _)
theorem Pm.hurt_iff{p:Pm}:p.hurt=true↔∃y,p.wd y=true:=⟨fun h=>@of_decide_eq_true _ (Classical.propDecidable _) h,@decide_eq_true _ (Classical.propDecidable _)⟩
theorem Pm.hurt_no{p:Pm}:p.hurt=false↔∀y,p.wd y=false:=by
 rw[←Bool.not_eq_true,Pm.hurt_iff]
 constructor
 ·intro h y
  cases e:p.wd y with
  | false=>rfl
  | true=>exact absurd ⟨y,e⟩ h
 ·rintro h ⟨y,e⟩
  rw[h y] at e;cases e
theorem Pt.m_hurt(p:Pt):p.m.hurt=p.hurt:=by
 cases e:p.hurt with
 | true=>exact Pm.hurt_iff.2 (Pt.hurt_iff.1 e)
 | false=>
  rw[←Bool.not_eq_true,Pm.hurt_iff]
  intro h
  rw[Pt.hurt_iff.2 h] at e;cases e
def Pm.hit(p:Pm)(y:Int):Pm:={p with wd:=upd p.wd y true}
def Ms.hl(m:Ms)(r:Rs)(x:Int):Int:=match m.lv x with|some p=>p.hf r|none=>0
structure Abs(s:Gs)(m:Ms):Prop where
 lv:∀x,(s.lv x).map Pt.m=m.lv x
 yes:∀r q,s.pl r=some q→q.hf=m.hl r∧q.qs=m.qs r∧∃x,m.hl r x≠0
 no:∀r,s.pl r=none→(∀x,m.hl r x=0)∧m.qs r=[]
theorem Abs.at{s:Gs}{m:Ms}(h:Abs s m){x:Int}{p:Pt}(hp:s.lv x=some p):m.lv x=some p.m:=by rw[←h.lv,hp];rfl
theorem Abs.none{s:Gs}{m:Ms}(h:Abs s m){x:Int}:s.lv x=none↔m.lv x=none:=by
 rw[←h.lv];cases s.lv x<;>simp
theorem Abs.of{s:Gs}{m:Ms}(h:Abs s m){x:Int}{p:Pm}(hp:m.lv x=some p):∃q,s.lv x=some q∧q.m=p:=by
 rw[←h.lv] at hp
 cases e:s.lv x with
 | none=>rw[e] at hp;cases hp
 | some q=>rw[e] at hp;exact⟨q,rfl,by simpa using hp⟩
theorem wbL_set(x st:Int)(s:Gs)(xs:List Int):(∀y,((wbL x st s xs).1.lv y).map Pt.m=(s.lv y).map fun p=>if y∈xs∧st<p.stamp then p.m.hit x else p.m)∧
  (wbL x st s xs).2.Nodup∧∀y,y∈(wbL x st s xs).2↔y∈xs∧∃p,s.lv y=some p∧st<p.stamp∧p.hurt=false:=by
 refine snoc_ind (P:=fun xs=>(∀y,((wbL x st s xs).1.lv y).map Pt.m=(s.lv y).map fun p=>if y∈xs∧st<p.stamp then p.m.hit x else p.m)∧
  (wbL x st s xs).2.Nodup∧∀y,y∈(wbL x st s xs).2↔y∈xs∧∃p,s.lv y=some p∧st<p.stamp∧p.hurt=false) ?_ (fun l z ih=>?_) xs
 ·refine⟨fun y=>?_,List.nodup_nil,fun y=>by simp[wbL_nil]⟩
  rw[wbL_nil]
  cases s.lv y<;>simp
 ·obtain⟨h1,h2,h3⟩:=ih
  rw[wbL_snoc]
  have hz:=wbL_lv x st s l z
  unfold wbs
  cases hb:(wbL x st s l).1.lv z with
  | none=>
   have hn:s.lv z=none:=by
    cases e:s.lv z with
    | none=>rfl
    | some b=>
     obtain⟨b',hb',-⟩:=hz.1 b e
     rw[hb] at hb';cases hb'
   refine⟨fun y=>?_,h2,fun y=>?_⟩
   ·show((wbL x st s l).1.lv y).map Pt.m=_
    rw[h1 y]
    by_cases e:y=z
    ·subst e;rw[hn];rfl
    ·simp[e]
   ·show y∈(wbL x st s l).2↔_
    rw[h3 y]
    constructor
    ·rintro⟨h,p,hp⟩;exact⟨List.mem_append_left _ h,p,hp⟩
    ·rintro⟨h,p,hp,hp2⟩
     rcases List.mem_append.1 h with h|h
     ·exact⟨h,p,hp,hp2⟩
     ·simp at h;subst h;rw[hn] at hp;cases hp
  | some b=>
   obtain⟨b0,hb0⟩:∃b0,s.lv z=some b0:=by
    cases e:s.lv z with
    | none=>have:=hz.2 e;rw[hb] at this;cases this
    | some b0=>exact⟨b0,rfl⟩
   have hbm:=h1 z
   rw[hb,hb0] at hbm
   simp only[Option.map_some,Option.some.injEq] at hbm
   have hst:b.stamp=b0.stamp:=by
    have:=congrArg Pm.stamp hbm
    split at this<;>exact this
   dsimp only
   by_cases hlt:st<b.stamp
   ·rw[if_pos hlt]
    have hlt0:st<b0.stamp:=by rw[←hst];exact hlt
    have hhit:(b.hit x).m=b0.m.hit x:=by
     have e1:(b.hit x).m=b.m.hit x:=rfl
     rw[e1,hbm]
     split
     ·simp[Pm.hit,upd_upd]
     ·rfl
    have hhb:b.hurt=false↔z∉l∧b0.hurt=false:=by
     rw[←Pt.m_hurt,hbm,←Pt.m_hurt]
     by_cases hzl:z∈l
     ·rw[if_pos ⟨hzl,hlt0⟩]
      constructor
      ·intro hh
       have:=(Pm.hurt_no.1 hh) x
       simp[Pm.hit] at this
      ·rintro⟨hh,-⟩;exact absurd hzl hh
     ·rw[if_neg (fun hh=>hzl hh.1)]
      exact⟨fun hh=>⟨hzl,hh⟩,fun hh=>hh.2⟩
    refine⟨fun y=>?_,?_,fun y=>?_⟩
    ·by_cases e:y=z
     ·subst e
      show((upd (wbL x st s l).1.lv y (some (b.hit x))) y).map Pt.m=_
      rw[upd_same,hb0]
      simp[hlt0,hhit]
     ·show((upd (wbL x st s l).1.lv z (some (b.hit x))) y).map Pt.m=_
      rw[upd_other e,h1 y]
      simp[e]
    ·cases hh:b.hurt with
     | true=>exact h2
     | false=>
      show((wbL x st s l).2++[z]).Nodup
      rw[List.nodup_append]
      refine⟨h2,by simp,fun a ha c hc e=>?_⟩
      simp at hc
      subst hc e
      exact(hhb.1 hh).1 ((h3 a).1 ha).1
    ·have hm:y∈(if b.hurt=true then(wbL x st s l).2 else(wbL x st s l).2++[z])↔y∈(wbL x st s l).2∨(y=z∧b.hurt=false):=by
      cases b.hurt<;>simp
     rw[show(y∈((wbL x st s l).1.setPt z (b.hit x),if b.hurt=true then(wbL x st s l).2 else(wbL x st s l).2++[z]).2)=(y∈(if b.hurt=true then(wbL x st s l).2 else(wbL x st s l).2++[z]))from rfl,hm,h3 y,List.mem_append,List.mem_singleton]
     constructor
     ·rintro(⟨h,p,hp⟩|⟨rfl,hh⟩)
      ·exact⟨.inl h,p,hp⟩
      ·exact⟨.inr rfl,b0,hb0,hlt0,(hhb.1 hh).2⟩
     ·rintro⟨h|rfl,p,hp,hp2⟩
      ·exact .inl ⟨h,p,hp,hp2⟩
      ·by_cases hyl:y∈l
       ·exact .inl ⟨hyl,p,hp,hp2⟩
       ·refine .inr ⟨rfl,hhb.2 ⟨hyl,?_⟩⟩
        rw[hb0] at hp;cases hp;exact hp2.2
   ·rw[if_neg hlt]
    have hlt0:¬st<b0.stamp:=by rw[←hst];exact hlt
    refine⟨fun y=>?_,h2,fun y=>?_⟩
    ·rw[h1 y]
     by_cases e:y=z
     ·subst e;rw[hb0];simp[hlt0]
     ·simp[e]
    ·rw[h3 y,List.mem_append,List.mem_singleton]
     constructor
     ·rintro⟨h,p,hp⟩;exact⟨.inl h,p,hp⟩
     ·rintro⟨h|rfl,p,hp,hp2⟩
      ·exact⟨h,p,hp,hp2⟩
      ·rw[hb0] at hp;cases hp;exact absurd hp2.1 hlt0
theorem hits_wd(s:Gs)(qm:Int):∀(l:List (Int×Int)) (p:Pt) (y:Int),(hitsL s qm p l).wd y=(p.wd y || l.any fun o=>decide (o.1=y)&&canB s p.stamp qm o)
 | [],p,y=>by simp[hitsL]
 | o::l,p,y=>by
  have e:hitsL s qm p (o::l)=hitsL s qm (if canB s p.stamp qm o then p.hit o.1 else p) l:=rfl
  rw[e,hits_wd s qm l]
  cases hc:canB s p.stamp qm o with
  | false=>simp[hc]
  | true=>
   have hs:(p.hit o.1).stamp=p.stamp:=rfl
   simp only[if_true,hs,List.any_cons,hc,Bool.and_true]
   by_cases ey:o.1=y
   ·subst ey;simp[Pt.hit]
   ·have:y≠o.1:=fun e=>ey e.symm
    simp[Pt.hit,upd_other this,ey]
end
section
open Go.RowKit
abbrev r0:Rs:=⟨0,ByteArray.empty,0⟩
theorem mode_cases{a:Int}(h:modeB a=true):a=1∨a=2∨a=3∨a=4∨a=5:=by
 simp[modeB] at h;omega
theorem fitB_symm(a b:Int):fitB a b=fitB b a:=by
 by_cases ha:modeB a=true
 ·by_cases hb:modeB b=true
  ·rcases mode_cases ha with rfl|rfl|rfl|rfl|rfl<;>rcases mode_cases hb with rfl|rfl|rfl|rfl|rfl<;>decide
  ·simp[fitB,hb]
 ·simp[fitB,ha]
theorem fitB_join{a b c:Int}(ha:a=0∨modeB a=true)(hb:modeB b=true)(hc:modeB c=true)(h:a≠0→fitB a c=false)(ha0:a≠0):fitB (joinI a b) c=false:=by
 have h:=h ha0
 rcases ha with rfl|ha
 ·exact absurd rfl ha0
 revert h
 rcases mode_cases ha with rfl|rfl|rfl|rfl|rfl<;>rcases mode_cases hb with rfl|rfl|rfl|rfl|rfl<;>rcases mode_cases hc with rfl|rfl|rfl|rfl|rfl<;>decide
theorem joinI_mode{a b:Int}(ha:a=0∨modeB a=true)(hb:modeB b=true):modeB (joinI a b)=true:=by
 rcases ha with rfl|ha
 ·rcases mode_cases hb with rfl|rfl|rfl|rfl|rfl<;>decide
 ·rcases mode_cases ha with rfl|rfl|rfl|rfl|rfl<;>rcases mode_cases hb with rfl|rfl|rfl|rfl|rfl<;>decide
theorem mode_ne{a:Int}(h:modeB a=true):a≠0:=by rcases mode_cases h with rfl|rfl|rfl|rfl|rfl<;>decide
def GoodR(r:Rs)(LR:List Rs):Prop:=r∈LR∧r.ok∧ResP r
structure PIv(x:Int)(p:Pm)(L:List Int)(LR:List Rs):Prop where
 x1:1≤x
 xr:R64 x
 xl:x∈L
 s1:1≤p.stamp
 wd:∀y,p.wd y=true→R64 y∧y∈L
 hf:∀r,p.hf r≠0→modeB (p.hf r)=true∧GoodR r LR
 g0:p.goal=0→p.at_=r0
 g1:p.goal≠0→modeB p.goal=true∧GoodR p.at_ LR
 up:p.goal≠0→p.hf p.at_≠0→∀c,modeB c=true→fitB (p.hf p.at_) c=false→fitB p.goal c=false
structure Iv(m:Ms)(L:List Int)(LR:List Rs):Prop where
 lv:∀x p,m.lv x=some p→PIv x p L LR
 st:∀x y p p',m.lv x=some p→m.lv y=some p'→p.stamp=p'.stamp→x=y
 qn:∀r,((m.qs r).map Prod.fst).Nodup
 qm:∀r x g,(x,g)∈m.qs r↔∃p,m.lv x=some p∧p.goal=g∧g≠0∧p.at_=r
 bl:∀r i x g,(m.qs r)[i]?=some (x,g)→∃y,inW (m.hl r) (m.qs r) x g i y
 jw:∀r i x g p,(m.qs r)[i]?=some (x,g)→m.lv x=some p→p.hurt=false→∀y p',inW (m.hl r) (m.qs r) x g i y→m.lv y=some p'→p.stamp<p'.stamp→p'.wd x=true
 ft:∀r y z,y≠z→m.hl r y≠0→m.hl r z≠0→fitB (m.hl r y) (m.hl r z)=true
theorem hl_some{m:Ms}{x:Int}{p:Pm}(h:m.lv x=some p)(r:Rs):m.hl r x=p.hf r:=by unfold Ms.hl;rw[h]
theorem hl_none{m:Ms}{x:Int}(h:m.lv x=none)(r:Rs):m.hl r x=0:=by unfold Ms.hl;rw[h]
theorem hl_live{m:Ms}{x:Int}{r:Rs}(h:m.hl r x≠0):∃p,m.lv x=some p∧p.hf r≠0:=by
 cases e:m.lv x with
 | none=>exact absurd (hl_none e r) h
 | some p=>exact⟨p,rfl,by rw[←hl_some e r];exact h⟩
theorem Iv.mode{m:Ms}{L:List Int}{LR:List Rs}(h:Iv m L LR)(r:Rs)(x:Int):m.hl r x=0∨modeB (m.hl r x)=true:=by
 by_cases e:m.hl r x=0
 ·exact .inl e
 ·obtain⟨p,hp,hf⟩:=hl_live e
  exact .inr (by rw[hl_some hp r];exact((h.lv x p hp).hf r hf).1)
theorem Iv.qmode{m:Ms}{L:List Int}{LR:List Rs}(h:Iv m L LR){r:Rs}{x g:Int}(hq:(x,g)∈m.qs r):∃p,m.lv x=some p∧p.goal=g∧p.at_=r∧modeB g=true:=by
 obtain⟨p,hp,hg,hn,ha⟩:=(h.qm r x g).1 hq
 exact⟨p,hp,hg,ha,by rw[←hg];exact((h.lv x p hp).g1 (by rw[hg];exact hn)).1⟩
theorem Iv.way{m:Ms}{L:List Int}{LR:List Rs}(h:Iv m L LR){r:Rs}{i:Nat}{x g y:Int}(hx:∀j g',j<i→(m.qs r)[j]?≠some (x,g'))(hw:inW (m.hl r) (m.qs r) x g i y):y≠x∧∃p,m.lv y=some p:=by
 rcases hw with ⟨h1,h2,-⟩|⟨j,g',hj,hq,-⟩
 ·obtain⟨p,hp,-⟩:=hl_live h1
  exact⟨h2,p,hp⟩
 ·obtain⟨p,hp,-⟩:=(h.qm r y g').1 (List.mem_of_getElem? hq)
  exact⟨fun e=>by subst e;exact hx j g' hj hq,p,hp⟩
theorem nodup_at{l:List (Int×Int)}(h:(l.map Prod.fst).Nodup){i j:Nat}{x g g':Int}(hi:l[i]?=some (x,g))(hj:l[j]?=some (x,g')):i=j:=by
 have h1:(l.map Prod.fst)[i]?=some x:=by rw[List.getElem?_map,hi];rfl
 have h2:(l.map Prod.fst)[j]?=some x:=by rw[List.getElem?_map,hj];rfl
 obtain⟨l1,e1⟩:=List.getElem?_eq_some_iff.1 h1
 obtain⟨l2,e2⟩:=List.getElem?_eq_some_iff.1 h2
 have hp:=List.pairwise_iff_getElem.1 h
 rcases Nat.lt_trichotomy i j with h3|h3|h3
 ·exact absurd (e1.trans e2.symm) (hp i j l1 l2 h3)
 ·exact h3
 ·exact absurd (e2.trans e1.symm) (hp j i l2 l1 h3)
def mNew(m:Ms)(x st:Int):Ms:={m with lv:=upd m.lv x (some ⟨st,fun _=>0,r0,0,fun _=>false⟩)}
theorem mNew_hl{m:Ms}{x st:Int}(hn:m.lv x=none):(mNew m x st).hl=m.hl:=funext fun r=>funext fun y=>by
 by_cases e:y=x
 ·subst e;rw[hl_none hn];simp[Ms.hl,mNew]
 ·simp[Ms.hl,mNew,upd_other e]
theorem iv_new{m:Ms}{L:List Int}{LR:List Rs}(h:Iv m L LR){x st:Int}(hx1:1≤x)(hxr:R64 x)(hxl:x∈L)(hs1:1≤st)(hn:m.lv x=none)(hs:∀y p,m.lv y=some p→p.stamp≠st):Iv (mNew m x st) L LR:=by
 have hne:∀y g r,(y,g)∈m.qs r→y≠x:=fun y g r hq e=>by
  obtain⟨p,hp,-⟩:=(h.qm r y g).1 hq
  rw[e,hn] at hp;cases hp
 refine⟨fun y p hp=>?_,fun y z p p' hp hp' e=>?_,h.qn,fun r y g=>?_,fun r i y g hq=>?_,fun r i y g p hq hp hh z p' hw hp' hlt=>?_,fun r y z e h1 h2=>by rw[mNew_hl hn] at h1 h2 ⊢;exact h.ft r y z e h1 h2⟩
 ·by_cases e:y=x
  ·subst e
   simp[mNew] at hp
   subst hp
   exact⟨hx1,hxr,hxl,hs1,fun _ h=>(by cases h),fun _ h=>absurd rfl h,fun _=>rfl,fun h=>absurd rfl h,fun h=>absurd rfl h⟩
  ·simp[mNew,upd_other e] at hp
   exact h.lv y p hp
 ·by_cases e1:y=x
  ·by_cases e2:z=x
   ·rw[e1,e2]
   ·subst e1
    simp[mNew] at hp
    simp[mNew,upd_other e2] at hp'
    subst hp
    exact absurd e.symm (hs z p' hp')
  ·by_cases e2:z=x
   ·subst e2
    simp[mNew] at hp'
    simp[mNew,upd_other e1] at hp
    subst hp'
    exact absurd e (hs y p hp)
   ·simp[mNew,upd_other e1] at hp
    simp[mNew,upd_other e2] at hp'
    exact h.st y z p p' hp hp' e
 ·show(y,g)∈m.qs r↔_
  by_cases e:y=x
  ·subst e
   constructor
   ·intro hq;exact absurd rfl (hne y g r hq)
   ·rintro⟨p,hp,hg,hn0,-⟩
    simp[mNew] at hp
    subst hp
    exact absurd hg.symm hn0
  ·rw[h.qm r y g]
   simp[mNew,upd_other e]
 ·rw[mNew_hl hn];exact h.bl r i y g hq
 ·rw[mNew_hl hn] at hw
  have e1:y≠x:=hne y g r (List.mem_of_getElem? hq)
  obtain⟨e2,q,hq2⟩:=h.way (fun j g' hj hj2=>by have:=nodup_at (h.qn r) hq hj2;omega) hw
  have e3:z≠x:=fun e=>by rw[e,hn] at hq2;cases hq2
  simp[mNew,upd_other e1] at hp
  simp[mNew,upd_other e3] at hp'
  exact h.jw r i y g p hq hp hh z p' hw hp' hlt
end
section
open Go.RowKit
noncomputable def canM(m:Ms)(st g:Int)(o:Int×Int):Bool:=match m.lv o.1 with|some b=>decide (b.stamp<st)&&!b.hurt&&!fitB g o.2|none=>false
noncomputable def paM(m:Ms)(p:Pm)(g:Int)(l:List (Int×Int)):Pm:={p with wd:=fun y=>p.wd y || l.any fun o=>decide (o.1=y)&&canM m p.stamp g o}
def turnM(m:Ms)(r:Rs)(x:Int):Nat:=if m.hl r x=0 then(m.qs r).length else upN (m.hl r) (m.qs r)
theorem paM_old{m:Ms}{p:Pm}{g y:Int}{l:List (Int×Int)}(h:p.wd y=true):(paM m p g l).wd y=true:=by simp[paM,h]
theorem paM_new{m:Ms}{p:Pm}{g y g':Int}{l:List (Int×Int)}(hm:(y,g')∈l){b:Pm}(hb:m.lv y=some b)(h1:b.stamp<p.stamp)(h2:b.hurt=false)(h3:fitB g g'=false):(paM m p g l).wd y=true:=by
 have:(l.any fun o=>decide (o.1=y)&&canM m p.stamp g o)=true:=List.any_eq_true.2 ⟨(y,g'),hm,by simp[canM,hb,h1,h2,h3]⟩
 simp[paM,this]
theorem paM_inv{m:Ms}{p:Pm}{g y:Int}{l:List (Int×Int)}(h:(paM m p g l).wd y=true):p.wd y=true∨∃g' b,(y,g')∈l∧m.lv y=some b∧b.stamp<p.stamp∧b.hurt=false∧fitB g g'=false:=by
 have h2:(p.wd y || l.any fun o=>decide (o.1=y)&&canM m p.stamp g o)=true:=h
 rw[Bool.or_eq_true] at h2
 rcases h2 with h2|h2
 ·exact .inl h2
 ·obtain⟨⟨z,g'⟩,hm,hc⟩:=List.any_eq_true.1 h2
  rw[Bool.and_eq_true] at hc
  obtain⟨hz,hc⟩:=hc
  have hz:z=y:=by simpa using hz
  subst hz
  unfold canM at hc
  cases hb:m.lv z with
  | none=>simp[hb] at hc
  | some b=>
   simp[hb] at hc
   exact .inr ⟨g',b,hm,rfl,hc.1.1,hc.1.2,hc.2⟩
theorem ft_upd{hl:Int→Int}{x g:Int}(h:∀y z,y≠z→hl y≠0→hl z≠0→fitB (hl y) (hl z)=true)(hn:∀y,hl y≠0→y≠x→fitB (hl y) g=true):∀y z,y≠z→upd hl x g y≠0→upd hl x g z≠0→fitB (upd hl x g y) (upd hl x g z)=true:=fun y z e h1 h2=>by
 by_cases ey:y=x
 ·have ez:z≠x:=fun ez=>e (ey.trans ez.symm)
  rw[ey,upd_same,upd_other ez,fitB_symm]
  rw[upd_other ez] at h2
  exact hn z h2 ez
 ·rw[upd_other ey] at h1⊢
  by_cases ez:z=x
  ·rw[ez,upd_same];exact hn y h1 ey
  ·rw[upd_other ez] at h2⊢
   exact h y z e h1 h2
noncomputable def mGrant(m:Ms)(x:Int)(p:Pm)(r:Rs)(g:Int)(a:Nat):Ms:={m with lv:=upd m.lv x (some {paM m p g ((m.qs r).drop a)with hf:=upd p.hf r g,at_:=r0,goal:=0})}
section
variable {m:Ms} {L:List Int} {LR:List Rs} {x:Int} {p:Pm} {r:Rs} {g mode:Int} {a:Nat}
theorem no_req(h:Iv m L LR)(hp:m.lv x=some p)(hg0:p.goal=0)(r':Rs)(g':Int):(x,g')∉m.qs r':=fun hq=>by
 obtain⟨q,hq1,hq2,hq3,-⟩:=(h.qm r' x g').1 hq
 rw[hp] at hq1
 cases hq1
 exact hq3 (hq2.symm.trans hg0)
theorem mGrant_hl(hp:m.lv x=some p)(r':Rs)(y:Int):(mGrant m x p r g a).hl r' y=if y=x then upd p.hf r g r' else m.hl r' y:=by
 by_cases e:y=x
 ·subst e;simp[Ms.hl,mGrant]
 ·simp[Ms.hl,mGrant,upd_other e,e]
theorem iv_grant(h:Iv m L LR)(hp:m.lv x=some p)(hg0:p.goal=0)(hr:GoodR r LR)(hm:modeB mode=true)(hg:g=joinI (p.hf r) mode)(hnb:¬∃y,inW (m.hl r) (m.qs r) x g a y):Iv (mGrant m x p r g a) L LR:=by
 have hnq:=no_req h hp hg0
 have hpi:=h.lv x p hp
 have hm0:p.hf r=0∨modeB (p.hf r)=true:=by rw[←hl_some hp r];exact h.mode r x
 have hgm:modeB g=true:=by rw[hg];exact joinI_mode hm0 hm
 have hlv:∀y,y≠x→(mGrant m x p r g a).lv y=m.lv y:=fun y e=>upd_other e
 have hlx:(mGrant m x p r g a).lv x=some {paM m p g ((m.qs r).drop a)with hf:=upd p.hf r g,at_:=r0,goal:=0}:=upd_same _ _ _
 refine⟨fun y q hq=>?_,fun y z q q' hq hq' e=>?_,h.qn,fun r' y g'=>?_,fun r' i z g' hz=>?_,fun r' i z g' q hz hq hh y q' hw hq' hlt=>?_,fun r'=>?_⟩
 ·by_cases e:y=x
  ·subst e
   rw[hlx] at hq
   cases hq
   refine⟨hpi.x1,hpi.xr,hpi.xl,hpi.s1,fun z hz=>?_,fun r' hr'=>?_,fun _=>rfl,fun hh=>absurd rfl hh,fun hh=>absurd rfl hh⟩
   ·rcases paM_inv hz with hz|⟨g',b,h1,h2,-⟩
    ·exact hpi.wd z hz
    ·exact⟨(h.lv z b h2).xr,(h.lv z b h2).xl⟩
   ·by_cases e:r'=r
    ·subst e
     exact⟨by show modeB (upd p.hf r' g r')=true;rw[upd_same];exact hgm,hr⟩
    ·have e2:upd p.hf r g r'=p.hf r':=upd_other e
     show modeB (upd p.hf r g r')=true∧_
     have hr2:upd p.hf r g r'≠0:=hr'
     rw[e2] at hr2⊢
     exact hpi.hf r' hr2
  ·rw[hlv y e] at hq
   exact h.lv y q hq
 ·by_cases e1:y=x
  ·by_cases e2:z=x
   ·rw[e1,e2]
   ·subst e1
    rw[hlx] at hq
    rw[hlv z e2] at hq'
    cases hq
    exact h.st y z p q' hp hq' e
  ·by_cases e2:z=x
   ·subst e2
    rw[hlx] at hq'
    rw[hlv y e1] at hq
    cases hq'
    exact h.st y z q p hq hp e
   ·rw[hlv y e1] at hq
    rw[hlv z e2] at hq'
    exact h.st y z q q' hq hq' e
 ·show(y,g')∈m.qs r'↔_
  by_cases e:y=x
  ·subst e
   constructor
   ·intro hq;exact absurd hq (hnq r' g')
   ·rintro⟨q,hq,h1,h2,-⟩
    rw[hlx] at hq
    cases hq
    exact absurd h1.symm h2
  ·rw[h.qm r' y g',hlv y e]
 ·have hz':(m.qs r')[i]?=some (z,g'):=hz
  have ezx:z≠x:=fun e=>hnq r' g' (by rw[←e];exact List.mem_of_getElem? hz')
  obtain⟨-,-,-,-,hgm'⟩:=h.qmode (List.mem_of_getElem? hz')
  obtain⟨y,hy⟩:=h.bl r' i z g' hz'
  refine⟨y,?_⟩
  rcases hy with ⟨h1,h2,h3⟩|hy
  ·refine .inl ⟨?_,h2,?_⟩
   ·rw[mGrant_hl hp]
    by_cases e:y=x
    ·rw[if_pos e]
     by_cases e2:r'=r
     ·rw[e2,upd_same];exact mode_ne hgm
     ·rw[upd_other e2,←hl_some hp r',←e];exact h1
    ·rw[if_neg e];exact h1
   ·rw[mGrant_hl hp]
    by_cases e:y=x
    ·rw[if_pos e]
     subst e
     by_cases e2:r'=r
     ·subst e2
      rw[upd_same,hg]
      rw[hl_some hp r'] at h1 h3
      exact fitB_join hm0 hm hgm' (fun _=>h3) h1
     ·rw[upd_other e2,←hl_some hp r'];exact h3
    ·rw[if_neg e];exact h3
  ·exact .inr hy
 ·have hz':(m.qs r')[i]?=some (z,g'):=hz
  have ezx:z≠x:=fun e=>hnq r' g' (by rw[←e];exact List.mem_of_getElem? hz')
  rw[hlv z ezx] at hq
  by_cases e:y=x
  ·subst e
   rw[hlx] at hq'
   cases hq'
   have hlt:q.stamp<p.stamp:=hlt
   show(paM m p g ((m.qs r).drop a)).wd z=true
   rcases hw with ⟨h1,h2,h3⟩|⟨j,g2,-,hj,-⟩
   ·rw[mGrant_hl hp,if_pos rfl] at h1 h3
    by_cases e2:r'=r
    ·subst e2
     rw[upd_same] at h3
     by_cases hia:i<a
     ·have h4:fitB g' g=true:=by
       cases e4:fitB g' g with
       | true=>rfl
       | false=>exact absurd ⟨z,.inr ⟨i,g',hia,hz',e4⟩⟩ hnb
      rw[fitB_symm,h3] at h4
      cases h4
     ·refine paM_new (g':=g') ?_ hq hlt hh h3
      have hd:((m.qs r').drop a)[i-a]?=some (z,g'):=by rw[List.getElem?_drop,show a+(i-a)=i by omega];exact hz'
      exact List.mem_of_getElem? hd
    ·rw[upd_other e2,←hl_some hp r'] at h1 h3
     exact paM_old (h.jw r' i z g' q hz' hq hh y p (.inl ⟨h1,h2,h3⟩) hp hlt)
   ·exact absurd (List.mem_of_getElem? hj) (hnq r' g2)
  ·rw[hlv y e] at hq'
   refine h.jw r' i z g' q hz' hq hh y q' ?_ hq' hlt
   rcases hw with ⟨h1,h2,h3⟩|hw
   ·rw[mGrant_hl hp,if_neg e] at h1 h3
    exact .inl ⟨h1,h2,h3⟩
   ·exact .inr hw
 ·by_cases e:r'=r
  ·subst e
   have e1:(mGrant m x p r' g a).hl r'=upd (m.hl r') x g:=funext fun y=>by
    rw[mGrant_hl hp]
    by_cases ey:y=x
    ·rw[if_pos ey,ey,upd_same,upd_same]
    ·rw[if_neg ey,upd_other ey]
   rw[e1]
   exact ft_upd (h.ft r') (fun y h1 h2=>by
    cases e4:fitB (m.hl r' y) g with
    | true=>rfl
    | false=>exact absurd ⟨y,.inl ⟨h1,h2,e4⟩⟩ hnb)
  ·have e1:(mGrant m x p r g a).hl r'=m.hl r':=funext fun y=>by
    rw[mGrant_hl hp]
    by_cases ey:y=x
    ·rw[if_pos ey,upd_other e,ey,hl_some hp]
    ·rw[if_neg ey]
   rw[e1]
   exact h.ft r'
end
end
section
open Go.RowKit
noncomputable def hitIf(c:Prop)(x:Int)(b:Pm):Pm:=@ite _ c (Classical.propDecidable _) (b.hit x) b
theorem hitIf_pos{c:Prop}(h:c)(x:Int)(b:Pm):hitIf c x b=b.hit x:=by unfold hitIf;exact @if_pos _ (Classical.propDecidable _) h _ _ _
theorem hitIf_neg{c:Prop}(h:¬c)(x:Int)(b:Pm):hitIf c x b=b:=by unfold hitIf;exact @if_neg _ (Classical.propDecidable _) h _ _ _
theorem hitIf_same(c:Prop)(x:Int)(b:Pm):(hitIf c x b).stamp=b.stamp∧(hitIf c x b).hf=b.hf∧(hitIf c x b).at_=b.at_∧(hitIf c x b).goal=b.goal∧(∀y,b.wd y=true→(hitIf c x b).wd y=true)∧(∀y,(hitIf c x b).wd y=true→b.wd y=true∨(c∧y=x))∧((hitIf c x b).hurt=false→b.hurt=false):=by
 by_cases h:c
 ·rw[hitIf_pos h]
  refine⟨rfl,rfl,rfl,rfl,fun y hy=>?_,fun y hy=>?_,fun hh=>?_⟩
  ·by_cases e:y=x
   ·subst e;simp[Pm.hit]
   ·simp[Pm.hit,upd_other e,hy]
  ·by_cases e:y=x
   ·exact .inr ⟨h,e⟩
   ·simp[Pm.hit,upd_other e] at hy
    exact .inl hy
  ·have:=Pm.hurt_no.1 hh x
   simp[Pm.hit] at this
 ·rw[hitIf_neg h]
  exact⟨rfl,rfl,rfl,rfl,fun _ hy=>hy,fun _ hy=>.inl hy,fun hh=>hh⟩
theorem put_at{qs:List (Int×Int)}{a:Nat}{x g:Int}(ha:a≤qs.length)(i:Nat):(putQ qs a x g)[i]?=if i<a then qs[i]? else if i=a then some (x,g)else qs[i-1]?:=by
 unfold putQ
 by_cases h1:i<a
 ·rw[if_pos h1,List.getElem?_append_left (by rw[List.length_take];omega),List.getElem?_take,if_pos h1]
 ·rw[if_neg h1,List.getElem?_append_right (by rw[List.length_take];omega),List.length_take,Nat.min_eq_left ha]
  by_cases h2:i=a
  ·rw[if_pos h2,h2,Nat.sub_self];rfl
  ·rw[if_neg h2]
   obtain⟨k,hk⟩:∃k,i-a=k+1:=⟨i-a-1,by omega⟩
   rw[hk,List.getElem?_cons_succ,List.getElem?_drop]
   congr 1
   omega
theorem put_mem{qs:List (Int×Int)}{a:Nat}{x g:Int}(o:Int×Int):o∈putQ qs a x g↔o=(x,g)∨o∈qs:=by
 unfold putQ
 rw[List.mem_append,List.mem_cons]
 constructor
 ·rintro(h|h|h)
  ·exact .inr (List.mem_of_mem_take h)
  ·exact .inl h
  ·exact .inr (List.mem_of_mem_drop h)
 ·rintro(h|h)
  ·exact .inr (.inl h)
  ·rw[←List.take_append_drop a qs] at h
   rcases List.mem_append.1 h with h|h
   ·exact .inl h
   ·exact .inr (.inr h)
noncomputable def mWait(m:Ms)(x:Int)(p:Pm)(r:Rs)(g:Int)(a:Nat):Ms:=
 {lv:=(fun y=>if y=x then some {paM m p g ((m.qs r).drop a)with at_:=r,goal:=g} else(m.lv y).map fun b=>hitIf ((paM m p g ((m.qs r).drop a)).hurt=false∧inW (m.hl r) (m.qs r) x g a y∧p.stamp<b.stamp) x b)
  qs:=upd m.qs r (putQ (m.qs r) a x g)}
section
variable {m:Ms} {L:List Int} {LR:List Rs} {x:Int} {p:Pm} {r:Rs} {g mode:Int} {a:Nat}
theorem mWait_x:(mWait m x p r g a).lv x=some {paM m p g ((m.qs r).drop a)with at_:=r,goal:=g}:=by simp[mWait]
theorem mWait_y{y:Int}(e:y≠x):(mWait m x p r g a).lv y=(m.lv y).map fun b=>hitIf ((paM m p g ((m.qs r).drop a)).hurt=false∧inW (m.hl r) (m.qs r) x g a y∧p.stamp<b.stamp) x b:=by simp[mWait,e]
theorem mWait_of{y:Int}{q:Pm}(e:y≠x)(h:(mWait m x p r g a).lv y=some q):∃b,m.lv y=some b∧q=hitIf ((paM m p g ((m.qs r).drop a)).hurt=false∧inW (m.hl r) (m.qs r) x g a y∧p.stamp<b.stamp) x b:=by
 rw[mWait_y e] at h
 cases hb:m.lv y with
 | none=>rw[hb] at h;cases h
 | some b=>rw[hb] at h;exact⟨b,rfl,by simpa using h.symm⟩
theorem mWait_hl(hp:m.lv x=some p):(mWait m x p r g a).hl=m.hl:=funext fun r'=>funext fun y=>by
 by_cases e:y=x
 ·subst e;rw[hl_some mWait_x,hl_some hp];rfl
 ·cases hb:m.lv y with
  | none=>rw[hl_none hb,hl_none (by rw[mWait_y e,hb];rfl)]
  | some b=>rw[hl_some hb,hl_some (by rw[mWait_y e,hb];rfl)];exact congrFun (hitIf_same _ x b).2.1 r'
theorem iv_wait(h:Iv m L LR)(hp:m.lv x=some p)(hg0:p.goal=0)(hr:GoodR r LR)(hm:modeB mode=true)(hg:g=joinI (p.hf r) mode)(ha:a≤(m.qs r).length)(hb:∃y,inW (m.hl r) (m.qs r) x g a y):Iv (mWait m x p r g a) L LR:=by
 have hnq:=no_req h hp hg0
 have hpi:=h.lv x p hp
 have hm0:p.hf r=0∨modeB (p.hf r)=true:=by rw[←hl_some hp r];exact h.mode r x
 have hgm:modeB g=true:=by rw[hg];exact joinI_mode hm0 hm
 have hhl:=mWait_hl (r:=r) (g:=g) (a:=a) hp
 have hqr:(mWait m x p r g a).qs r=putQ (m.qs r) a x g:=upd_same _ _ _
 have hqo:∀r',r'≠r→(mWait m x p r g a).qs r'=m.qs r':=fun r' e=>upd_other e
 -- what was in the way,and what is
 have way1:∀{i:Nat} {z g' y:Int},(putQ (m.qs r) a x g)[i]?=some (z,g')→z≠x→∃j,(m.qs r)[j]?=some (z,g')∧(a≤j→(z,g')∈(m.qs r).drop a)∧(inW (m.hl r) (m.qs r) z g' j y→inW (m.hl r) (putQ (m.qs r) a x g) z g' i y)∧(inW (m.hl r) (putQ (m.qs r) a x g) z g' i y→inW (m.hl r) (m.qs r) z g' j y∨(y=x∧fitB g g'=false∧a≤j)):=by
  intro i z g' y hz ezx
  rw[put_at ha] at hz
  by_cases h1:i<a
  ·rw[if_pos h1] at hz
   refine⟨i,hz,fun hh=>by omega,?_,?_⟩
   ·rintro(hy|⟨k,g2,hk,hq,hf⟩)
    ·exact .inl hy
    ·exact .inr ⟨k,g2,hk,by rw[put_at ha,if_pos (by omega)];exact hq,hf⟩
   ·rintro(hy|⟨k,g2,hk,hq,hf⟩)
    ·exact .inl (.inl hy)
    ·rw[put_at ha,if_pos (by omega)] at hq
     exact .inl (.inr ⟨k,g2,hk,hq,hf⟩)
  ·rw[if_neg h1] at hz
   by_cases h2:i=a
   ·rw[if_pos h2] at hz
    cases hz
    exact absurd rfl ezx
   ·rw[if_neg h2] at hz
    refine⟨i-1,hz,fun hh=>?_,?_,?_⟩
    ·have hd:((m.qs r).drop a)[i-1-a]?=some (z,g'):=by rw[List.getElem?_drop,show a+(i-1-a)=i-1 by omega];exact hz
     exact List.mem_of_getElem? hd
    ·rintro(hy|⟨k,g2,hk,hq,hf⟩)
     ·exact .inl hy
     ·by_cases h3:k<a
      ·exact .inr ⟨k,g2,by omega,by rw[put_at ha,if_pos h3];exact hq,hf⟩
      ·exact .inr ⟨k+1,g2,by omega,by rw[put_at ha,if_neg (by omega),if_neg (by omega),Nat.add_sub_cancel];exact hq,hf⟩
    ·rintro(hy|⟨k,g2,hk,hq,hf⟩)
     ·exact .inl (.inl hy)
     ·rw[put_at ha] at hq
      by_cases h3:k<a
      ·rw[if_pos h3] at hq
       exact .inl (.inr ⟨k,g2,by omega,hq,hf⟩)
      ·rw[if_neg h3] at hq
       by_cases h4:k=a
       ·rw[if_pos h4] at hq
        cases hq
        exact .inr ⟨rfl,hf,by omega⟩
       ·rw[if_neg h4] at hq
        exact .inl (.inr ⟨k-1,g2,by omega,hq,hf⟩)
 have wayx:∀{i:Nat} {g':Int},(putQ (m.qs r) a x g)[i]?=some (x,g')→i=a∧g'=g:=by
  intro i g' hz
  rw[put_at ha] at hz
  by_cases h1:i<a
  ·rw[if_pos h1] at hz;exact absurd (List.mem_of_getElem? hz) (hnq r g')
  ·rw[if_neg h1] at hz
   by_cases h2:i=a
   ·rw[if_pos h2] at hz;cases hz;exact⟨h2,rfl⟩
   ·rw[if_neg h2] at hz;exact absurd (List.mem_of_getElem? hz) (hnq r g')
 refine⟨fun y q hq=>?_,fun y z q q' hq hq' e=>?_,fun r'=>?_,fun r' y g'=>?_,fun r' i z g' hz=>?_,fun r' i z g' q hz hq hh y q' hw hq' hlt=>?_,fun r'=>by rw[hhl];exact h.ft r'⟩
 ·by_cases e:y=x
  ·subst e
   rw[mWait_x] at hq
   cases hq
   refine⟨hpi.x1,hpi.xr,hpi.xl,hpi.s1,fun z hz=>?_,hpi.hf,fun hh=>absurd hh (mode_ne hgm),fun _=>⟨hgm,hr⟩,fun _ h0 c hc hf=>?_⟩
   ·rcases paM_inv hz with hz|⟨g',b,h1,h2,-⟩
    ·exact hpi.wd z hz
    ·exact⟨(h.lv z b h2).xr,(h.lv z b h2).xl⟩
   ·show fitB g c=false
    rw[hg]
    exact fitB_join hm0 hm hc (fun _=>hf) h0
  ·obtain⟨b,hb1,rfl⟩:=mWait_of e hq
   obtain⟨e1,e2,e3,e4,-,e6,-⟩:=hitIf_same ((paM m p g ((m.qs r).drop a)).hurt=false∧inW (m.hl r) (m.qs r) x g a y∧p.stamp<b.stamp) x b
   have hi:=h.lv y b hb1
   refine⟨hi.x1,hi.xr,hi.xl,by rw[e1];exact hi.s1,fun z hz=>?_,fun r' hr'=>?_,fun hg=>?_,fun hg=>?_,by rw[e2,e3,e4];exact hi.up⟩
   ·rcases e6 z hz with hz|⟨-,rfl⟩
    ·exact hi.wd z hz
    ·exact⟨hpi.xr,hpi.xl⟩
   ·rw[e2] at hr' ⊢;exact hi.hf r' hr'
   ·rw[e4] at hg;rw[e3];exact hi.g0 hg
   ·rw[e4] at hg ⊢;rw[e3];exact hi.g1 hg
 ·have key:∀y q,(mWait m x p r g a).lv y=some q→∃b,m.lv y=some b∧q.stamp=b.stamp:=fun y q hq=>by
   by_cases e:y=x
   ·subst e;rw[mWait_x] at hq;cases hq;exact⟨p,hp,rfl⟩
   ·obtain⟨b,hb1,rfl⟩:=mWait_of e hq
    exact⟨b,hb1,(hitIf_same _ x b).1⟩
  obtain⟨b,h1,h2⟩:=key y q hq
  obtain⟨b',h3,h4⟩:=key z q' hq'
  exact h.st y z b b' h1 h3 (by rw[←h2,←h4];exact e)
 ·by_cases e:r'=r
  ·subst e
   rw[hqr]
   unfold putQ
   rw[List.map_append,List.map_cons,List.nodup_append]
   have hnd:=h.qn r'
   rw[←List.take_append_drop a (m.qs r'),List.map_append,List.nodup_append] at hnd
   obtain⟨n1,n2,n3⟩:=hnd
   refine⟨n1,List.nodup_cons.2 ⟨fun hh=>?_,n2⟩,fun c hc d hd e2=>?_⟩
   ·obtain⟨⟨u,v⟩,hu,hu2⟩:=List.mem_map.1 hh
    have hu2:u=x:=hu2
    subst hu2
    exact hnq r' v (List.mem_of_mem_drop hu)
   ·rcases List.mem_cons.1 hd with hd|hd
    ·obtain⟨⟨u,v⟩,hu,hu2⟩:=List.mem_map.1 hc
     have hu2:u=c:=hu2
     have hd2:d=x:=hd
     rw[hd2] at e2
     rw[hu2,e2] at hu
     exact hnq r' v (List.mem_of_mem_take hu)
    ·exact n3 c hc d hd e2
  ·rw[hqo r' e];exact h.qn r'
 ·by_cases ex:y=x
  ·subst ex
   constructor
   ·intro hq
    by_cases e:r'=r
    ·subst e
     rw[hqr,put_mem] at hq
     rcases hq with hq|hq
     ·cases hq
      exact⟨_,mWait_x,rfl,mode_ne hgm,rfl⟩
     ·exact absurd hq (hnq r' g')
    ·rw[hqo r' e] at hq;exact absurd hq (hnq r' g')
   ·rintro⟨q,hq,h1,h2,h3⟩
    rw[mWait_x] at hq
    cases hq
    have h3:r=r':=h3
    have h1:g=g':=h1
    subst h3 h1
    rw[hqr,put_mem];exact .inl rfl
  ·have h1:(y,g')∈(mWait m x p r g a).qs r'↔(y,g')∈m.qs r':=by
    by_cases e:r'=r
    ·subst e
     rw[hqr,put_mem]
     constructor
     ·rintro(hh|hh)
      ·cases hh;exact absurd rfl ex
      ·exact hh
     ·exact .inr
    ·rw[hqo r' e]
   rw[h1,h.qm r' y g']
   constructor
   ·rintro⟨b,hb1,hb2,hb3,hb4⟩
    refine⟨_,by rw[mWait_y ex,hb1];rfl,?_,hb3,?_⟩
    ·rw[(hitIf_same _ x b).2.2.2.1];exact hb2
    ·rw[(hitIf_same _ x b).2.2.1];exact hb4
   ·rintro⟨q,hq,h1,h2,h3⟩
    obtain⟨b,hb1,rfl⟩:=mWait_of ex hq
    rw[(hitIf_same _ x b).2.2.2.1] at h1
    rw[(hitIf_same _ x b).2.2.1] at h3
    exact⟨b,hb1,h1,h2,h3⟩
 ·rw[hhl]
  by_cases e:r'=r
  ·subst e
   rw[hqr] at hz⊢
   by_cases ex:z=x
   ·subst ex
    obtain⟨rfl,rfl⟩:=wayx hz
    obtain⟨y,hy⟩:=hb
    exact⟨y,(inW_put ha).2 hy⟩
   ·obtain⟨j,hj,-⟩:=way1 (y:=0) hz ex
    obtain⟨y,hy⟩:=h.bl r' j z g' hj
    obtain⟨j',hj',-,hw,-⟩:=way1 (y:=y) hz ex
    have:=nodup_at (h.qn r') hj hj'
    subst this
    exact⟨y,hw hy⟩
  ·rw[hqo r' e] at hz⊢
   exact h.bl r' i z g' hz
 ·rw[hhl] at hw
  -- a request that is not the new one
  have old:∀j,(m.qs r')[j]?=some (z,g')→z≠x→inW (m.hl r') (m.qs r') z g' j y→q'.wd z=true:=fun j hj ezx hw7=>by
   obtain⟨b,hb1,rfl⟩:=mWait_of ezx hq
   have hbh:=(hitIf_same _ x b).2.2.2.2.2.2 hh
   rw[(hitIf_same _ x b).1] at hlt
   by_cases ey:y=x
   ·subst ey
    rw[mWait_x] at hq'
    cases hq'
    exact paM_old (h.jw r' j z g' b hj hb1 hbh y p hw7 hp hlt)
   ·obtain⟨c,hc1,rfl⟩:=mWait_of ey hq'
    rw[(hitIf_same _ x c).1] at hlt
    exact(hitIf_same _ x c).2.2.2.2.1 z (h.jw r' j z g' b hj hb1 hbh y c hw7 hc1 hlt)
  by_cases e:r'=r
  ·subst e
   rw[hqr] at hz hw
   by_cases ex:z=x
   ·subst ex
    obtain⟨rfl,rfl⟩:=wayx hz
    rw[mWait_x] at hq
    cases hq
    have hw2:=(inW_put ha).1 hw
    obtain⟨eyx,-⟩:=h.way (fun j g2 _ hj=>hnq r' g2 (List.mem_of_getElem? hj)) hw2
    obtain⟨c,hc1,rfl⟩:=mWait_of eyx hq'
    have hlt:p.stamp<(hitIf _ z c).stamp:=hlt
    rw[(hitIf_same _ z c).1] at hlt
    have hh2:(paM m p g' ((m.qs r').drop i)).hurt=false:=hh
    rw[hitIf_pos ⟨hh2,hw2,hlt⟩]
    simp[Pm.hit]
   ·obtain⟨j,hj,hdr,-,hw2⟩:=way1 (y:=y) hz ex
    rcases hw2 hw with hw3|⟨rfl,hf,haj⟩
    ·exact old j hj ex hw3
    ·obtain⟨b,hb1,rfl⟩:=mWait_of ex hq
     have hbh:=(hitIf_same _ y b).2.2.2.2.2.2 hh
     rw[(hitIf_same _ y b).1] at hlt
     rw[mWait_x] at hq'
     cases hq'
     exact paM_new (hdr haj) hb1 hlt hbh hf
  ·rw[hqo r' e] at hz hw
   exact old i hz (fun ex=>hnq r' g' (by rw[←ex];exact List.mem_of_getElem? hz)) hw
end
end
end Go.Proofs.YtadfaiciolfgjaaGreatDoor
