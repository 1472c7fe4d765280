import Derived.LoopN
import Derived.Laws.Tables
import Derived.OwnWalkIn
import Derived.RangeFuncCalls
import Derived.Deep.RegionHeld3
import Derived.Test.YtadfaiciolfgjaaGreatDoorLk15
import Derived.Test.YtadfaiciolfgjaaGreatDoorShIx
namespace Go.Proofs.YtadfaiciolfgjaaGreatDoor
open Go.Proofs.Tryz
set_option maxHeartbeats 1000000
set_option maxRecDepth 100000
section
open Go.RowKit Go.Shelf
def encH(q:Int×Int):List Value:=[I q.1,I q.2]
theorem pred_txn(x:Int)(B:Nat)(w:World)(hB:Blk w B 3 [I x]):PredBelow prog 68 #[ptr B] (fun q=>.agg (encH q).toArray) (fun q=>decide (q.1=x)) w:=fun W q hb=>by
 have hc:=(hB.G hb).cell
 have hc':W.cell? ⟨B,0,none⟩=some (I x):=hc 0
 have hBW:B<W.heap.size:=(hB.G hb).lt
 have hne:B≠W.heap.size:=by omega
 clear hc
 show Calls prog 68 #[.agg #[I q.1,I q.2],ptr B] W _
 go_enter func68,ntmps68
 go_wp2
 all_goals (go_ret;exact⟨by simp_all;rw[Bool.eq_iff_iff];simp,hb.alloc hb.size _⟩)
theorem idx_nil(fv:Value)(w:World):Calls prog 100 #[.slice none 0 0,fv] w fun e w'=>e=.returned (I (-1))∧w'=w:=by
 go_enter func100,ntmps100
 go_wp2
 refine wp_loop_rounds 1 ?_
 rw[rounds_succ]
 go_wp2
 go_ret
 exact⟨rfl,rfl⟩
theorem idx_none(qs:List (Int×Int))(v:Value)(x:Int)(B:Nat)(w:World)(hq:QSl w v qs)(hB:Blk w B 3 [I x])(hno:∀q∈qs,q.1≠x)(hlen:qs.length≤maxLen):Calls prog 100 #[v,.func (.func 68) #[] #[ptr B]] w fun e w'=>e=.returned (I (-1))∧G w w':=by
 have hq0:=hq
 rcases hq with ⟨rfl,rfl⟩|⟨g,cap,rest,rfl,hb,_⟩
 ·exact(idx_nil _ w).mono fun e w' ⟨he,hw⟩=>⟨he,by rw[hw];exact G.refl _⟩
 ·have hm:maxLen≤9223372036854775807:=of_decide_eq_true (by kernel_rfl)
  have hcon:=AnyQ.slices_IndexFunc Tryz.idxHeld 2 isAgg68 sizeOf68 encH (fun _=>rfl) (fun q=>decide (q.1=x)) 68 #[ptr B] (enters_of func68 (by kernel_rfl) rfl) g 0 qs.length cap qs w (pred_txn x B w hB) (Nat.le_refl _) (by omega) hb.lt (fun j hj i u hi=>by
   obtain⟨q,hqj⟩:∃q,qs[j]?=some q:=⟨_,List.getElem?_eq_getElem hj⟩
   have e:qs[j]! = q:=by simp[hqj]
   rw[e] at hi
   have h2:=hq0.at hqj
   rw[Nat.zero_add]
   match i,hi with
   | 0,hi=>simp[encH] at hi;rw[←hi];exact h2.1
   | 1,hi=>simp[encH] at hi;rw[←hi];exact h2.2
   | i+2,hi=>simp[encH] at hi)
  rw[Lib.idxBy_miss _ qs qs.length _ (fun j hj=>by
   obtain⟨q,hqj⟩:∃q,qs[j]?=some q:=⟨_,List.getElem?_eq_getElem hj⟩
   have e:qs[j]! = q:=by simp[hqj]
   rw[e]
   exact decide_eq_false (hno q (List.mem_of_getElem? hqj)))] at hcon
  change Calls prog 100 _ _ _ at hcon
  exact hcon.mono fun e w' h=>h
theorem del_none(qs:List (Int×Int))(v:Value)(x:Int)(B:Nat)(w:World)(hq:QSl w v qs)(hB:Blk w B 3 [I x])(hno:∀q∈qs,q.1≠x)(hlen:qs.length≤maxLen):Calls prog 67 #[v,.func (.func 68) #[] #[ptr B]] w fun e w'=>e=.returned v∧G w w':=by
 have K:=hide (idx_none qs v x B w hq hB hno hlen)
 clear hq hB hno hlen
 go_enter func67,ntmps67
 go_wp2_with (first|(go_at_call 100;refine K.out.mono ?_;rintro e w' ⟨rfl,hg⟩)|fail)
 go_ret
 exact⟨rfl,hg⟩
end
section
open Go.RowKit
theorem wp_del{α:Type} [DecidableEq α]{enc:α→Value}{k:TypeId}{b:Nat}{g:α→Option Value}{w:World}{op:Oper}{a:Act}{K:Act→World→Prop}{Q:Exit→Act→World→Prop}
  (m x:Operand) (t:TypeId) (hop:op.op=Op.call {callee:=Callee.builtin Builtin.delete,args:=#[m,x],argTypes:=#[t,k]}) (h:Mp enc k w b g) (hm:a.eval m=.map (some b)) (Y:Ky enc k)
  {e:TypeId} (ht:prog.underlying t=some (.map k e)) (key:α) (hx:a.eval x=enc key) (ha:KyOk enc k key)
  (hK:∀w',Mp enc k w' b (upd g key none)→Chg (fun k=>k=b) w w'→w'.heap.size=w.heap.size→K (a.put op.dst (.tuple #[])) w'):op.wp prog a w K Q:=by
 obtain⟨w',hrun,r1,r2,r3⟩:=h.del Y ht ha op.type
 unfold Oper.wp
 simp[execOp,hop,resolve,invoke,builtin,hm,hx,hrun,Result.andThen]
 exact hK w' r1 r2 r3
theorem nz_upd0{α:Type} [DecidableEq α](f:α→Int)(x:α)(a:α):upd (fun x=>nz (f x)) x none a=nz (upd f x 0 a):=by
 simp only[upd]
 split<;>simp[nz]
theorem leave_none(t:Nat)(s:Gs)(x:Int)(r:Rs)(q:Pl)(w:World)(h:TT w t s)(hx:R64 x)(hq:s.pl r=some q)(hno:∀o∈q.qs,o.1≠x)(hlen:q.qs.length≤maxLen) :
  Calls prog 34 #[ptr q.blk,I x] w fun e w'=>e=.returned (.tuple #[])∧TT w' t (s.setPl r (q.hold x 0))∧Ext w w' s (s.setPl r (q.hold x 0)):=by
 have HS:Hid ((fun W=>TT W t s∧Blk W w.heap.size 3 [I x]∧G w W) ((w.alloc (.cells #[I x] 3)).drew)):=by
  have g:=(G.refl w).alloc (.cells #[I x] 3)
  exact⟨h.G g.drew,(Blk.new w [I x] 3).drew,g.drew⟩
 have HT:=hide h;have HX:=hide hx;have HQ:=hide hq;have HNO:=hide hno;have HLEN:=hide hlen
 clear h hx hq hno hlen
 go_enter func34,ntmps34
 go_wp2
 generalize w.alloc (.cells #[I x] 3)=W0 at HS⊢
 obtain⟨h1,h2,h3⟩:=HS.out
 have hqn:w.heap.size≠q.hb:=by
  have:=HT.out.lt _ _ (HT.out.pl r q HQ.out).t2
  omega
 refine wp_region_noPanic ?_
 refine wp_region_held_drew (S:=(fun W=>Blk W q.blk 109 [.map (some q.hb),q.q]∧Blk W w.heap.size 3 [I x])) (by kernel_rfl) (⟨(h1.pl r q HQ.out).blk,h2⟩) (fun hHeld=>?_)
 refine wpAnyH_take (i:=0) (v:=?_) rfl (by kernel_rfl) (by kernel_rfl) (by kernel_rfl) (fun _ _ _ h=>h) (Or.inl ⟨by rfl,?_⟩) hHeld ?_
 rotate_left 1
 ·(intro w hSw;obtain⟨h1,h2⟩:=hSw;have hc:=h1.cell;have hx:=h2.cell;go_simp;try with_reducible rfl)
 try simp only[Act.put,zzA,zzB,zzD,zzE,zzF]
 refine wpAnyH_take (i:=1) (v:=?_) rfl (by kernel_rfl) (by kernel_rfl) (by kernel_rfl) (fun _ _ _ h=>h) (Or.inl ⟨by rfl,?_⟩) hHeld ?_
 rotate_left 1
 ·(intro w hSw;obtain⟨h1,h2⟩:=hSw;have hc:=h1.cell;have hx:=h2.cell;go_simp;try with_reducible rfl)
 try simp only[Act.put,zzA,zzB,zzC,zzD,zzE,zzF]
 refine wpAnyH_take (i:=2) (v:=?_) rfl (by kernel_rfl) (by kernel_rfl) (by kernel_rfl) (fun _ _ _ h=>h) (Or.inl ⟨by rfl,?_⟩) hHeld ?_
 rotate_left 1
 ·(intro w hSw;obtain⟨h1,h2⟩:=hSw;have hc:=h1.cell;have hx:=h2.cell;go_simp;try with_reducible rfl)
 try simp only[Act.put,zzA,zzB,zzC,zzD,zzE,zzF]
 refine wpAnyH_take (i:=3) (v:=?_) rfl (by kernel_rfl) (by kernel_rfl) (by kernel_rfl) (fun _ _ _ h=>h) (Or.inl ⟨by rfl,?_⟩) hHeld ?_
 rotate_left 1
 ·(intro w hSw;obtain⟨h1,h2⟩:=hSw;have hc:=h1.cell;have hx:=h2.cell;go_simp;try with_reducible rfl)
 try simp only[Act.put,zzA,zzB,zzC,zzD,zzE,zzF]
 refine wpAnyH_take (i:=4) (v:=?_) rfl (by kernel_rfl) (by kernel_rfl) (by kernel_rfl) (fun _ _ _ h=>h) (Or.inl ⟨by rfl,?_⟩) hHeld ?_
 rotate_left 1
 ·(intro w hSw;obtain⟨h1,h2⟩:=hSw;have hc:=h1.cell;have hx:=h2.cell;go_simp;try with_reducible rfl)
 try simp only[Act.put,zzA,zzB,zzC,zzD,zzE,zzF]
 refine wpAnyH_ready (rs:=[5]) (by kernel_rfl) (by simp) (AllReadyH.cons rfl (fun K hK=>?_) AllReadyH.nil)
 clear hHeld
 refine wp_del _ _ 107 rfl (h1.pl r q HQ.out).hm rfl kyI underlying107 x rfl (kyI_ok.2 HX.out) (fun w5 hm5 hch5 hsz5=>?_)
 refine hK.out _ _ (⟨(h1.pl r q HQ.out).blk.chg hch5 (h1.pl r q HQ.out).ne.1,h2.chg hch5 hqn⟩) (fun hHeld=>?_)
 clear hK K
 try simp only[Act.put,zzA,zzB,zzC]
 refine wpAnyH_done (by kernel_rfl) ?_ _
 refine NoPanic.normal ?_
 clear hqn
 have ho:=h1.pl r q HQ.out
 have hqlt:=HT.out.lt _ _ (HT.out.pl r q HQ.out).t2
 obtain⟨T5,E5⟩:=h1.setPl (q':=q.hold x 0) HQ.out rfl (hch5.mono (fun b e=>by rw[e];exact .inr (.inl ho.t2))) ⟨ho.blk.chg hch5 ho.ne.1,hm5.congr (nz_upd0 q.hf x),ho.q.keep (fun b e=>hch5.block b (h1.lt _ _ (ho.t3 b e)) (ho.ne.2 b e).2),ho.t1,ho.t2,ho.t3⟩
 have HB5:=hide (h2.chg hch5 (by omega))
 have HT5:=hide T5
 have HE5:=hide ((G.ext s h3).trans E5)
 clear hqlt T5 E5 ho h1 h2 h3 hm5 hch5 hsz5 HS
 have hq5:(s.setPl r (q.hold x 0)).pl r=some (q.hold x 0):=by simp[Gs.setPl]
 have HQ5:=hide hq5
 have ho5:=HT5.out.pl r _ hq5
 have hb5:Blk w5 q.blk 109 [.map (some q.hb),q.q]:=ho5.blk
 have hqq:QSl w5 q.q q.qs:=ho5.q
 have KD:=hide (del_none q.qs q.q x w.heap.size w5 hqq HB5.out HNO.out HLEN.out)
 have hc5:=hb5.cell
 have HBB:=hide hb5
 clear hq5 ho5 hb5 hqq
 obtain⟨qa,qn,qcap,hqv⟩:∃a n c,q.q=.slice a n c:=by
  rcases(HT.out.pl r q HQ.out).q with ⟨e,_⟩|⟨g,cap,rest,e,_⟩
  iterate 2
   ·exact⟨_,_,_,e⟩
 rw[hqv] at hc5 KD HBB
 have HQV:=hide hqv
 clear hqv
 go_wp2_with (first|(go_at_call 67;refine KD.out.mono ?_;rintro e w6 ⟨rfl,hg6⟩;have hb6:=HBB.out.G hg6;have hc6:=hb6.cell;have hf6:=hb6.frozen)|fail)
 go_end0
 have T6:=HT5.out.G hg6
 have ho6:=T6.pl r _ HQ5.out
 have hch6:=chgk w6 q.blk 1 (.slice qa qn qcap)
 have hb7:=hb6.set 1 (.slice qa qn qcap)
 obtain⟨T7,E7⟩:=T6.setPl (q':=q.hold x 0) HQ5.out rfl (hch6.mono (fun b e=>by rw[e];exact .inl ho6.t1)) ⟨by
  have:Blk (w6.setCell ⟨q.blk,1,none⟩ (.slice qa qn qcap)) q.blk 109 [.map (some q.hb),q.q]:=by rw[HQV.out];exact hb7
  exact this,ho6.hm.chg hch6 (Ne.symm ho6.ne.1),ho6.q.keep (fun b e=>hch6.block b (T6.lt _ _ (ho6.t3 b e)) (ho6.ne.2 b e).1),ho6.t1,ho6.t2,ho6.t3⟩
 rw[Gs.setPl_setPl] at T7 E7
 exact⟨rfl,T7,(HE5.out.G hg6).trans E7⟩
end
section
open Go.RowKit
section
variable {P:Program} {ops:Array Oper} {rest:List Oper} {op:Oper} {a:Act} {w:World} {K:Act→World→Prop} {Q:Exit→Act→World→Prop}
theorem wp_of_exec{v:Value}{w':World}(h:(execOp a.eval op).run P w=.ok (.value v) w')(hK:K (a.put op.dst v) w'):op.wp P a w K Q:=by
 unfold Oper.wp
 rw[h]
 exact hK
theorem exec_append{ρ:Operand→Value}(s x:Operand)(t:TypeId)(ho:op.op=.call {callee:=.builtin .append,args:=#[s,x],argTypes:=#[t,t]})(y z:Value)(hs:ρ s=y)(hx:ρ x=z)(ty:TypeId)(hty:op.type=ty){v:Value}{w':World}(h:(Builtin.append_ #[t,t] ty #[y,z]).run P w=.ok v w'):(execOp ρ op).run P w=.ok (.value v) w':=by
 subst hty
 unfold execOp
 simp only[ho,resolve,invoke,builtin,Sem.run_bind,Sem.run_pure,Result.andThen_ok,List.map_toArray,List.map_cons,List.map_nil,hs,hx,h]
end
theorem wpList_append_run{P:Program}{w:World}{ops:Array Oper}{rest:List Oper}{o:Oper}{a:Act}{Q:Exit→Act→World→Prop}(hgd:o.guard=none)(s x:Operand)(t:TypeId)
  (ho:o.op=.call {callee:=.builtin .append,args:=#[s,x],argTypes:=#[t,t]}) (v z:Value) (hs:a.eval s=v) (hx:a.eval x=z) {v':Value} {w':World} (hr:(Builtin.append_ #[t,t] o.type #[v,z]).run P w=.ok v' w')
  (h:wpList P ops Q rest (a.put o.dst v') w'):wpList P ops Q (o::rest) a w:=by
 refine wpList_plain hgd fun K hK=>?_
 unfold Oper.wp execOp
 simp only[ho,resolve,invoke,builtin,Sem.run_bind,Sem.run_pure,Result.andThen_ok,List.map_toArray,List.map_cons,List.map_nil,hs,hx,hr]
 exact hK _ _ h
theorem wpListIn_append_run{F:Fence}{n:Nat}{P:Program}{w:World}{ops:Array Oper}{rest:List Oper}{o:Oper}{a:Act}{Q:Exit→Act→World→Prop}(hgd:o.guard=none)(s x:Operand)(t:TypeId)
  (ho:o.op=.call {callee:=.builtin .append,args:=#[s,x],argTypes:=#[t,t]}) (v z:Value) (hs:a.eval s=v) (hx:a.eval x=z) {v':Value} {w':World} (hr:(Builtin.append_ #[t,t] o.type #[v,z]).run P w=.ok v' w')
  (h:wpListIn F n P ops Q rest (a.put o.dst v') w'):wpListIn F n P ops Q (o::rest) a w:=by
 refine wpListIn_plain hgd fun K hK=>?_
 unfold Oper.wpIn
 refine⟨?_,?_⟩
 ·simp[Oper.about,ho,resolve,Target.leads,Sem.run_pure]
 ·rw[Oper.semAt_plain F _ _ (by rw[ho];intro c hc';cases hc')]
  simp[execOp,ho,resolve,invoke,builtin,hs,hx,hr,Result.andThen]
  exact hK _ _ h
def Tame(Q:Exit→Act→World→Prop):Exit→Act→World→Prop
 | .panic _,_,_=>False
 | .outgrown,_,_=>False
 | e,a,w=>Q e a w
theorem Tame.normal{Q:Exit→Act→World→Prop}{a:Act}{w:World}(h:Q .normal a w):Tame Q .normal a w:=h
theorem Tame.imp{Q:Exit→Act→World→Prop}:∀(e:Exit) (a:Act) (w:World),Tame Q e a w→Q e a w:=fun e a w h=>by
 cases e<;>first|exact h|exact(h:False).elim
theorem Tame.shut{Q:Exit→Act→World→Prop}:¬LetsOut (Tame Q):=fun ⟨_,_,h⟩=>h
def noDefer(ops:Array Oper):Bool:=ops.all fun o=>match o.op with|.defer _=>false|_=>true
theorem noDefer_spec{ops:Array Oper}(h:noDefer ops=true){i:Nat}{o:Oper}(ho:ops[i]?=some o)(c:Call):o.op≠.defer c:=fun e=>by
 have:=(Array.all_eq_true_iff_forall_mem.1 h) o (Array.mem_of_getElem? ho)
 rw[e] at this
 cases this
theorem op_inRound{l n:Nat}{P:Program}{o:Oper}{a:Act}{w:World}{K:Act→World→Prop}{Q:Exit→Act→World→Prop}(hd:∀c,o.op≠.defer c)(h:o.wp P a w K Q):o.wpIn (Fence.wide.inRound l) n P a w K Q:=by
 unfold Oper.wpIn
 refine⟨fun _ _=>trivial,?_⟩
 rw[Oper.semAt_eq _ _ _ hd]
 unfold Oper.wp at h
 have hn:(Fence.wide.inRound l).depth.isSome=true→1≤n:=fun h=>by simp[Fence.inRound,Fence.wide] at h
 generalize (execOp a.eval o).run P w=r at *
 cases r with
 | ok x w'=>
  cases x<;>simp only[Oper.upon,Oper.uponIn] at h⊢<;> first
   | exact h
   | exact⟨hn,CallsIn.inRound l (callsIn_wide.2 h)⟩
   | exact⟨hn,fun c cs _=>let ⟨v,w',r,s⟩:=h c cs;⟨v,w',r,(stepsIn_wide (P:=P)).2 s⟩⟩
   | exact h.elim
 | halt x w'=>cases x<;>simp only[Oper.upon,Oper.uponIn] at h⊢<;> exact h
theorem any_inRound{l n:Nat}{P:Program}{md:Region.Mode}{ops:Array Oper}{Q:Exit→Act→World→Prop}(hd:noDefer ops=true)(hQ:¬LetsOut Q):∀(fuel:Nat) (listed:Array Bool) (a:Act) (w:World),wpAny P md ops Q fuel listed a w→wpAnyIn (Fence.wide.inRound l) n P md ops Q fuel listed a w
 | 0,_,_,_,h=>h
 | fuel+1,listed,a,w,h=>⟨h.1,fun i hi=>by
  have h2:=h.2 i hi
  unfold wpOp at h2
  unfold wpOpIn
  cases ho:ops[i]? with
  | none=>
   simp only[ho] at h2⊢
   exact any_inRound hd hQ fuel _ _ _ h2
  | some o=>
   simp only[ho] at h2⊢
   split
   ·rename_i hw
    simp only[hw,if_true] at h2
    rcases h2 with h3|⟨_,h3⟩
    ·exact Oper.wpIn_mono (fun a w=>any_inRound hd hQ fuel _ a w) (op_inRound (noDefer_spec hd ho) h3)
    ·exact absurd h3 hQ
   ·rename_i hw
    simp only[hw] at h2
    exact⟨fun _ _=>trivial,any_inRound hd hQ fuel _ _ _ h2⟩⟩
theorem wpIn_round_held{l n:Nat}{P:Program}{ops:Array Oper}{Q:Exit→Act→World→Prop}{S:World→Prop}{id:Nat}{a:Act}{w:World}(hm:P.follows .mixedOrders=true)(hd:noDefer ops=true)(hS:S w.drew)
  (h:S w.drew→wpAnyH P .any ops (Tame Q) S ops.size (Array.replicate ops.size false) a w.drew):(Code.region id ops true).wpIn (Fence.wide.inRound l) n P Q a w:=
 wpIn_mono (wpIn_region_any hm (any_inRound hd Tame.shut _ _ _ _ (wpAny_of_held _ _ _ _ (h hS)))) Tame.imp
end
end Go.Proofs.YtadfaiciolfgjaaGreatDoor
