import Derived.Test.YtadfaiciolfgjaaGreatDoorLkL
namespace Go.Proofs.YtadfaiciolfgjaaGreatDoor
open Go.Proofs.Tryz
set_option maxHeartbeats 1000000
set_option maxRecDepth 100000
section
open Go.RowKit
theorem wp_put{α:Type} [DecidableEq α]{enc:α→Value}{k:TypeId}{b:Nat}{g:α→Option Value}{w:World}{op:Oper}{a:Act}{K:Act→World→Prop}{Q:Exit→Act→World→Prop}
  (m x v:Operand) (t:TypeId) (hop:op.op=Op.mapUpdate t m x v) (h:Mp enc k w b g) (hm:a.eval m=.map (some b)) (Y:Ky enc k) (L:List α) (hL:∀a,KyOk enc k a→g a≠none→a∈L) (hl:L.length<maxLen)
  {e:TypeId} (ht:prog.underlying t=some (.map k e)) (key:α) (hx:a.eval x=enc key) (ha:KyOk enc k key) (val:Value) (hv:a.eval v=val)
  (hK:∀w',Mp enc k w' b (upd g key (some val))→Chg (fun k=>k=b) w w'→w'.heap.size=w.heap.size→K (a.put op.dst undef) w'):op.wp prog a w K Q:=by
 obtain⟨w',hrun,r1,r2,r3⟩:=h.put Y L hL hl ht ha val
 unfold Oper.wp
 simp[execOp,hop,hm,hx,hv,hrun,Result.andThen]
 exact hK w' r1 r2 r3
def Pl.isNew(p:Pl):Prop:=p.q=.slice none 0 0∧(∀x,p.hf x=0)∧p.qs=[]
theorem placeOf_there(t:Nat)(s:Gs)(r:Rs)(q:Pl)(w:World)(h:TT w t s)(hr:r.ok)(hq:s.pl r=some q):Calls prog 54 #[ptr t,r.v] w fun e w'=>e=.returned (ptr q.blk)∧G w w':=by
 have g1:=(G.refl w).alloc (.cells #[I r.lv,.string r.lb,I r.id] 33)
 have hb:=(Blk.new w [I r.lv,.string r.lb,I r.id] 33).cell
 have hc:=(h.tb.G g1).cell
 have hl:=(h.pm.G g1).lookN kyR underlying79 zeroValue84 (kyR_ok.2 hr)
 rw[hq] at hl
 simp only[Option.map_some,Option.getD_some] at hl
 have HG:=hide g1
 clear g1 h hq
 simp only[Rs.v] at hl⊢
 go_enter func54,ntmps54
 go_wp2
 go_quiet (fail)
 go_wp2
 go_ret
 exact⟨rfl,HG.out.drewN _⟩
theorem placeOf_new(t:Nat)(s:Gs)(r:Rs)(w:World)(h:TT w t s)(hr:r.ok)(hq:s.pl r=none)(L:List Rs)(hL:∀r',s.pl r'≠none→r'∈L)(hll:L.length<maxLen):Calls prog 54 #[ptr t,r.v] w fun e w'=>∃s' q,e=.returned (ptr q.blk)∧TT w' t s'∧q.isNew∧s'.pl=upd s.pl r (some q)∧s'.lv=s.lv∧Ext w w' s s':=by
 have g1:=(G.refl w).alloc (.cells #[I r.lv,.string r.lb,I r.id] 33)
 have hb0:=Blk.new w [I r.lv,.string r.lb,I r.id] 33
 have hb:=hb0.cell
 have hc:=(h.tb.G g1).cell
 have hl:=(h.pm.G g1).lookN kyR underlying79 zeroValue84 (kyR_ok.2 hr)
 rw[hq] at hl
 simp only[Option.map_none,Option.getD_none] at hl
 have HB:=hide hb0
 have HG:=hide g1
 have HT:=hide h
 have HQ:=hide hq
 have HR:=hide hr
 have HL:=hide (show∀r',(s.pl r').map (fun p=>ptr p.blk)≠none→r'∈L from fun r' hy=>hL r' (fun e=>hy (by rw[e];rfl)))
 have HLL:=hide hll
 clear g1 h hq hb0 hL hll hr
 have hmm:=@run_makeMap prog
 simp only[Rs.v] at hl⊢
 go_enter func54,ntmps54
 go_wp2
 go_quiet (fail)
 go_wp2
 have HST:Hid ((fun W=>TT W t s∧Blk W w.heap.size 33 [I r.lv,.string r.lb,I r.id]∧Ext w W s s∧Blk W (w.heap.size+1+1) 109 [.map (some (w.heap.size+1)),.slice none 0 0]∧Mp (fun n:Int=>I n) 3 W (w.heap.size+1) (fun _=>none)∧W.heap.size=w.heap.size+1+2∧w.heap.size<w.heap.size+1) (((((w.alloc (.cells #[I r.lv,.string r.lb,I r.id] 33)).drewN nq).alloc (.map #[] 0)).alloc (.cells #[.map (some (w.heap.size+1)),.slice none 0 0] 109)).drew)):=by
  have gq:=(HG.out.drewN nq)
  have g2:=(gq.alloc (.map #[] 0)).alloc (.cells #[.map (some (w.heap.size+1)),.slice none 0 0] 109)
  have m1:=(Mp.made ((w.alloc (.cells #[I r.lv,.string r.lb,I r.id] 33)).drewN nq) (fun n:Int=>I n) 3).G ((G.refl _).alloc (.cells #[.map (some (w.heap.size+1)),.slice none 0 0] 109))
  have b1:=Blk.new (((w.alloc (.cells #[I r.lv,.string r.lb,I r.id] 33)).drewN nq).alloc (.map #[] 0)) [.map (some (w.heap.size+1)),.slice none 0 0] 109
  simp only[World.size_alloc,drewN_heap] at m1 b1
  refine⟨HT.out.G g2.drew,(HB.out.G ((((G.refl _).drewN nq).alloc _).alloc _)).drew,g2.drew.ext s,b1.drew,m1.keep rfl,?_,by omega⟩
  have e1:∀W:World,W.drew.heap.size=W.heap.size:=fun _=>rfl
  rw[e1,World.size_alloc,World.size_alloc,drewN_heap,World.size_alloc]
 obtain⟨n,hn⟩:∃n,n=w.heap.size+1:=⟨_,rfl⟩
 rw[←hn] at HST⊢
 generalize ((((w.alloc (.cells #[I r.lv,.string r.lb,I r.id] 33)).drewN nq).alloc (.map #[] 0)).alloc (.cells #[.map (some n),.slice none 0 0] 109))=W0 at HST⊢
 clear hmm hl hc hb HB HG hn
 refine wp_region_noPanic ?_
 refine wp_region_L (S:=(fun W=>TT W t s∧Blk W w.heap.size 33 [I r.lv,.string r.lb,I r.id]∧Ext w W s s∧Blk W (n+1) 109 [.map (some n),.slice none 0 0]∧Mp (fun n:Int=>I n) 3 W n (fun _=>none)∧W.heap.size=n+2∧w.heap.size<n)) 6 (by kernel_rfl) (HST.out) (fun hHeld=>?_)
 refine wpAnyL_take (i:=0) (v:=?_) rfl (by kernel_rfl) (by kernel_rfl) (by kernel_rfl) (by kernel_rfl) (fun _ _ _ h=>h) (Or.inl ⟨by rfl,?_⟩) hHeld ?_
 rotate_left 1
 ·(intro w hSw;obtain⟨h1,h2,_⟩:=hSw;have hc:=h1.tb.cell;have hb:=h2.cell;go_simp;try with_reducible rfl)
 try simp only[Act.put,zzA,zzB,zzD,zzE,zzF]
 refine wpAnyL_take (i:=1) (v:=?_) rfl (by kernel_rfl) (by kernel_rfl) (by kernel_rfl) (by kernel_rfl) (fun _ _ _ h=>h) (Or.inl ⟨by rfl,?_⟩) hHeld ?_
 rotate_left 1
 ·(intro w hSw;obtain⟨h1,h2,_⟩:=hSw;have hc:=h1.tb.cell;have hb:=h2.cell;go_simp;try with_reducible rfl)
 try simp only[Act.put,zzA,zzB,zzC,zzD,zzE,zzF]
 refine wpAnyL_take (i:=2) (v:=?_) rfl (by kernel_rfl) (by kernel_rfl) (by kernel_rfl) (by kernel_rfl) (fun _ _ _ h=>h) (Or.inl ⟨by rfl,?_⟩) hHeld ?_
 rotate_left 1
 ·(intro w hSw;obtain⟨h1,h2,_⟩:=hSw;have hc:=h1.tb.cell;have hb:=h2.cell;go_simp;try with_reducible rfl)
 try simp only[Act.put,zzA,zzB,zzC,zzD,zzE,zzF]
 refine wpAnyL_take (i:=3) (v:=?_) rfl (by kernel_rfl) (by kernel_rfl) (by kernel_rfl) (by kernel_rfl) (fun _ _ _ h=>h) (Or.inl ⟨by rfl,?_⟩) hHeld ?_
 rotate_left 1
 ·(intro w hSw;obtain⟨h1,h2,_⟩:=hSw;have hc:=h1.tb.cell;have hb:=h2.cell;go_simp;try with_reducible rfl)
 try simp only[Act.put,zzA,zzB,zzC,zzD,zzE,zzF]
 refine wpAnyL_take (i:=4) (v:=?_) rfl (by kernel_rfl) (by kernel_rfl) (by kernel_rfl) (by kernel_rfl) (fun _ _ _ h=>h) (Or.inl ⟨by rfl,?_⟩) hHeld ?_
 rotate_left 1
 ·(intro w hSw;obtain⟨h1,h2,_⟩:=hSw;have hc:=h1.tb.cell;have hb:=h2.cell;go_simp;try with_reducible rfl)
 try simp only[Act.put,zzA,zzB,zzC,zzD,zzE,zzF]
 refine wpAnyL_take (i:=5) (v:=?_) rfl (by kernel_rfl) (by kernel_rfl) (by kernel_rfl) (by kernel_rfl) (fun _ _ _ h=>h) (Or.inl ⟨by rfl,?_⟩) hHeld ?_
 rotate_left 1
 ·(intro w hSw;obtain⟨h1,h2,_⟩:=hSw;have hc:=h1.tb.cell;have hb:=h2.cell;go_simp;try with_reducible rfl)
 try simp only[Act.put,zzA,zzB,zzC,zzD,zzE,zzF]
 refine wpAnyL_last (by kernel_rfl) rfl (by kernel_rfl) (fun K hK=>?_)
 obtain⟨h1,h2,h3,h4,h5,h6,h7⟩:=hHeld
 refine wp_put _ _ _ 79 rfl h1.pm rfl kyR L (fun r' _ hy=>HL.out r' hy) HLL.out underlying79 r rfl (kyR_ok.2 HR.out) _ rfl (fun w9 hm9 hch9 hsz9=>?_)
 refine hK.out _ _ ?_
 clear hK K
 refine NoPanic.normal ?_
 clear HST
 go_wp2
 go_ret
 have h:=HT.out
 have hps:=h1.lt _ _ h1.o3
 have hk:∀b tg,s.own b=some tg→tg≠.ps→w9.heap[b]?=_:=fun b tg o hne=>hch9.block b (h1.lt b tg o) (h1.ne o h1.o3 hne)
 have hlt:∀b tg,s.own b=some tg→b<w.heap.size:=h.lt
 have old:∀b tg,s.own b=some tg→own3 s.own (n+1) n n (.pl r) (.lh r) (.lh r) b=some tg:=fun b tg o=>by
  have:=hlt b tg o
  rw[own3_old (by omega) (by omega) (by omega)]
  exact o
 refine⟨⟨s.lb,s.pb,s.lv,upd s.pl r (some ⟨n+1,n,.slice none 0 0,fun _=>0,[]⟩),own3 s.own (n+1) n n (.pl r) (.lh r) (.lh r)⟩,_,rfl,?_,⟨rfl,fun _=>rfl,rfl⟩,rfl,rfl,?_⟩
 ·refine⟨h1.tb.keep (hk _ _ h1.o1 (by simp)),h1.lm.keep (hk _ _ h1.o2 (by simp)),hm9.congr (fun y=>?_),fun y q hy=>?_,fun r' q hr'=>?_,old _ _ h1.o1,old _ _ h1.o2,old _ _ h1.o3,fun b tg o=>?_⟩
  ·simp only[upd]
   split<;>rfl
  ·exact((h1.pt y q hy).keep (fun b o=>by rcases o with o|o|o<;>exact hk _ _ o (by simp))).more old
  ·by_cases er:r'=r
   ·subst er
    simp only[upd_same,Option.some.injEq] at hr'
    subst hr'
    have hpl:=hlt _ _ h.o3
    exact⟨h4.chg hch9 (by omega),(h5.chg hch9 (by omega)).congr (fun _=>rfl),.inl ⟨rfl,rfl⟩,by simp[own3],by simp[own3],fun b e=>by simp[Value.ownBlock] at e⟩
   ·replace hr':upd s.pl r _ r'=some q:=hr'
    rw[upd_other er] at hr'
    exact((h1.pl r' q hr').keep (fun b o=>by rcases o with o|o|o<;>exact hk _ _ o (by simp))).more old
  ·rw[hsz9,h6]
   rcases own3_inv o with rfl|rfl|rfl|o<;>try omega
   have:=hlt b tg o
   omega
 ·refine⟨h3.chg.trans (hch9.mono (fun b e=>by rw[e,h1.o3];simp)),old,fun b tg o=>?_⟩
  rcases own3_inv o with rfl|rfl|rfl|o
  iterate 3
   ·right;omega
  ·exact .inl o
end
end Go.Proofs.YtadfaiciolfgjaaGreatDoor
