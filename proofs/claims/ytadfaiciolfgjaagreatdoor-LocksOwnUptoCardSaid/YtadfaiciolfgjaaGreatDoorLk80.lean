import Derived.Test.YtadfaiciolfgjaaGreatDoorLk64
namespace Go.Proofs.YtadfaiciolfgjaaGreatDoor
open Go.Proofs.Tryz
set_option maxHeartbeats 1000000
set_option maxRecDepth 100000
section
open Go.RowKit
attribute [local go_sem] Oper.semAt_some
structure ApI(w:World)(ss:List Int)(W:World):Prop where
 box:∃v,Blk W w.heap.size 42 [v]∧W.ownsRow (w.heap.size+1) 3 1 v ss.length (ss.map fun z=>I z)
 bl:Below w.heap.size w W
 sz:w.heap.size+1≤W.heap.size
theorem own_cells{W:World}{lo e k n:Nat}{v:Value}{xs:List Value}(h:W.ownsRow lo e k v n xs){b:Nat}(hb:v.ownBlock=some b):∃cs,W.heap[b]?=some (.cells cs e (0,0)):=by
 rcases h.2 with ⟨e1,-⟩|⟨g,cap,cur,e1,-,hgc,-⟩
 ·rw[e1] at hb;simp[Value.ownBlock] at hb
 ·rw[e1] at hb
  have e2:g=b:=by simpa [Value.ownBlock] using hb
  subst e2
  exact⟨_,hgc⟩
theorem ApI.own(w:World):OwnFrom (w.heap.size+1) (ApI w):=fun ss W W' row h hg hr=>by
 have hcell:∀b e xs,Blk W b e xs→¬row=some b:=fun b e xs hb e'=>by
  obtain⟨_,o,ho,hc⟩:=hr b e'
  rw[hb.h] at ho
  cases ho
  simp[Obj.isCells] at hc
 obtain⟨v,h1,h2⟩:=h.box
 refine⟨⟨v,h1.keep (hg.block _ h1.lt (fun e'=>hcell _ _ _ h1 e'.symm)),own_chg (F:=fun k=>row=some k) h2 ⟨hg.os,hg.tape,hg.output,hg.size,fun k hk hn=>hg.block k hk (fun e=>hn e.symm)⟩ (fun k hk e=>?_)⟩,h.bl.grown hg h.bl.size (fun k e=>by have:=(hr k e).1;omega),Nat.le_trans h.sz hg.size⟩
 obtain⟨_,o,ho,hc⟩:=hr k e
 obtain⟨cs,hcs⟩:=own_cells h2 hk
 rw[hcs] at ho
 cases ho
 simp[Obj.isCells] at hc
theorem chg_put{W:World}{D:Nat}{o o':Obj}(_:W.heap[D]?=some o):Chg (fun k=>k=D) W (W.putObj D o'):=
 ⟨rfl,rfl,rfl,by simp[World.putObj],fun k _ hn=>World.putObj_heap_other hn⟩
theorem G.of_chg'{W0 w w':World}{D:Nat→Prop}(g:Go.Proofs.YtadfaiciolfgjaaGreatDoor.G W0 w)(c:Chg D w w')(hd:∀k,D k→W0.heap.size≤k):Go.Proofs.YtadfaiciolfgjaaGreatDoor.G W0 w':=
 ⟨c.os.trans g.os,c.tape.trans g.tape,c.output.trans g.output,Nat.le_trans g.size c.size,fun k hk=>(c.block k (Nat.lt_of_lt_of_le hk g.size) (fun e=>by have:=hd k e;omega)).trans (g.block k hk)⟩
theorem ApI.put{w W:World}{ss:List Int}(h:ApI w ss W)(y:Int)(hl:ss.length<4200000000000)(B:Nat→Prop)(hB:∀b,B b→b<w.heap.size):∃uv va9 vc9 w9,Blk W w.heap.size 42 [uv]∧(Builtin.append_ #[42,42] 42 #[uv,.slice (some ⟨W.heap.size,0,none⟩) 1 1]).run prog (W.alloc (.cells #[I y] 3))=.ok (.slice va9 (ss.length+1) vc9) w9∧Blk w9 w.heap.size 42 [uv]∧
  ApI w (ss++[y]) (w9.setCell ⟨w.heap.size,0,none⟩ (.slice va9 (ss.length+1) vc9))∧KeepsOthers W (w9.setCell ⟨w.heap.size,0,none⟩ (.slice va9 (ss.length+1) vc9))∧WayK B W (w9.setCell ⟨w.heap.size,0,none⟩ (.slice va9 (ss.length+1) vc9)):=by
 obtain⟨uv,h1,h2⟩:=h.box
 obtain⟨i0,hi,hz0,hz1,hz2⟩:=info_parts (show(prog.info? 3).map (fun i=>(i.zero,i.size,i.bytes))=some (some (.int .i64 0),1,8)from by kernel_rfl)
 have gA:G W (W.alloc (.cells #[I y] 3)):=(G.refl W).alloc _
 have hmx:(4200000000002:Nat)≤maxLen:=of_decide_eq_true (by kernel_rfl)
 obtain⟨v',w9,q1,q2,q3,-,-⟩:=run_append_own_at (P:=prog) (w:=W.alloc (.cells #[I y] 3)) (w.heap.size+1) 42 42 3 i0 _ 1 8 underlying42 hi hz0 hz1 hz2 rfl (by decide) uv ss.length (ss.map fun z=>I z) (own_G h2 gA) ⟨W.heap.size,0,none⟩ 1 1 [I y] rfl (fun j u hj=>by
  have e:j=0:=by
   have:=(List.getElem?_eq_some_iff.1 hj).1
   simp at this
   omega
  subst e
  have:=(Blk.new W [I y] 3).cell 0
  rw[hj] at this
  simpa [Addr.add] using this) (by simp[Value.oneCell']) (by omega) (by omega) (Nat.le_trans h.sz gA.size)
 obtain⟨va9,vc9,rfl⟩:=row_form q2
 have hlo:∀b,uv.ownBlock=some b→w.heap.size+1≤b∧∃cs,W.heap[b]?=some (.cells cs 3 (0,0)):=fun b hb=>⟨(World.ownsRow.lt h2 b hb).1,own_cells h2 hb⟩
 have hk:∀b,b<W.heap.size→uv.ownBlock≠some b→b≠w.heap.size→(w9.setCell ⟨w.heap.size,0,none⟩ (.slice va9 (ss.length+1) vc9)).heap[b]?=W.heap[b]?:=fun b hb h1 h2=>by
  rw[Below.heap_setCell _ _ _ _ h2,q3.block b (Nat.lt_of_lt_of_le hb gA.size) (fun e=>h1 e.symm)]
  exact gA.block b hb
 have hb9:Blk w9 w.heap.size 42 [uv]:=(h1.G gA).keep (q3.block _ (Nat.lt_of_lt_of_le h1.lt gA.size) (fun e=>by have:=(hlo _ e.symm).1;omega))
 have hsz:W.heap.size≤(w9.setCell ⟨w.heap.size,0,none⟩ (.slice va9 (ss.length+1) vc9)).heap.size:=by
  rw[World.size_setCell]
  exact Nat.le_trans gA.size q3.size
 have hko:KeepsOthers W (w9.setCell ⟨w.heap.size,0,none⟩ (.slice va9 (ss.length+1) vc9)):=⟨hsz,fun k o ho hc=>by
  have hlt:=(Array.getElem?_eq_some_iff.1 ho).1
  rw[hk k hlt (fun e=>by
   obtain⟨-,cs,hcs⟩:=hlo k e
   rw[hcs] at ho
   cases ho
   simp[Obj.isCells] at hc) (fun e=>by
   subst e
   rw[h1.h] at ho
   cases ho
   simp[Obj.isCells] at hc)]
  exact ho⟩
 refine⟨uv,va9,vc9,w9,h1,q1,hb9,⟨⟨_,hb9.set 0 _,?_⟩,⟨q3.os.trans (gA.os.trans h.bl.os),q3.tape.trans (gA.tape.trans h.bl.tape),q3.output.trans (gA.output.trans h.bl.output),Nat.le_trans h.bl.size hsz,fun k hk0=>?_⟩,Nat.le_trans h.sz hsz⟩,hko,hsz,fun b hb=>?_⟩
 ·rw[List.length_append,List.map_append]
  refine own_chg q2 (chgk w9 w.heap.size 0 _) (fun b hb e=>?_)
  have:=(World.ownsRow.lt q2 b hb).1
  omega
 ·rw[hk k (Nat.lt_of_lt_of_le hk0 h.bl.size) (fun e=>by have:=(hlo k e).1;omega) (by omega)]
  exact h.bl.block k hk0
 ·rcases hb with hb|⟨m,s,se,c,hb⟩
  ·have hlt:=hB b hb
   exact hk b (Nat.lt_of_lt_of_le hlt h.bl.size) (fun e=>by have:=(hlo b e).1;omega) (by omega)
  ·rw[hko.same b _ hb rfl,hb]
theorem aps_any(b1 b2 b3 ah:Nat)(q:Pl)(x qm:Int)(L:List Int)(w:World)(hway:Way w b1 b2 b3 q x qm ah)(hah:ah≤q.qs.length)(hL:∀x,q.hf x≠0→x∈L)(hR:∀x,q.hf x≠0→R64 x)(hlq:q.qs.length≤maxLen)(hN:L.length+q.qs.length<4200000000000) :
  Calls prog 123 #[.slice none 0 0,.func (.func 107) #[] #[ptr b1,ptr b2,ptr b3]] w fun e w'=>∃(v:Value) (xs:List Int),e=.returned v∧((∀y∈xs,inW q.hf q.qs x qm ah y)∧∀y,inW q.hf q.qs x qm ah y→y∈xs)∧w'.ownsRow (w.heap.size+1) 3 1 v xs.length (xs.map fun z=>I z)∧G w w'∧xs.length≤L.length+q.qs.length:=by
 refine(callsIn_wide (n:=5)).1 ?_
 refine callsIn_of_wp_marks func123 rfl trivial ?_ rfl
 simp only[ntmps123,List.size_toArray,List.length_cons,List.length_nil,Nat.reduceAdd,Nat.reduceSub,Array.replicate_succ,Array.replicate_zero,List.push_toArray,List.append_toArray,List.nil_append,List.cons_append]
 have g0:G w (w.alloc (.cells #[.slice none 0 0] 42)):=(G.refl w).alloc _
 have k0:=Blk.new w [.slice none 0 0] 42
 have hs0:(w.alloc (.cells #[.slice none 0 0] 42)).heap.size=w.heap.size+1:=by simp
 have hI0:ApI w [] (w.alloc (.cells #[.slice none 0 0] 42)):=⟨⟨_,k0,⟨rfl,.inl ⟨rfl,rfl⟩⟩⟩,g0,by omega⟩
 have hway0:=hway.keep (fun b hb=>g0.block b (hway.lt hb)) g0.size
 have hlt:=fun b (hb:wayB b1 b2 b3 q b)=>hway.lt hb
 have hmix:prog.follows .mixedOrders=true:=by kernel_rfl
 clear k0 hway
 gi_wp2
 generalize w.alloc (.cells #[.slice none 0 0] 42)=W0 at g0 hs0 hI0 hway0⊢
 refine wpIn_rangeFunc_ownF rfl (by omega) (gf:=107) (lb:=#[ptr b1,ptr b2,ptr b3]) rfl trivial (enters_of func107 (by kernel_rfl) rfl)
  (seq_any 4 _ _ _ ah q x qm L W0 (by omega) hah hL hR hlq hway0) WayK.trans (WayK.put (fun b hb=>hway0.lt hb)) (Below.refl _ _) (fun _=>rfl)
  (fun pre W=>ApI w pre W∧pre.length≤L.length+q.qs.length)
  (fun _ _ _=>False)
  (by rw[hs0];exact fun s W W' row h hg hr=>⟨ApI.own w s W W' row h.1 hg hr,h.2⟩)
  (fun c s W W' row h _ _=>h.elim)
  ⟨hI0,Nat.zero_le _⟩
  (fun y=>{tmps:=#[.slice none 0 0,.func (.func 107) #[] #[ptr b1,ptr b2,ptr b3],ptr w.heap.size,undef,.slice none 0 0,I y,.func (.func 107) #[] #[ptr b1,ptr b2,ptr b3],I y,undef,undef,undef,undef,undef],defers:=[]}) ?assign ?body ?done ?stop
 case assign=>
  intro l y W K hK
  simp only[List.zip_toArray,List.zip_cons_cons,List.zip_nil_right,List.size_toArray,List.length_cons,List.length_nil,List.foldl_toArray',List.foldl_cons,List.foldl_nil,List.setIfInBounds_toArray,List.set_cons_succ,List.set_cons_zero]
  gi_wp2
  exact hK
 case body=>
  rintro l pre y W ⟨hI,-⟩ hlen
  obtain⟨uv,va9,vc9,w9,r0,r1,r2,r3,r4,r5⟩:=hI.put y (by omega) (wayB b1 b2 b3 q) hlt
  have c0:=r0.cell
  have c9:=r2.cell
  have f9:=r2.frozen
  have R1:=hide r1;have R3:=hide r3;have R4:=hide r4;have R5:=hide r5
  have HPL:Hid ((pre++[y]).length≤L.length+q.qs.length):=by rw[Hid,List.length_append];exact hlen
  clear r0 r1 r2 r3 r4 r5 hI hlen
  gi_wp2_with (first|(gi_at_builtin;refine wpListIn_append_run rfl _ _ 42 rfl _ _ rfl rfl R1.out ?_)|fail)
  exact⟨R4.out,R5.out,R3.out,HPL.out⟩
 case done=>
  rintro D ys W hD hS ⟨hI,hle⟩ hK
  obtain⟨v,h1,h2⟩:=hI.box
  have c1:=h1.cell
  obtain⟨va,vc,rfl⟩:=row_form h2
  have H2:=hide h2;have HI:=hide hI;have HS:=hide hS;have HLE:=hide hle
  clear h2 hI hS hle
  gi_wp2
  refine⟨by simp,.inl ⟨_,_,rfl,run_takeDeferred hK,?_⟩⟩
  refine⟨_,results_tmp rfl _ _ _,_,ys,rfl,HS.out,?_,HI.out.bl.trans (belowK_b (w:=w) (Nat.le_refl _) W D _ _ (by omega) hK rfl rfl),HLE.out⟩
  refine own_chg (F:=fun k=>k=D) H2.out (chg_put hK) (fun k hk e=>?_)
  obtain⟨cs,hcs⟩:=own_cells H2.out hk
  rw[e,hK] at hcs
  cases hcs
 case stop=>exact fun D c pre W _ _ h _=>h.elim
theorem col_any(b1 b2 b3 ah:Nat)(q:Pl)(x qm:Int)(L:List Int)(w:World)(hway:Way w b1 b2 b3 q x qm ah)(hah:ah≤q.qs.length)(hL:∀x,q.hf x≠0→x∈L)(hR:∀x,q.hf x≠0→R64 x)(hlq:q.qs.length≤maxLen)(hN:L.length+q.qs.length<4200000000000) :
  Calls prog 101 #[.func (.func 107) #[] #[ptr b1,ptr b2,ptr b3]] w fun e w'=>∃(v:Value) (xs:List Int),e=.returned v∧((∀y∈xs,inW q.hf q.qs x qm ah y)∧∀y,inW q.hf q.qs x qm ah y→y∈xs)∧w'.ownsRow (w.heap.size+1) 3 1 v xs.length (xs.map fun z=>I z)∧G w w'∧xs.length≤L.length+q.qs.length:=by
 have KA:=hide (aps_any b1 b2 b3 ah q x qm L w hway hah hL hR hlq hN)
 clear hway hah hL hR hlq hN
 go_enter func101,ntmps101
 go_wp2_with (first|(go_at_call 123;refine Hid.out ?_)|fail)
 unfold Hid
 refine KA.out.mono ?_
 rintro e w' ⟨v,xs,rfl,h1,h2,h3,h4⟩
 go_wp2_with fail
 go_ret
 exact⟨v,xs,rfl,h1,h2,h3,h4⟩
theorem sod_any(b1 b2 b3 ah:Nat)(q:Pl)(x qm:Int)(L:List Int)(w:World)(hway:Way w b1 b2 b3 q x qm ah)(hah:ah≤q.qs.length)(hL:∀x,q.hf x≠0→x∈L)(hR:∀x,q.hf x≠0→R64 x)(hlq:q.qs.length≤maxLen)(hN:L.length+q.qs.length<4200000000000) :
  Calls prog 79 #[.func (.func 107) #[] #[ptr b1,ptr b2,ptr b3]] w fun e w'=>∃(v:Value) (xs:List Int),e=.returned v∧((∀y∈xs,inW q.hf q.qs x qm ah y)∧∀y,inW q.hf q.qs x qm ah y→y∈xs)∧w'.ownsRow (w.heap.size+1) 3 1 v xs.length ((srt xs).map fun z=>I z)∧G w w'∧xs.length≤L.length+q.qs.length:=by
 have KA:=hide (col_any b1 b2 b3 ah q x qm L w hway hah hL hR hlq hN)
 clear hway hah hL hR hlq
 go_enter func79,ntmps79
 go_wp2_with (first|(go_at_call 101;refine Hid.out ?_)|fail)
 unfold Hid
 refine KA.out.mono ?_
 rintro e w' ⟨v,xs,rfl,h1,h2,h3,h4⟩
 have KS:=hide (sort_row w' (w.heap.size+1) v xs h2 (by omega))
 go_wp2_with (first|(go_at_call 93;refine Hid.out ?_)|fail)
 unfold Hid
 refine KS.out.mono ?_
 rintro e w2 ⟨rfl,h5,h6⟩
 have HG:Hid (G w w2):=h3.of_chg' h6 (fun k hk=>by have:=(World.ownsRow.lt h2 k hk).1;omega)
 have H5:=hide h5
 have H14:=hide (And.intro h1 h4)
 clear h1 h2 h3 h4 h5 h6 KS KA
 go_wp2_with fail
 go_ret
 exact⟨v,xs,rfl,H14.out.1,H5.out,HG.out,H14.out.2⟩
end
end Go.Proofs.YtadfaiciolfgjaaGreatDoor
