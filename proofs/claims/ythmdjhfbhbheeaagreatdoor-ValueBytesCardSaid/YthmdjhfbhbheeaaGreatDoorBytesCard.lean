import Derived.Test.YthmdjhfbhbheeaaGreatDoorRows
import Derived.Test.YthmdjhfbhbheeaaGreatDoorCards
import Derived.Test.YthmdjhfbhbheeaaGreatDoorTie
import Derived.Lib.LaidU8T
import Derived.Lib.LaidTab
import Derived.ProofKit
import Derived.LaidMore
import Derived.OpenShut
import Derived.Stop.Joined
import Derived.Lay
import Derived.SevenTiedAt
import Derived.Shelf.Vars
import Derived.Test.YthmdjhfbhbheeaaGreatDoorBy3
namespace Go.Proofs.YthmdjhfbhbheeaaGreatDoor.valueBytes
set_option maxHeartbeats 1000000
set_option maxRecDepth 100000
open Go.ChangeShapes Go.WideShapes Go.ChangeAt Go.RowKit Go.Lib Go.Shelf
theorem zKJ(e:Ent)(h:e.kind<1∨14<e.kind)(w:World):Calls Tryz.prog 7 #[e.V] w fun r w'=>r=.returned (.bool true)∧G w w':=by
 obtain⟨kind,op,k,a,b,s,k',a',b',s',vs,st,tt,bb,n,x,y,o1,o2⟩:=e;simp only at h
 have n1:¬kind=1:=by omega
 have n2:¬kind=2:=by omega
 have n3:¬kind=3:=by omega
 have n4:¬kind=4:=by omega
 have n5:¬kind=5:=by omega
 have n6:¬kind=6:=by omega
 have n7:¬kind=7:=by omega
 have n8:¬kind=8:=by omega
 have n9:¬kind=9:=by omega
 have n10:¬kind=10:=by omega
 have n11:¬kind=11:=by omega
 have n12:¬kind=12:=by omega
 have n13:¬kind=13:=by omega
 have n14:¬kind=14:=by omega
 go_enter Tryz.func7,Tryz.ntmps7
 go_wp2
 go_ret;exact⟨rfl,(G.refl w).alloc _⟩
theorem zHR(W:World)(hT:RdyA W)(e:Ent)(h:zDn W e)(w':World)(g:G W w'):Calls Tryz.prog 7 #[e.V] w' fun r w''=>r=.returned (.bool true)∧G w' w'':=by
 by_cases h1:1≤e.kind∧e.kind≤14
 ·exact zN6 W hT e h h1.1 h1.2 w' g
 ·exact zKJ e (by omega) w'
theorem zNC(k a b:Int)(s:ByteArray)(hs:s.size≤4611686018427387904)(ha:R64 a)(hb:R64 b):∃xs c,EncO k a b s xs c:=by
 cases h:okV k a b s with
 | true=>exact⟨encV k a b s,0,Nat.le_trans (zJp k a b s h ha hb) (by decide),fun w hT=>zNB k a b s h _ (zDv k a b s h ha) w hT,fun w=>(zFQ k a b s hs h ha w).mono fun e w' ⟨x,he,hb⟩=>⟨x,he,hb.g,hb.row⟩⟩
 | false=>exact⟨[],16,Nat.zero_le _,fun w hT=>(zRm k a b s h w hT).mono fun e w' ⟨he,hb⟩=>⟨_,he,Bw.nil w w' hb⟩,fun w=>(zL3 k a b s hs h w).mono fun e w' ⟨he,hb⟩=>⟨_,he,hb,⟨none,0,rfl,Nat.le_refl _,fun i d hi=>by simp at hi⟩⟩⟩
theorem own:ownKnob Tryz.prog.godebug=none:=by kernel_rfl
theorem zTC:laidOutB Tryz.prog=true:=by kernel_rfl
theorem tabs{W:World}(h:laidMet Tryz.prog Rows.valueBytesRow.laid W):Tabs W:=
 utf8Tabs_of_readsT (U8Types.of196 Tryz.laysValid) ⟨by kernel_rfl,by kernel_rfl,by kernel_rfl,by kernel_rfl,by kernel_rfl,by kernel_rfl,by kernel_rfl⟩
  ((by kernel_rfl:Rows.laid_unicode_utf8_first=firstData)▸Lib.laidMet.reads h (.tail _ (.tail _ (.tail _ (.tail _ (.tail _ (.tail _ (.tail _ (.tail _ (.head _))))))))))
  ((by kernel_rfl:Rows.laid_unicode_utf8_acceptRanges (H:=Unit)=acceptData)▸Lib.laidMet.reads h (.tail _ (.tail _ (.tail _ (.head _)))))
theorem rks{W:World}(h:laidMet Tryz.prog Rows.valueBytesRow.laid W):Rks W:=by
 have hv:VarReads Tryz.prog W "trellis/value.ranks" (tabData .i64 [5,3,4,4,2,0,1]):=Lib.laidMet.reads h (.tail _ (.tail _ (.tail _ (.tail _ (.tail _ (.tail _ (.head _)))))));obtain⟨g,t,cs,fuel,p,hg,hty,hvar,hd⟩:=hv;obtain rfl:0=g:=Option.some.inj ((show Tryz.prog.globalNamed "trellis/value.ranks"=some 0 by kernel_rfl).symm.trans hg);obtain rfl:118=t:=Option.some.inj ((show(Tryz.prog.globals[0]?).map (·.type)=some 118 by kernel_rfl).symm.trans hty);have hcs:=cells_of_tab Tryz.underlying118 Tryz.underlying3 (by kernel_rfl) (by kernel_rfl) hd;have hc:=World.var?_cell hg hvar;refine⟨?_,fun n hn=>?_⟩
 ·have h0:=hc 0
  rw[←Array.getElem?_toList,hcs] at h0
  exact Nat.lt_of_not_le fun hle=>by
   have:W.heap[0]?=none:=Array.getElem?_eq_none hle;simp[World.cell?,this] at h0
 ·rw[hc n,←Array.getElem?_toList,hcs]
  have:n=0∨n=1∨n=2∨n=3∨n=4∨n=5∨n=6:=by omega
  rcases this with rfl|rfl|rfl|rfl|rfl|rfl|rfl<;>rfl
theorem zCE{w:World}{fuel:Nat}{c d:Value}{y:DataW Unit×List MemPlace}{a b:Int}(h:DataW.trod (fun _=>()) Tryz.prog w 0 (fun _=>true) false fuel 195 [c,d]=some y)(hy:y.1=.agg [.lit (.int .u8 a),.lit (.int .u8 b)]):c=.int .u8 a∧d=.int .u8 b:=by
 obtain⟨xs,n,rfl,rfl,hl,hx,hf⟩:=DataW.trod_struct Tryz.underlying195 h;have f0:DataW.trod (fun _=>()) Tryz.prog w 0 (fun _=>true) false n 5 (([c,d].drop 0).take (Tryz.prog.cellsOf 5))=xs[0]?:=hf 0 _ rfl;have f1:DataW.trod (fun _=>()) Tryz.prog w 0 (fun _=>true) false n 5 (([c,d].drop 1).take (Tryz.prog.cellsOf 5))=xs[1]?:=hf 1 _ rfl;simp only[show Tryz.prog.cellsOf 5=1 by kernel_rfl,List.drop_zero,List.drop_succ_cons,List.take_succ_cons,List.take_zero] at f0 f1
 match xs,hx with
 | [y0,y1],_=>
  simp only[List.getElem?_cons_zero,List.getElem?_cons_succ] at f0 f1;obtain⟨a',e0,q0,_⟩:=DataW.trod_int Tryz.underlying5 f0;obtain⟨b',e1,q1,_⟩:=DataW.trod_int Tryz.underlying5 f1;simp only[List.map_cons,List.map_nil,DataW.agg.injEq,List.cons.injEq,and_true] at hy;rw[q0,q1] at hy;simp only[DataW.lit.injEq,Lit.int.injEq,true_and] at hy;obtain⟨rfl,rfl⟩:=hy;simp only[List.cons.injEq,and_true] at e0 e1;exact⟨e0,e1⟩
theorem zPW{w:World}{fuel:Nat}{cs:List Value}{p:List MemPlace}(h:DataW.trod (fun _=>()) Tryz.prog w 0 (fun _=>true) false fuel 196 cs=some (Rows.laid_trellis_value_escapes,p)):cs=[.int .u8 92,.int .u8 92,.int .u8 39,.int .u8 39,.int .u8 10,.int .u8 110,.int .u8 9,.int .u8 116,.int .u8 13,.int .u8 114]:=by
 cases fuel with
 | zero=>simp[DataW.trod] at h
 | succ fuel=>
  simp only[DataW.trod,Tryz.underlying196,show Tryz.prog.cellsOf 195=2 by kernel_rfl,show Tryz.prog.cellsOf 196=10 by kernel_rfl] at h
  split at h
  ·rename_i hl
   obtain⟨xs,hm,hx⟩:=Option.map_eq_some_iff.1 h
   have hxs:xs.map (·.1)=[.agg [.lit (.int .u8 92),.lit (.int .u8 92)],.agg [.lit (.int .u8 39),.lit (.int .u8 39)],.agg [.lit (.int .u8 10),.lit (.int .u8 110)],.agg [.lit (.int .u8 9),.lit (.int .u8 116)],.agg [.lit (.int .u8 13),.lit (.int .u8 114)]]:=by
    have:=congrArg Prod.fst hx
    simpa [Rows.laid_trellis_value_escapes] using this
   have hxl:xs.length=5:=by simpa using mapM_length hm
   match cs,hl with
   | [c0,c1,c2,c3,c4,c5,c6,c7,c8,c9],_=>
    match xs,hxl,hxs,hm with
    | [y0,y1,y2,y3,y4],_,hxs,hm=>
     simp only[List.map_cons,List.map_nil,List.cons.injEq,and_true] at hxs;obtain⟨z0,z1,z2,z3,z4⟩:=hxs;obtain⟨b0,g0,k0⟩:=mapM_at hm 0 0 (by simp);obtain rfl:y0=b0:=Option.some.inj g0;simp at k0;obtain⟨rfl,rfl⟩:=zCE k0 z0;obtain⟨b1,g1,k1⟩:=mapM_at hm 1 1 (by simp);obtain rfl:y1=b1:=Option.some.inj g1;simp at k1;obtain⟨rfl,rfl⟩:=zCE k1 z1;obtain⟨b2,g2,k2⟩:=mapM_at hm 2 2 (by simp);obtain rfl:y2=b2:=Option.some.inj g2;simp at k2;obtain⟨rfl,rfl⟩:=zCE k2 z2;obtain⟨b3,g3,k3⟩:=mapM_at hm 3 3 (by simp);obtain rfl:y3=b3:=Option.some.inj g3;simp at k3;obtain⟨rfl,rfl⟩:=zCE k3 z3;obtain⟨b4,g4,k4⟩:=mapM_at hm 4 4 (by simp);obtain rfl:y4=b4:=Option.some.inj g4;simp at k4;obtain⟨rfl,rfl⟩:=zCE k4 z4;rfl
  ·cases h
theorem zJo{w:World}{fuel:Nat}{cs:List Value}{p:List MemPlace}{nm:String}{d:DataW Unit}(h:DataW.trod (fun _=>()) Tryz.prog w 0 (fun _=>true) false fuel 184 cs=some (.iface nm d,p)):∃tp q,cs=[.iface tp q]:=by
 obtain⟨_,u,v,rfl,_⟩:=iface_of_trod Tryz.underlying184 h;exact⟨u,v,rfl⟩
theorem zJL{cs:Array Value}{l:List Value}(h:cs.toList=l):cs=l.toArray:=by rw[←h]
theorem env{W:World}(h:laidMet Tryz.prog Rows.valueBytesRow.laid W):Env W:=by
 refine⟨tabs h,?_,?_,?_,?_⟩
 ·have hv:VarReads Tryz.prog W "internal/strconv.uint64pow10" (tabData .u64 pow10Tab):=(by kernel_rfl:Rows.laid_internal_strconv_uint64pow10=tabData .u64 pow10Tab)▸Lib.laidMet.reads h (.tail _ (.tail _ (.head _)))
  obtain⟨g,t,cs,fuel,p,hg,hty,hvar,hd⟩:=hv;obtain rfl:8=g:=Option.some.inj ((show Tryz.prog.globalNamed "internal/strconv.uint64pow10"=some 8 by kernel_rfl).symm.trans hg);obtain rfl:227=t:=Option.some.inj ((show(Tryz.prog.globals[8]?).map (·.type)=some 227 by kernel_rfl).symm.trans hty);have hcs:=cells_of_tab Tryz.underlying227 Tryz.underlying134 (by kernel_rfl) (by kernel_rfl) hd;unfold TabIs;rw[hvar,zJL hcs]
 ·have hv:VarReads Tryz.prog W "strconv.ErrSyntax" Rows.laid_strconv_ErrSyntax:=Lib.laidMet.reads h (.tail _ (.tail _ (.tail _ (.tail _ (.tail _ (.head _))))))
  obtain⟨g,t,cs,fuel,p,hg,hty,hvar,hd⟩:=hv;obtain rfl:6=g:=Option.some.inj ((show Tryz.prog.globalNamed "strconv.ErrSyntax"=some 6 by kernel_rfl).symm.trans hg);obtain rfl:184=t:=Option.some.inj ((show(Tryz.prog.globals[6]?).map (·.type)=some 184 by kernel_rfl).symm.trans hty);obtain⟨tp,q,hcs⟩:=zJo hd;exact⟨tp,q,by rw[hvar,zJL hcs]⟩
 ·have hv:VarReads Tryz.prog W "strconv.ErrRange" Rows.laid_strconv_ErrRange:=Lib.laidMet.reads h (.tail _ (.tail _ (.tail _ (.tail _ (.head _)))))
  obtain⟨g,t,cs,fuel,p,hg,hty,hvar,hd⟩:=hv;obtain rfl:7=g:=Option.some.inj ((show Tryz.prog.globalNamed "strconv.ErrRange"=some 7 by kernel_rfl).symm.trans hg);obtain rfl:184=t:=Option.some.inj ((show(Tryz.prog.globals[7]?).map (·.type)=some 184 by kernel_rfl).symm.trans hty);obtain⟨tp,q,hcs⟩:=zJo hd;exact⟨tp,q,by rw[hvar,zJL hcs]⟩
 ·have hv:VarReads Tryz.prog W "trellis/value.escapes" Rows.laid_trellis_value_escapes:=Lib.laidMet.reads h (.tail _ (.tail _ (.tail _ (.tail _ (.tail _ (.tail _ (.tail _ (.head _))))))))
  obtain⟨g,t,cs,fuel,p,hg,hty,hvar,hd⟩:=hv;obtain rfl:5=g:=Option.some.inj ((show Tryz.prog.globalNamed "trellis/value.escapes"=some 5 by kernel_rfl).symm.trans hg);obtain rfl:196=t:=Option.some.inj ((show(Tryz.prog.globals[5]?).map (·.type)=some 196 by kernel_rfl).symm.trans hty);rw[hvar,zJL (zPW hd)]
theorem mx{W:World}(h:W.ShapedOpen Tryz.prog):Mx W:=by
 obtain⟨m,hm⟩:=cell_of_shapedOpen_int (g:=3) (t:=3) (zero:=#[.int .i64 0]) h (of_decide_eq_true (by kernel_rfl)) (by kernel_rfl) rfl (by kernel_rfl) (by kernel_rfl) Tryz.underlying3;refine⟨Nat.lt_of_not_le fun hle=>?_,m,hm⟩;have:W.heap[3]?=none:=Array.getElem?_eq_none hle;simp[World.cell?,this] at hm
theorem zHl{H:Type}{enc:TypeId×Value→H}{a:Assume}{C:Checked}{os:Os}{f:FuncId}{fn:Func}{s:ChangeSpec}{conds:List PathCond}{apart fresh handsOn again:Bool}{X:World→Array Value→Prop}
  (hX:∀(w w':World) (args:Array Value),w.heap=w'.heap→X w args→X w' args) (own:ownKnob C.prog.godebug=none) (started:os.Started) (noInit:C.prog.inits.idxOf? f=none) (hfn:C.prog.funcs[f]?=some fn)
  (witness:∃(w:World) (tape:Tape) (i:Input),w.os=os∧(w.forCall tape i).Shaped C.prog∧i.vars=[]∧Input.okWide C.prog (w.forCall tape i) .any w.heap.size f i∧
   ((s.pre enc C.prog fn conds apart (w.forCall tape i).memory i.args∧X (w.forCall tape i).memory i.args)∧sizedMet enc C.prog fn (OpenSpec.ofChange s) apart (w.forCall tape i).memory i.args)∧a.holds C.prog (lone (Frame.enter C.prog f i.args .normal) [] (w.forCall tape i)))
  (contract:∀(W:World) (base:Nat) (args:Array Value) (ds gs:List (DataW H)) (before:List MemPlace),(∀(j:Nat) t v,fn.params[j]?=some t→args[j]?=some v→Value.okWide C.prog W .any base t v)→
   DataW.Whole enc C.prog fn.params.toList s.vars apart W args.toList ds gs before→conds.all (PathCond.test C.prog ⟨fn.params.toList,ds,s.plain.varTypes C.prog,gs⟩)=true→
   (DataW.weightsEach C.prog (fn.params.toList++s.plain.varTypes C.prog) (ds++gs)).all (·≤reachBytes)=true→X W args→W.ShapedOpen C.prog→a.holds C.prog (lone (Frame.enter C.prog f args .normal) [] W)→
   Calls C.prog f args W fun e W'=>∃v,e=.returned v∧s.post enc C.prog fn apart fresh handsOn again W args v W') :
  ReturnsInHanded a C os f .any (fun w args=>(s.pre enc C.prog fn conds apart w args∧X w args)∧sizedMet enc C.prog fn (OpenSpec.ofChange s) apart w args) (s.post enc C.prog fn apart fresh handsOn again):=by
 refine returnsInHanded_of_calls own started noInit witness fun w tape i _ hsh _ hok hpre hholds=>?_;obtain⟨_,_,_,fn',hfn',_,_,_,_,hval⟩:=hok;obtain rfl:fn'=fn:=Option.some.inj (hfn'.symm.trans hfn);obtain⟨⟨⟨ds,gs,before,hw,hc⟩,hx⟩,hz⟩:=hpre
 exact(contract (w.forCall tape i) w.heap.size i.args ds gs before hval (DataW.Whole.of_heap (w':=w.forCall tape i) (by rfl) hw) hc (hz.weights hw) (hX _ _ _ (by rfl) hx) hsh hholds).mono fun e W' ⟨v,he,hp⟩=>by
  subst he;exact ChangeSpec.post_blind hp
theorem law(v:Value)(W:World)(hT:RdyA W)
  (h:v=.slice none 0 0∨∃(b off n cap:Nat) (E:Nat→Ent),v=.slice (some ⟨b,off,none⟩) n cap∧n≤cap∧cap*216≤reachBytes∧Ents W b off n E∧∀i,i<n→zDn W (E i)) :
  Calls Tryz.prog 5 #[v] W fun r w'=>r=.returned (.bool true)∧G W w':=by
 rcases h with rfl|⟨b,off,n,cap,E,rfl,hn,hc,hE,hO⟩
 ·exact zNT W
 ·refine zK6 b off n cap (by unfold reachBytes at hc;omega) E W hT.1.1 hE (fun i hi w' g=>zHR W hT (E i) (hO i hi) w' g) (fun i hi=>?_)
  have h:=hO i hi;have h1:=h.s;have h2:=h.s';unfold reachBytes at h1 h2;exact⟨zNC _ _ _ _ (by omega) h.a h.b,zNC _ _ _ _ (by omega) h.a' h.b'⟩
theorem lifted(os:Os)(started:os.Started)(H:Type)(enc:TypeId×Value→H) :
  ReturnsInHanded {} Tryz.checked os 5 .any (fun w args=>(Rows.valueBytesSpec.pre enc Tryz.prog Tryz.f5 [] false w args∧laidMetH Tryz.prog Rows.valueBytesRow.laid w)∧sizedMet enc Tryz.prog Tryz.f5 (OpenSpec.ofChange Rows.valueBytesSpec) false w args)
   (Rows.valueBytesSpec.post enc Tryz.prog Tryz.f5 false true false false):=by
 refine zHl (C:=Tryz.checked) (X:=fun w _=>laidMetH Tryz.prog Rows.valueBytesRow.laid w) (fun _ _ _ hh h=>h.of_heap hh) own started (by kernel_rfl) Tryz.func5
  (ChangeSpec.witness_shaped (enc:=enc) (C:=Tryz.checked) (os:=os) (X:=fun w _=>laidMetH Tryz.prog Rows.valueBytesRow.laid w) false (World.laidAll Tryz.prog os Rows.valueBytesRow.laid) #[.slice none 0 0] 8 (World.laidAll_os _ _ _)
   (World.shaped_of_ZipB (by kernel_rfl) (by kernel_rfl)) (by kernel_rfl) (by kernel_rfl) (by kernel_rfl)
   (by rw[MakeChecks.laidMetH_plain _ _ _ (by kernel_rfl)];exact laidMet_laidAll _ (by kernel_rfl) (by kernel_rfl))) ?_
 intro W base args ds gs before hval0 hW _ hwt hL hsh _;have hval:∀(j:Nat) t v,Tryz.f5.params[j]?=some t→args[j]?=some v→Value.okWide Tryz.prog W .any base t v:=hval0;have hW':=hW;obtain⟨p,q,hA0,hV,rfl,_,_⟩:=hW;have hA:DataW.TrodAll enc Tryz.prog W 0 (fun _=>true) true Tryz.f5.params.toList args.toList ds p:=hA0;rw[Tryz.params5] at hA hval;obtain⟨v0,d0,rfl,rfl,h0⟩:=trodAll_one hA;obtain⟨rfl,rfl⟩:=trodVars_none hV
 have hlt:∀x∈p,x.block<W.heap.size:=fun x hx=>by simpa using hW'.lt x (by simpa using hx)
 have hs:Small 22 d0:=fun n hn=>by
  have hm:n∈DataW.weightsEach Tryz.prog (Tryz.f5.params.toList++Rows.valueBytesSpec.plain.varTypes Tryz.prog) ([d0]++[]):=by
   rw[Tryz.params5];exact DataW.weights_mem_each (j:=0) rfl rfl n hn
  simpa using List.all_eq_true.1 hwt n hm
 have hL':laidMet Tryz.prog Rows.valueBytesRow.laid W:=by rw[MakeChecks.laidMetH_plain _ _ _ (by kernel_rfl)] at hL;exact hL
 have hT:RdyA W:=⟨⟨tabs hL',rks hL',mx hsh⟩,env hL'⟩;refine(law v0 W hT (zHW (hval 0 22 v0 rfl rfl) h0 hs)).mono fun e W' ⟨he,hg⟩=>?_;subst he;exact⟨_,rfl,_,_,_,[],p,[],hW',trodAll_mk1 (shut_bool Tryz.underlying4 _),trodAll_mk1 (Below.trod zTC (by kernel_rfl) (of_decide_eq_true (by kernel_rfl)) h0 hg hlt),rfl,Below.frame hg _,fun h=>by cases h⟩
theorem holds:Rows.ValueBytesSaid:=
 OpenClaim.holds_of_wide 5 Tryz.f5 rfl rfl rfl rfl rfl rfl rfl ⟨rfl,rfl,rfl,rfl,rfl⟩ rfl rfl rfl rfl rfl (by kernel_rfl) Tryz.func5 (by kernel_rfl)
  (of_decide_eq_true (by kernel_rfl)) (by unfold Func.isWrapper;first|(rw[if_pos (by decide +kernel)];kernel_rfl)|(rw[if_neg (by decide +kernel)];exact⟨rfl,rfl⟩))
  (fun os started H enc _=>lifted os started H enc)
end Go.Proofs.YthmdjhfbhbheeaaGreatDoor.valueBytes
namespace Go.Proofs.YthmdjhfbhbheeaaGreatDoor
theorem valueBytes_card:Rows.ValueBytesCardSaid:=
 Claim7.holds_tied_plain_at .later [] [.data,.data,.data,.data,.sentinel,.sentinel,.data,.data,.pinned] true (true, "766797c8144b1db1f1ccd821a4126e5866f1c5ae0ad32e26f6985bd8a50937d4") true valueBytes.holds (fun _ h=>by cases h) (by kernel_rfl) (fun _ h=>by cases h) valueBytes_row_tie rfl ⟨rfl,rfl⟩ (by kernel_rfl) rfl
  (fun f fn hf hfn=>by
   obtain rfl:f=5:=Option.some.inj ((show Tryz.prog.funcNamed "trellis/trellislaw1.ValueBytes"=some 5 by kernel_rfl).symm.trans hf) |>.symm;obtain rfl:fn=Tryz.f5:=(Option.some.inj (Tryz.func5.symm.trans hfn)).symm
   exact⟨by kernel_rfl,fun j t ht=>by
    rw[Tryz.params5] at ht
    have hm:t∈[22]:=by simpa using Array.mem_of_getElem? ht
    have hall:([22].all fun u=>!Tryz.prog.wantsStandIn u)=true:=by kernel_rfl
    exact(show Tryz.prog.wantsStandIn t=false by simpa using List.all_eq_true.1 hall t hm)⟩)
  (by kernel_rfl)
#print axioms valueBytes_card
end Go.Proofs.YthmdjhfbhbheeaaGreatDoor
