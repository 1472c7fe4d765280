import Derived.Test.YthmdjhfbhbheeaaGreatDoorRefCmp
namespace Go.Proofs.YthmdjhfbhbheeaaGreatDoor
open Go.Proofs.Tryz
set_option maxHeartbeats 1000000
set_option maxRecDepth 100000
section
open Go.RowKit Go.Lib Go.Shelf
theorem an_null(k a b:Int)(s:ByteArray)(hok:okV k a b s=true)(hk:k≠0)(w:World):(Instr.typeAssert (itemV k a b s) 49 110 true).run prog w=.ok (.tuple #[.agg #[],.bool false]) w:=by
 have h7:k=0∨k=1∨k=2∨k=3∨k=4∨k=5∨k=6:=by have:=okV_kind k a b s hok;omega
 rcases h7 with rfl|rfl|rfl|rfl|rfl|rfl|rfl
 ·exact absurd rfl hk
 ·rw[itV_1 hok];exact as_truth_null _ w
 ·rw[itV_2 hok];exact as_whole_null _ w
 ·rw[itV_3 hok];exact as_cpx_null _ w
 ·rw[itV_4 hok];exact as_str_null _ w
 ·rw[itV_5 hok];exact as_node_null _ w
 ·rw[itV_6 hok];exact as_edge_null _ w
theorem an_truth(k a b:Int)(s:ByteArray)(hok:okV k a b s=true)(hk:k≠1)(w:World):(Instr.typeAssert (itemV k a b s) 49 111 true).run prog w=.ok (.tuple #[.bool false,.bool false]) w:=by
 have h7:k=0∨k=1∨k=2∨k=3∨k=4∨k=5∨k=6:=by have:=okV_kind k a b s hok;omega
 rcases h7 with rfl|rfl|rfl|rfl|rfl|rfl|rfl
 ·rw[itV_0 hok];exact as_null_truth _ w
 ·exact absurd rfl hk
 ·rw[itV_2 hok];exact as_whole_truth _ w
 ·rw[itV_3 hok];exact as_cpx_truth _ w
 ·rw[itV_4 hok];exact as_str_truth _ w
 ·rw[itV_5 hok];exact as_node_truth _ w
 ·rw[itV_6 hok];exact as_edge_truth _ w
theorem an_whole(k a b:Int)(s:ByteArray)(hok:okV k a b s=true)(hk:k≠2)(w:World):(Instr.typeAssert (itemV k a b s) 49 135 true).run prog w=.ok (.tuple #[.int .i64 0,.bool false]) w:=by
 have h7:k=0∨k=1∨k=2∨k=3∨k=4∨k=5∨k=6:=by have:=okV_kind k a b s hok;omega
 rcases h7 with rfl|rfl|rfl|rfl|rfl|rfl|rfl
 ·rw[itV_0 hok];exact as_null_whole _ w
 ·rw[itV_1 hok];exact as_truth_whole _ w
 ·exact absurd rfl hk
 ·rw[itV_3 hok];exact as_cpx_whole _ w
 ·rw[itV_4 hok];exact as_str_whole _ w
 ·rw[itV_5 hok];exact as_node_whole _ w
 ·rw[itV_6 hok];exact as_edge_whole _ w
theorem an_cpx(k a b:Int)(s:ByteArray)(hok:okV k a b s=true)(hk:k≠3)(w:World):(Instr.typeAssert (itemV k a b s) 49 136 true).run prog w=.ok (.tuple #[.complex .f64 0 0,.bool false]) w:=by
 have h7:k=0∨k=1∨k=2∨k=3∨k=4∨k=5∨k=6:=by have:=okV_kind k a b s hok;omega
 rcases h7 with rfl|rfl|rfl|rfl|rfl|rfl|rfl
 ·rw[itV_0 hok];exact as_null_cpx _ w
 ·rw[itV_1 hok];exact as_truth_cpx _ w
 ·rw[itV_2 hok];exact as_whole_cpx _ w
 ·exact absurd rfl hk
 ·rw[itV_4 hok];exact as_str_cpx _ w
 ·rw[itV_5 hok];exact as_node_cpx _ w
 ·rw[itV_6 hok];exact as_edge_cpx _ w
theorem an_str(k a b:Int)(s:ByteArray)(hok:okV k a b s=true)(hk:k≠4)(w:World):(Instr.typeAssert (itemV k a b s) 49 137 true).run prog w=.ok (.tuple #[.string E0,.bool false]) w:=by
 have h7:k=0∨k=1∨k=2∨k=3∨k=4∨k=5∨k=6:=by have:=okV_kind k a b s hok;omega
 rcases h7 with rfl|rfl|rfl|rfl|rfl|rfl|rfl
 ·rw[itV_0 hok];exact as_null_str _ w
 ·rw[itV_1 hok];exact as_truth_str _ w
 ·rw[itV_2 hok];exact as_whole_str _ w
 ·rw[itV_3 hok];exact as_cpx_str _ w
 ·exact absurd rfl hk
 ·rw[itV_5 hok];exact as_node_str _ w
 ·rw[itV_6 hok];exact as_edge_str _ w
theorem isn_of(x:Value)(q:Bool)(h:∀w,(Instr.typeAssert x 49 110 true).run prog w=.ok (.tuple #[.agg #[],.bool q]) w)(w:World):Calls prog 83 #[x] w fun e w'=>e=.returned (.bool q)∧G w w':=by
 go_enter func83,ntmps83
 go_wp2
 go_ret
 exact⟨rfl,by repeat(first|exact G.refl _|refine G.alloc ?_ _|refine G.setCell ?_ (by simp) _)⟩
theorem isn_no(k a b:Int)(s:ByteArray)(hok:okV k a b s=true)(hk:k≠0)(w:World):Calls prog 83 #[itemV k a b s] w fun e w'=>e=.returned (.bool false)∧G w w':=
 isn_of _ false (an_null k a b s hok hk) w
theorem isn_yes(w:World):Calls prog 83 #[.iface 110 (.agg #[])] w fun e w'=>e=.returned (.bool true)∧G w w':=
 isn_of _ true (as_null_null _) w
theorem Binary_arg(op k a b k' a' b':Int)(s s':ByteArray)(ho:op<1∨18<op)(w:World) :
  Calls prog 16 #[.int .i64 op,V k a b s,V k' a' b' s'] w fun e w'=>e=.returned (.tuple #[V0,.int .i64 1])∧G w w':=by
 by_cases h:op<1
 ·clear ho
  go_enter func16,ntmps16
  go_wp2
  exact bodyPost_ret (v:=.tuple #[V0,.int .i64 1]) (by simp[results,results16,go_sem]) rfl ⟨rfl,by repeat(first|exact G.refl _|refine G.alloc ?_ _|refine G.setCell ?_ (by simp) _)⟩
 ·have h':18<op:=by omega
  clear ho
  go_enter func16,ntmps16
  go_wp2
  exact bodyPost_ret (v:=.tuple #[V0,.int .i64 1]) (by simp[results,results16,go_sem]) rfl ⟨rfl,by repeat(first|exact G.refl _|refine G.alloc ?_ _|refine G.setCell ?_ (by simp) _)⟩
theorem io_any(k a b:Int)(s:ByteArray):∀w,Tabs w→Calls prog 25 #[V k a b s] w fun e w'=>e=.returned (.tuple #[itemV k a b s,.bool (okV k a b s)])∧G w w':=itemOf_any k a b s
theorem Binary_bad1(op k a b k' a' b':Int)(s s':ByteArray)(ho:1≤op)(ho':op≤18)(hok:okV k a b s=false)(w:World)(hT:Tabs w) :
  Calls prog 16 #[.int .i64 op,V k a b s,V k' a' b' s'] w fun e w'=>e=.returned (.tuple #[V0,.int .i64 16])∧G w w':=by
 have HI:Hid _:=io_any k a b s
 have HJ:Hid _:=io_any k' a' b' s'
 rw[hok] at HI
 generalize okV k' a' b' s'=q2 at HJ
 generalize itemV k a b s=x at HI;generalize itemV k' a' b' s'=y at HJ
 clear hok
 go_enter func16,ntmps16
 go_wp2_with fail
 refine(HI.out _ (hT.G ((((G.refl w).alloc _).alloc _).alloc _))).mono ?_
 rintro e w1 ⟨rfl,hb1⟩
 have g1:G w w1:=((((G.refl w).alloc _).alloc _).alloc _).trans hb1
 obtain⟨hc1,hf1⟩:=hb1.rules
 have hz1:w.heap.size+2<w1.heap.size:=by have:=hb1.size;simp at this;omega
 go_wp2_with fail
 refine(HJ.out _ (hT.G g1)).mono ?_
 rintro e w2 ⟨rfl,hb2⟩
 have g2:G w w2:=g1.trans hb2
 obtain⟨hc2,hf2⟩:=hb2.rules
 go_wp2
 exact bodyPost_ret (v:=.tuple #[V0,.int .i64 16]) (by simp[results,results16,go_sem,hc1,hc2,hz1]) rfl ⟨rfl,by
  repeat(first|exact g2|refine G.alloc ?_ _|refine G.setCell ?_ (by simp;try omega) _)⟩
theorem Binary_bad2(op k a b k' a' b':Int)(s s':ByteArray)(ho:1≤op)(ho':op≤18)(hok:okV k a b s=true)(hok':okV k' a' b' s'=false)(w:World)(hT:Tabs w) :
  Calls prog 16 #[.int .i64 op,V k a b s,V k' a' b' s'] w fun e w'=>e=.returned (.tuple #[V0,.int .i64 16])∧G w w':=by
 have HI:Hid _:=io_any k a b s
 have HJ:Hid _:=io_any k' a' b' s'
 rw[hok] at HI
 rw[hok'] at HJ
 generalize itemV k a b s=x at HI;generalize itemV k' a' b' s'=y at HJ
 clear hok hok'
 go_enter func16,ntmps16
 go_wp2_with fail
 refine(HI.out _ (hT.G ((((G.refl w).alloc _).alloc _).alloc _))).mono ?_
 rintro e w1 ⟨rfl,hb1⟩
 have g1:G w w1:=((((G.refl w).alloc _).alloc _).alloc _).trans hb1
 obtain⟨hc1,hf1⟩:=hb1.rules
 have hz1:w.heap.size+2<w1.heap.size:=by have:=hb1.size;simp at this;omega
 go_wp2_with fail
 refine(HJ.out _ (hT.G g1)).mono ?_
 rintro e w2 ⟨rfl,hb2⟩
 have g2:G w w2:=g1.trans hb2
 obtain⟨hc2,hf2⟩:=hb2.rules
 go_wp2
 exact bodyPost_ret (v:=.tuple #[V0,.int .i64 16]) (by simp[results,results16,go_sem,hc1,hc2,hz1]) rfl ⟨rfl,by
  repeat(first|exact g2|refine G.alloc ?_ _|refine G.setCell ?_ (by simp;try omega) _)⟩
theorem Binary_of2(Rdy0:World→Prop)(hG0:∀W W1,Rdy0 W→G W W1→Rdy0 W1)(op k a b k' a' b':Int)(s s':ByteArray)(ho:1≤op)(ho':op≤18)(hok:okV k a b s=true)(hok':okV k' a' b' s'=true)(x y r:Value)(c c3 k3 a3 b3:Int)(s3:ByteArray)(hx:itemV k a b s=x)(hy:itemV k' a' b' s'=y)
  (h3:∀w,Rdy0 w→Calls prog 41 #[.int .i64 op,x,y] w fun e w'=>e=.returned (.tuple #[r,.int .i64 c])∧G w w')
  (h4:∀w,Calls prog 35 #[r,.int .i64 c] w fun e w'=>e=.returned (.tuple #[V k3 a3 b3 s3,.int .i64 c3])∧G w w') (w:World) (hT:Tabs w) (hR:Rdy0 w) :
  Calls prog 16 #[.int .i64 op,V k a b s,V k' a' b' s'] w fun e w'=>e=.returned (.tuple #[V k3 a3 b3 s3,.int .i64 c3])∧G w w':=by
 have HI:Hid _:=io_any k a b s
 have HJ:Hid _:=io_any k' a' b' s'
 rw[hok] at HI
 rw[hok'] at HJ
 rw[hx] at HI;rw[hy] at HJ;have H3:Hid _:=h3;have H4:Hid _:=h4;clear h3 h4 hx hy
 clear hok hok'
 go_enter func16,ntmps16
 go_wp2_with fail
 refine(HI.out _ (hT.G ((((G.refl w).alloc _).alloc _).alloc _))).mono ?_
 rintro e w1 ⟨rfl,hb1⟩
 have g1:G w w1:=((((G.refl w).alloc _).alloc _).alloc _).trans hb1
 obtain⟨hc1,hf1⟩:=hb1.rules
 have hz1:w.heap.size+2<w1.heap.size:=by have:=hb1.size;simp at this;omega
 go_wp2_with fail
 refine(HJ.out _ (hT.G g1)).mono ?_
 rintro e w2 ⟨rfl,hb2⟩
 have g2:G w w2:=g1.trans hb2
 obtain⟨hc2,hf2⟩:=hb2.rules
 have hz2:w.heap.size+2<w2.heap.size:=by have:=hb2.size;omega
 go_wp2_with fail
 refine(H3.out _ (hG0 _ _ hR g2)).mono ?_
 rintro e w3 ⟨rfl,hb3⟩
 have g3:G w w3:=g2.trans hb3
 obtain⟨hc3,hf3⟩:=hb3.rules
 have hz3:w.heap.size+2<w3.heap.size:=by have:=hb3.size;omega
 go_wp2_with fail
 refine(H4.out _).mono ?_
 rintro e w4 ⟨rfl,hb4⟩
 have g4:G w w4:=g3.trans hb4
 obtain⟨hc4,hf4⟩:=hb4.rules
 go_wp2
 exact bodyPost_ret (v:=.tuple #[V k3 a3 b3 s3,.int .i64 c3]) (by simp[results,results16,go_sem,hc1,hc2,hc3,hc4,hz1,hz2,hz3]) rfl ⟨rfl,by
  repeat(first|exact g4|refine G.alloc ?_ _|refine G.setCell ?_ (by simp;try omega) _)⟩
end
section
open Go.RowKit Go.Lib Go.Shelf
attribute [local go_sem] as_null_null as_null_truth as_truth_null as_truth_truth
def tI(q:Bool):Int:=if q then 1 else 0
theorem answer_truth(q:Bool)(w:World):Calls prog 35 #[.iface 111 (.bool q),.int .i64 0] w fun e w'=>e=.returned (.tuple #[V 1 (tI q) 0 E0,.int .i64 0])∧G w w':=by
 cases q
 ·exact answer_ff w
 ·exact answer_tt w
theorem bin_null1(op:Int)(x y:Value)(n12:(op==12)=false)(n13:(op==13)=false)(n14:(op==14)=false)(hx:∀w,Calls prog 83 #[x] w fun e w'=>e=.returned (.bool true)∧G w w')(w:World) :
  Calls prog 41 #[.int .i64 op,x,y] w fun e w'=>e=.returned (.tuple #[.iface 110 (.agg #[]),.int .i64 0])∧G w w':=by
 have HX:Hid _:=hx
 clear hx
 go_enter func41,ntmps41
 go_wp2_with fail
 refine(HX.out _).mono ?_
 rintro e w1 ⟨rfl,hb1⟩
 go_wp2
 go_ret2
 exact⟨rfl,hb1⟩
theorem bin_null2(op:Int)(x y:Value)(n12:(op==12)=false)(n13:(op==13)=false)(n14:(op==14)=false)(hx:∀w,Calls prog 83 #[x] w fun e w'=>e=.returned (.bool false)∧G w w')(hy:∀w,Calls prog 83 #[y] w fun e w'=>e=.returned (.bool true)∧G w w')(w:World) :
  Calls prog 41 #[.int .i64 op,x,y] w fun e w'=>e=.returned (.tuple #[.iface 110 (.agg #[]),.int .i64 0])∧G w w':=by
 have HX:Hid _:=hx
 have HY:Hid _:=hy
 clear hx hy
 go_enter func41,ntmps41
 go_wp2_with fail
 refine(HX.out _).mono ?_
 rintro e w1 ⟨rfl,hb1⟩
 go_wp2_with fail
 refine(HY.out _).mono ?_
 rintro e w2 ⟨rfl,hb2⟩
 go_wp2
 go_ret2
 exact⟨rfl,hb1.trans hb2⟩
theorem bin_6(Rdy0:World→Prop)(hG0:∀W W1,Rdy0 W→G W W1→Rdy0 W1)(q:Bool)(x y:Value)(hx:∀w,Calls prog 83 #[x] w fun e w'=>e=.returned (.bool false)∧G w w')(hy:∀w,Calls prog 83 #[y] w fun e w'=>e=.returned (.bool false)∧G w w')
  (h:∀w,Rdy0 w→Calls prog 84 #[x,y] w fun e w'=>e=.returned (.bool q)∧G w w') (w:World) (hR:Rdy0 w) :
  Calls prog 41 #[.int .i64 6,x,y] w fun e w'=>e=.returned (.tuple #[.iface 111 (.bool q),.int .i64 0])∧G w w':=by
 have H:Hid _:=h
 have HX:Hid _:=hx
 have HY:Hid _:=hy
 clear hx hy h
 go_enter func41,ntmps41
 go_wp2_with fail
 refine(HX.out _).mono ?_
 rintro e w1 ⟨rfl,hb1⟩
 go_wp2_with fail
 refine(HY.out _).mono ?_
 rintro e w2 ⟨rfl,hb2⟩
 go_wp2_with fail
 refine(H.out _ (hG0 _ _ hR (hb1.trans hb2))).mono ?_
 rintro e w3 ⟨rfl,hb3⟩
 go_wp2
 go_ret2
 exact⟨rfl,(hb1.trans hb2).trans hb3⟩
theorem bin_7(Rdy0:World→Prop)(hG0:∀W W1,Rdy0 W→G W W1→Rdy0 W1)(q:Bool)(x y:Value)(hx:∀w,Calls prog 83 #[x] w fun e w'=>e=.returned (.bool false)∧G w w')(hy:∀w,Calls prog 83 #[y] w fun e w'=>e=.returned (.bool false)∧G w w')
  (h:∀w,Rdy0 w→Calls prog 84 #[x,y] w fun e w'=>e=.returned (.bool q)∧G w w') (w:World) (hR:Rdy0 w) :
  Calls prog 41 #[.int .i64 7,x,y] w fun e w'=>e=.returned (.tuple #[.iface 111 (.bool (!q)),.int .i64 0])∧G w w':=by
 have H:Hid _:=h
 have HX:Hid _:=hx
 have HY:Hid _:=hy
 clear hx hy h
 go_enter func41,ntmps41
 go_wp2_with fail
 refine(HX.out _).mono ?_
 rintro e w1 ⟨rfl,hb1⟩
 go_wp2_with fail
 refine(HY.out _).mono ?_
 rintro e w2 ⟨rfl,hb2⟩
 go_wp2_with fail
 refine(H.out _ (hG0 _ _ hR (hb1.trans hb2))).mono ?_
 rintro e w3 ⟨rfl,hb3⟩
 go_wp2
 go_ret2
 exact⟨rfl,(hb1.trans hb2).trans hb3⟩
theorem bin_8(Rdy0:World→Prop)(hG0:∀W W1,Rdy0 W→G W W1→Rdy0 W1)(r:Value)(x y:Value)(hx:∀w,Calls prog 83 #[x] w fun e w'=>e=.returned (.bool false)∧G w w')(hy:∀w,Calls prog 83 #[y] w fun e w'=>e=.returned (.bool false)∧G w w')
  (h:∀w,Rdy0 w→Calls prog 85 #[.int .i64 8,x,y] w fun e w'=>e=.returned (r)∧G w w') (w:World) (hR:Rdy0 w) :
  Calls prog 41 #[.int .i64 8,x,y] w fun e w'=>e=.returned (.tuple #[r,.int .i64 0])∧G w w':=by
 have H:Hid _:=h
 have HX:Hid _:=hx
 have HY:Hid _:=hy
 clear hx hy h
 go_enter func41,ntmps41
 go_wp2_with fail
 refine(HX.out _).mono ?_
 rintro e w1 ⟨rfl,hb1⟩
 go_wp2_with fail
 refine(HY.out _).mono ?_
 rintro e w2 ⟨rfl,hb2⟩
 go_wp2_with fail
 refine(H.out _ (hG0 _ _ hR (hb1.trans hb2))).mono ?_
 rintro e w3 ⟨rfl,hb3⟩
 go_wp2
 go_ret2
 exact⟨rfl,(hb1.trans hb2).trans hb3⟩
theorem bin_9(Rdy0:World→Prop)(hG0:∀W W1,Rdy0 W→G W W1→Rdy0 W1)(r:Value)(x y:Value)(hx:∀w,Calls prog 83 #[x] w fun e w'=>e=.returned (.bool false)∧G w w')(hy:∀w,Calls prog 83 #[y] w fun e w'=>e=.returned (.bool false)∧G w w')
  (h:∀w,Rdy0 w→Calls prog 85 #[.int .i64 9,x,y] w fun e w'=>e=.returned (r)∧G w w') (w:World) (hR:Rdy0 w) :
  Calls prog 41 #[.int .i64 9,x,y] w fun e w'=>e=.returned (.tuple #[r,.int .i64 0])∧G w w':=by
 have H:Hid _:=h
 have HX:Hid _:=hx
 have HY:Hid _:=hy
 clear hx hy h
 go_enter func41,ntmps41
 go_wp2_with fail
 refine(HX.out _).mono ?_
 rintro e w1 ⟨rfl,hb1⟩
 go_wp2_with fail
 refine(HY.out _).mono ?_
 rintro e w2 ⟨rfl,hb2⟩
 go_wp2_with fail
 refine(H.out _ (hG0 _ _ hR (hb1.trans hb2))).mono ?_
 rintro e w3 ⟨rfl,hb3⟩
 go_wp2
 go_ret2
 exact⟨rfl,(hb1.trans hb2).trans hb3⟩
theorem bin_10(Rdy0:World→Prop)(hG0:∀W W1,Rdy0 W→G W W1→Rdy0 W1)(r:Value)(x y:Value)(hx:∀w,Calls prog 83 #[x] w fun e w'=>e=.returned (.bool false)∧G w w')(hy:∀w,Calls prog 83 #[y] w fun e w'=>e=.returned (.bool false)∧G w w')
  (h:∀w,Rdy0 w→Calls prog 85 #[.int .i64 10,x,y] w fun e w'=>e=.returned (r)∧G w w') (w:World) (hR:Rdy0 w) :
  Calls prog 41 #[.int .i64 10,x,y] w fun e w'=>e=.returned (.tuple #[r,.int .i64 0])∧G w w':=by
 have H:Hid _:=h
 have HX:Hid _:=hx
 have HY:Hid _:=hy
 clear hx hy h
 go_enter func41,ntmps41
 go_wp2_with fail
 refine(HX.out _).mono ?_
 rintro e w1 ⟨rfl,hb1⟩
 go_wp2_with fail
 refine(HY.out _).mono ?_
 rintro e w2 ⟨rfl,hb2⟩
 go_wp2_with fail
 refine(H.out _ (hG0 _ _ hR (hb1.trans hb2))).mono ?_
 rintro e w3 ⟨rfl,hb3⟩
 go_wp2
 go_ret2
 exact⟨rfl,(hb1.trans hb2).trans hb3⟩
theorem bin_11(Rdy0:World→Prop)(hG0:∀W W1,Rdy0 W→G W W1→Rdy0 W1)(r:Value)(x y:Value)(hx:∀w,Calls prog 83 #[x] w fun e w'=>e=.returned (.bool false)∧G w w')(hy:∀w,Calls prog 83 #[y] w fun e w'=>e=.returned (.bool false)∧G w w')
  (h:∀w,Rdy0 w→Calls prog 85 #[.int .i64 11,x,y] w fun e w'=>e=.returned (r)∧G w w') (w:World) (hR:Rdy0 w) :
  Calls prog 41 #[.int .i64 11,x,y] w fun e w'=>e=.returned (.tuple #[r,.int .i64 0])∧G w w':=by
 have H:Hid _:=h
 have HX:Hid _:=hx
 have HY:Hid _:=hy
 clear hx hy h
 go_enter func41,ntmps41
 go_wp2_with fail
 refine(HX.out _).mono ?_
 rintro e w1 ⟨rfl,hb1⟩
 go_wp2_with fail
 refine(HY.out _).mono ?_
 rintro e w2 ⟨rfl,hb2⟩
 go_wp2_with fail
 refine(H.out _ (hG0 _ _ hR (hb1.trans hb2))).mono ?_
 rintro e w3 ⟨rfl,hb3⟩
 go_wp2
 go_ret2
 exact⟨rfl,(hb1.trans hb2).trans hb3⟩
theorem bin_15(Rdy0:World→Prop)(hG0:∀W W1,Rdy0 W→G W W1→Rdy0 W1)(r:Value)(c:Int)(x y:Value)(hx:∀w,Calls prog 83 #[x] w fun e w'=>e=.returned (.bool false)∧G w w')(hy:∀w,Calls prog 83 #[y] w fun e w'=>e=.returned (.bool false)∧G w w')
  (h:∀w,Rdy0 w→Calls prog 86 #[.int .i64 15,x,y] w fun e w'=>e=.returned (.tuple #[r,.int .i64 c])∧G w w') (w:World) (hR:Rdy0 w) :
  Calls prog 41 #[.int .i64 15,x,y] w fun e w'=>e=.returned (.tuple #[r,.int .i64 c])∧G w w':=by
 have H:Hid _:=h
 have HX:Hid _:=hx
 have HY:Hid _:=hy
 clear hx hy h
 go_enter func41,ntmps41
 go_wp2_with fail
 refine(HX.out _).mono ?_
 rintro e w1 ⟨rfl,hb1⟩
 go_wp2_with fail
 refine(HY.out _).mono ?_
 rintro e w2 ⟨rfl,hb2⟩
 go_wp2_with fail
 refine(H.out _ (hG0 _ _ hR (hb1.trans hb2))).mono ?_
 rintro e w3 ⟨rfl,hb3⟩
 go_wp2
 go_ret2
 exact⟨rfl,(hb1.trans hb2).trans hb3⟩
theorem bin_17(Rdy0:World→Prop)(hG0:∀W W1,Rdy0 W→G W W1→Rdy0 W1)(r:Value)(c:Int)(x y:Value)(hx:∀w,Calls prog 83 #[x] w fun e w'=>e=.returned (.bool false)∧G w w')(hy:∀w,Calls prog 83 #[y] w fun e w'=>e=.returned (.bool false)∧G w w')
  (h:∀w,Rdy0 w→Calls prog 86 #[.int .i64 17,x,y] w fun e w'=>e=.returned (.tuple #[r,.int .i64 c])∧G w w') (w:World) (hR:Rdy0 w) :
  Calls prog 41 #[.int .i64 17,x,y] w fun e w'=>e=.returned (.tuple #[r,.int .i64 c])∧G w w':=by
 have H:Hid _:=h
 have HX:Hid _:=hx
 have HY:Hid _:=hy
 clear hx hy h
 go_enter func41,ntmps41
 go_wp2_with fail
 refine(HX.out _).mono ?_
 rintro e w1 ⟨rfl,hb1⟩
 go_wp2_with fail
 refine(HY.out _).mono ?_
 rintro e w2 ⟨rfl,hb2⟩
 go_wp2_with fail
 refine(H.out _ (hG0 _ _ hR (hb1.trans hb2))).mono ?_
 rintro e w3 ⟨rfl,hb3⟩
 go_wp2
 go_ret2
 exact⟨rfl,(hb1.trans hb2).trans hb3⟩
theorem bin_18(Rdy0:World→Prop)(hG0:∀W W1,Rdy0 W→G W W1→Rdy0 W1)(r:Value)(c:Int)(x y:Value)(hx:∀w,Calls prog 83 #[x] w fun e w'=>e=.returned (.bool false)∧G w w')(hy:∀w,Calls prog 83 #[y] w fun e w'=>e=.returned (.bool false)∧G w w')
  (h:∀w,Rdy0 w→Calls prog 86 #[.int .i64 18,x,y] w fun e w'=>e=.returned (.tuple #[r,.int .i64 c])∧G w w') (w:World) (hR:Rdy0 w) :
  Calls prog 41 #[.int .i64 18,x,y] w fun e w'=>e=.returned (.tuple #[r,.int .i64 c])∧G w w':=by
 have H:Hid _:=h
 have HX:Hid _:=hx
 have HY:Hid _:=hy
 clear hx hy h
 go_enter func41,ntmps41
 go_wp2_with fail
 refine(HX.out _).mono ?_
 rintro e w1 ⟨rfl,hb1⟩
 go_wp2_with fail
 refine(HY.out _).mono ?_
 rintro e w2 ⟨rfl,hb2⟩
 go_wp2_with fail
 refine(H.out _ (hG0 _ _ hR (hb1.trans hb2))).mono ?_
 rintro e w3 ⟨rfl,hb3⟩
 go_wp2
 go_ret2
 exact⟨rfl,(hb1.trans hb2).trans hb3⟩
theorem bin_16(Rdy0:World→Prop)(hG0:∀W W1,Rdy0 W→G W W1→Rdy0 W1)(r:Value)(c:Int)(x y:Value)(hx:∀w,Calls prog 83 #[x] w fun e w'=>e=.returned (.bool false)∧G w w')(hy:∀w,Calls prog 83 #[y] w fun e w'=>e=.returned (.bool false)∧G w w')
  (h:∀w,Rdy0 w→Calls prog 87 #[x,y] w fun e w'=>e=.returned (.tuple #[r,.int .i64 c])∧G w w') (w:World) (hR:Rdy0 w) :
  Calls prog 41 #[.int .i64 16,x,y] w fun e w'=>e=.returned (.tuple #[r,.int .i64 c])∧G w w':=by
 have H:Hid _:=h
 have HX:Hid _:=hx
 have HY:Hid _:=hy
 clear hx hy h
 go_enter func41,ntmps41
 go_wp2_with fail
 refine(HX.out _).mono ?_
 rintro e w1 ⟨rfl,hb1⟩
 go_wp2_with fail
 refine(HY.out _).mono ?_
 rintro e w2 ⟨rfl,hb2⟩
 go_wp2_with fail
 refine(H.out _ (hG0 _ _ hR (hb1.trans hb2))).mono ?_
 rintro e w3 ⟨rfl,hb3⟩
 go_wp2
 go_ret2
 exact⟨rfl,(hb1.trans hb2).trans hb3⟩
theorem bin_12(Rdy0:World→Prop)(_hG0:∀W W1,Rdy0 W→G W W1→Rdy0 W1)(r:Value)(c:Int)(x y:Value)
  (h:∀w,Rdy0 w→Calls prog 82 #[.int .i64 12,x,y] w fun e w'=>e=.returned (.tuple #[r,.int .i64 c])∧G w w') (w:World) (hR:Rdy0 w) :
  Calls prog 41 #[.int .i64 12,x,y] w fun e w'=>e=.returned (.tuple #[r,.int .i64 c])∧G w w':=by
 have H:Hid _:=h
 clear h
 go_enter func41,ntmps41
 go_wp2_with fail
 refine(H.out _ hR).mono ?_
 rintro e w3 ⟨rfl,hb3⟩
 go_wp2
 go_ret2
 exact⟨rfl,hb3⟩
theorem bin_13(Rdy0:World→Prop)(_hG0:∀W W1,Rdy0 W→G W W1→Rdy0 W1)(r:Value)(c:Int)(x y:Value)
  (h:∀w,Rdy0 w→Calls prog 82 #[.int .i64 13,x,y] w fun e w'=>e=.returned (.tuple #[r,.int .i64 c])∧G w w') (w:World) (hR:Rdy0 w) :
  Calls prog 41 #[.int .i64 13,x,y] w fun e w'=>e=.returned (.tuple #[r,.int .i64 c])∧G w w':=by
 have H:Hid _:=h
 clear h
 go_enter func41,ntmps41
 go_wp2_with fail
 refine(H.out _ hR).mono ?_
 rintro e w3 ⟨rfl,hb3⟩
 go_wp2
 go_ret2
 exact⟨rfl,hb3⟩
theorem bin_14(Rdy0:World→Prop)(_hG0:∀W W1,Rdy0 W→G W W1→Rdy0 W1)(r:Value)(c:Int)(x y:Value)
  (h:∀w,Rdy0 w→Calls prog 82 #[.int .i64 14,x,y] w fun e w'=>e=.returned (.tuple #[r,.int .i64 c])∧G w w') (w:World) (hR:Rdy0 w) :
  Calls prog 41 #[.int .i64 14,x,y] w fun e w'=>e=.returned (.tuple #[r,.int .i64 c])∧G w w':=by
 have H:Hid _:=h
 clear h
 go_enter func41,ntmps41
 go_wp2_with fail
 refine(H.out _ hR).mono ?_
 rintro e w3 ⟨rfl,hb3⟩
 go_wp2
 go_ret2
 exact⟨rfl,hb3⟩
theorem sure_0(w:World):Calls prog 114 #[.iface 111 (.bool false)] w fun e w'=>e=.returned (.tuple #[.int .i64 (-1),.bool true])∧G w w':=by
 go_enter func114,ntmps114
 go_wp2
 go_ret2
 exact⟨rfl,by repeat(first|exact G.refl _|refine G.alloc ?_ _|refine G.setCell ?_ (by simp) _)⟩
theorem of_sure_0(w:World):Calls prog 115 #[.int .i64 (-1)] w fun e w'=>e=.returned (.iface 111 (.bool false))∧G w w':=by
 go_enter func115,ntmps115
 go_wp2
 go_ret
 exact⟨rfl,G.refl _⟩
theorem sure_1(w:World):Calls prog 114 #[.iface 111 (.bool true)] w fun e w'=>e=.returned (.tuple #[.int .i64 1,.bool true])∧G w w':=by
 go_enter func114,ntmps114
 go_wp2
 go_ret2
 exact⟨rfl,by repeat(first|exact G.refl _|refine G.alloc ?_ _|refine G.setCell ?_ (by simp) _)⟩
theorem of_sure_1(w:World):Calls prog 115 #[.int .i64 1] w fun e w'=>e=.returned (.iface 111 (.bool true))∧G w w':=by
 go_enter func115,ntmps115
 go_wp2
 go_ret
 exact⟨rfl,G.refl _⟩
theorem sure_2(w:World):Calls prog 114 #[.iface 110 (.agg #[])] w fun e w'=>e=.returned (.tuple #[.int .i64 0,.bool true])∧G w w':=by
 go_enter func114,ntmps114
 go_wp2
 go_ret2
 exact⟨rfl,by repeat(first|exact G.refl _|refine G.alloc ?_ _|refine G.setCell ?_ (by simp) _)⟩
theorem of_sure_2(w:World):Calls prog 115 #[.int .i64 0] w fun e w'=>e=.returned (.iface 110 (.agg #[]))∧G w w':=by
 go_enter func115,ntmps115
 go_wp2
 go_ret
 exact⟨rfl,G.refl _⟩
theorem sure_no(k a b:Int)(s:ByteArray)(hok:okV k a b s=true)(hk:2≤k)(w:World):Calls prog 114 #[itemV k a b s] w fun e w'=>e=.returned (.tuple #[.int .i64 0,.bool false])∧G w w':=by
 have h1:=an_null k a b s hok (by omega)
 have h2:=an_truth k a b s hok (by omega)
 generalize itemV k a b s=x at h1 h2
 clear hok hk
 go_enter func114,ntmps114
 go_wp2
 go_ret2
 exact⟨rfl,G.refl _⟩
theorem lno1(op:Int)(x y:Value)(m n:Int)(q:Bool)(hx:∀w,Calls prog 114 #[x] w fun e w'=>e=.returned (.tuple #[.int .i64 m,.bool false])∧G w w')(hy:∀w,Calls prog 114 #[y] w fun e w'=>e=.returned (.tuple #[.int .i64 n,.bool q])∧G w w')(w:World) :
  Calls prog 82 #[.int .i64 op,x,y] w fun e w'=>e=.returned (.tuple #[.nilIface,.int .i64 10])∧G w w':=by
 have HX:Hid _:=hx
 have HY:Hid _:=hy
 clear hx hy
 go_enter func82,ntmps82
 go_wp2_with fail
 refine(HX.out _).mono ?_
 rintro e w1 ⟨rfl,hb1⟩
 go_wp2_with fail
 refine(HY.out _).mono ?_
 rintro e w2 ⟨rfl,hb2⟩
 go_wp2
 go_ret2
 exact⟨rfl,hb1.trans hb2⟩
theorem lno2(op:Int)(x y:Value)(m n:Int)(hx:∀w,Calls prog 114 #[x] w fun e w'=>e=.returned (.tuple #[.int .i64 m,.bool true])∧G w w')(hy:∀w,Calls prog 114 #[y] w fun e w'=>e=.returned (.tuple #[.int .i64 n,.bool false])∧G w w')(w:World) :
  Calls prog 82 #[.int .i64 op,x,y] w fun e w'=>e=.returned (.tuple #[.nilIface,.int .i64 10])∧G w w':=by
 have HX:Hid _:=hx
 have HY:Hid _:=hy
 clear hx hy
 go_enter func82,ntmps82
 go_wp2_with fail
 refine(HX.out _).mono ?_
 rintro e w1 ⟨rfl,hb1⟩
 go_wp2_with fail
 refine(HY.out _).mono ?_
 rintro e w2 ⟨rfl,hb2⟩
 go_wp2
 go_ret2
 exact⟨rfl,hb1.trans hb2⟩
theorem log_12_00(w:World):Calls prog 82 #[.int .i64 12,.iface 111 (.bool false),.iface 111 (.bool false)] w fun e w'=>e=.returned (.tuple #[.iface 111 (.bool false),.int .i64 0])∧G w w':=by
 go_enter func82,ntmps82
 go_wp2_with fail
 refine(sure_0 _).mono ?_
 rintro e w1 ⟨rfl,hb1⟩
 go_wp2_with fail
 refine(sure_0 _).mono ?_
 rintro e w2 ⟨rfl,hb2⟩
 go_wp2_with fail
 refine(of_sure_0 _).mono ?_
 rintro e w3 ⟨rfl,hb3⟩
 go_wp2
 go_ret2
 exact⟨rfl,(hb1.trans hb2).trans hb3⟩
theorem log_12_01(w:World):Calls prog 82 #[.int .i64 12,.iface 111 (.bool false),.iface 111 (.bool true)] w fun e w'=>e=.returned (.tuple #[.iface 111 (.bool false),.int .i64 0])∧G w w':=by
 go_enter func82,ntmps82
 go_wp2_with fail
 refine(sure_0 _).mono ?_
 rintro e w1 ⟨rfl,hb1⟩
 go_wp2_with fail
 refine(sure_1 _).mono ?_
 rintro e w2 ⟨rfl,hb2⟩
 go_wp2_with fail
 refine(of_sure_0 _).mono ?_
 rintro e w3 ⟨rfl,hb3⟩
 go_wp2
 go_ret2
 exact⟨rfl,(hb1.trans hb2).trans hb3⟩
theorem log_12_02(w:World):Calls prog 82 #[.int .i64 12,.iface 111 (.bool false),.iface 110 (.agg #[])] w fun e w'=>e=.returned (.tuple #[.iface 111 (.bool false),.int .i64 0])∧G w w':=by
 go_enter func82,ntmps82
 go_wp2_with fail
 refine(sure_0 _).mono ?_
 rintro e w1 ⟨rfl,hb1⟩
 go_wp2_with fail
 refine(sure_2 _).mono ?_
 rintro e w2 ⟨rfl,hb2⟩
 go_wp2_with fail
 refine(of_sure_0 _).mono ?_
 rintro e w3 ⟨rfl,hb3⟩
 go_wp2
 go_ret2
 exact⟨rfl,(hb1.trans hb2).trans hb3⟩
theorem log_12_10(w:World):Calls prog 82 #[.int .i64 12,.iface 111 (.bool true),.iface 111 (.bool false)] w fun e w'=>e=.returned (.tuple #[.iface 111 (.bool false),.int .i64 0])∧G w w':=by
 go_enter func82,ntmps82
 go_wp2_with fail
 refine(sure_1 _).mono ?_
 rintro e w1 ⟨rfl,hb1⟩
 go_wp2_with fail
 refine(sure_0 _).mono ?_
 rintro e w2 ⟨rfl,hb2⟩
 go_wp2_with fail
 refine(of_sure_0 _).mono ?_
 rintro e w3 ⟨rfl,hb3⟩
 go_wp2
 go_ret2
 exact⟨rfl,(hb1.trans hb2).trans hb3⟩
theorem log_12_11(w:World):Calls prog 82 #[.int .i64 12,.iface 111 (.bool true),.iface 111 (.bool true)] w fun e w'=>e=.returned (.tuple #[.iface 111 (.bool true),.int .i64 0])∧G w w':=by
 go_enter func82,ntmps82
 go_wp2_with fail
 refine(sure_1 _).mono ?_
 rintro e w1 ⟨rfl,hb1⟩
 go_wp2_with fail
 refine(sure_1 _).mono ?_
 rintro e w2 ⟨rfl,hb2⟩
 go_wp2_with fail
 refine(of_sure_1 _).mono ?_
 rintro e w3 ⟨rfl,hb3⟩
 go_wp2
 go_ret2
 exact⟨rfl,(hb1.trans hb2).trans hb3⟩
theorem log_12_12(w:World):Calls prog 82 #[.int .i64 12,.iface 111 (.bool true),.iface 110 (.agg #[])] w fun e w'=>e=.returned (.tuple #[.iface 110 (.agg #[]),.int .i64 0])∧G w w':=by
 go_enter func82,ntmps82
 go_wp2_with fail
 refine(sure_1 _).mono ?_
 rintro e w1 ⟨rfl,hb1⟩
 go_wp2_with fail
 refine(sure_2 _).mono ?_
 rintro e w2 ⟨rfl,hb2⟩
 go_wp2_with fail
 refine(of_sure_2 _).mono ?_
 rintro e w3 ⟨rfl,hb3⟩
 go_wp2
 go_ret2
 exact⟨rfl,(hb1.trans hb2).trans hb3⟩
theorem log_12_20(w:World):Calls prog 82 #[.int .i64 12,.iface 110 (.agg #[]),.iface 111 (.bool false)] w fun e w'=>e=.returned (.tuple #[.iface 111 (.bool false),.int .i64 0])∧G w w':=by
 go_enter func82,ntmps82
 go_wp2_with fail
 refine(sure_2 _).mono ?_
 rintro e w1 ⟨rfl,hb1⟩
 go_wp2_with fail
 refine(sure_0 _).mono ?_
 rintro e w2 ⟨rfl,hb2⟩
 go_wp2_with fail
 refine(of_sure_0 _).mono ?_
 rintro e w3 ⟨rfl,hb3⟩
 go_wp2
 go_ret2
 exact⟨rfl,(hb1.trans hb2).trans hb3⟩
theorem log_12_21(w:World):Calls prog 82 #[.int .i64 12,.iface 110 (.agg #[]),.iface 111 (.bool true)] w fun e w'=>e=.returned (.tuple #[.iface 110 (.agg #[]),.int .i64 0])∧G w w':=by
 go_enter func82,ntmps82
 go_wp2_with fail
 refine(sure_2 _).mono ?_
 rintro e w1 ⟨rfl,hb1⟩
 go_wp2_with fail
 refine(sure_1 _).mono ?_
 rintro e w2 ⟨rfl,hb2⟩
 go_wp2_with fail
 refine(of_sure_2 _).mono ?_
 rintro e w3 ⟨rfl,hb3⟩
 go_wp2
 go_ret2
 exact⟨rfl,(hb1.trans hb2).trans hb3⟩
theorem log_12_22(w:World):Calls prog 82 #[.int .i64 12,.iface 110 (.agg #[]),.iface 110 (.agg #[])] w fun e w'=>e=.returned (.tuple #[.iface 110 (.agg #[]),.int .i64 0])∧G w w':=by
 go_enter func82,ntmps82
 go_wp2_with fail
 refine(sure_2 _).mono ?_
 rintro e w1 ⟨rfl,hb1⟩
 go_wp2_with fail
 refine(sure_2 _).mono ?_
 rintro e w2 ⟨rfl,hb2⟩
 go_wp2_with fail
 refine(of_sure_2 _).mono ?_
 rintro e w3 ⟨rfl,hb3⟩
 go_wp2
 go_ret2
 exact⟨rfl,(hb1.trans hb2).trans hb3⟩
theorem log_13_00(w:World):Calls prog 82 #[.int .i64 13,.iface 111 (.bool false),.iface 111 (.bool false)] w fun e w'=>e=.returned (.tuple #[.iface 111 (.bool false),.int .i64 0])∧G w w':=by
 go_enter func82,ntmps82
 go_wp2_with fail
 refine(sure_0 _).mono ?_
 rintro e w1 ⟨rfl,hb1⟩
 go_wp2_with fail
 refine(sure_0 _).mono ?_
 rintro e w2 ⟨rfl,hb2⟩
 go_wp2_with fail
 refine(of_sure_0 _).mono ?_
 rintro e w3 ⟨rfl,hb3⟩
 go_wp2
 go_ret2
 exact⟨rfl,(hb1.trans hb2).trans hb3⟩
theorem log_13_01(w:World):Calls prog 82 #[.int .i64 13,.iface 111 (.bool false),.iface 111 (.bool true)] w fun e w'=>e=.returned (.tuple #[.iface 111 (.bool true),.int .i64 0])∧G w w':=by
 go_enter func82,ntmps82
 go_wp2_with fail
 refine(sure_0 _).mono ?_
 rintro e w1 ⟨rfl,hb1⟩
 go_wp2_with fail
 refine(sure_1 _).mono ?_
 rintro e w2 ⟨rfl,hb2⟩
 go_wp2_with fail
 refine(of_sure_1 _).mono ?_
 rintro e w3 ⟨rfl,hb3⟩
 go_wp2
 go_ret2
 exact⟨rfl,(hb1.trans hb2).trans hb3⟩
theorem log_13_02(w:World):Calls prog 82 #[.int .i64 13,.iface 111 (.bool false),.iface 110 (.agg #[])] w fun e w'=>e=.returned (.tuple #[.iface 110 (.agg #[]),.int .i64 0])∧G w w':=by
 go_enter func82,ntmps82
 go_wp2_with fail
 refine(sure_0 _).mono ?_
 rintro e w1 ⟨rfl,hb1⟩
 go_wp2_with fail
 refine(sure_2 _).mono ?_
 rintro e w2 ⟨rfl,hb2⟩
 go_wp2_with fail
 refine(of_sure_2 _).mono ?_
 rintro e w3 ⟨rfl,hb3⟩
 go_wp2
 go_ret2
 exact⟨rfl,(hb1.trans hb2).trans hb3⟩
theorem log_13_10(w:World):Calls prog 82 #[.int .i64 13,.iface 111 (.bool true),.iface 111 (.bool false)] w fun e w'=>e=.returned (.tuple #[.iface 111 (.bool true),.int .i64 0])∧G w w':=by
 go_enter func82,ntmps82
 go_wp2_with fail
 refine(sure_1 _).mono ?_
 rintro e w1 ⟨rfl,hb1⟩
 go_wp2_with fail
 refine(sure_0 _).mono ?_
 rintro e w2 ⟨rfl,hb2⟩
 go_wp2_with fail
 refine(of_sure_1 _).mono ?_
 rintro e w3 ⟨rfl,hb3⟩
 go_wp2
 go_ret2
 exact⟨rfl,(hb1.trans hb2).trans hb3⟩
theorem log_13_11(w:World):Calls prog 82 #[.int .i64 13,.iface 111 (.bool true),.iface 111 (.bool true)] w fun e w'=>e=.returned (.tuple #[.iface 111 (.bool true),.int .i64 0])∧G w w':=by
 go_enter func82,ntmps82
 go_wp2_with fail
 refine(sure_1 _).mono ?_
 rintro e w1 ⟨rfl,hb1⟩
 go_wp2_with fail
 refine(sure_1 _).mono ?_
 rintro e w2 ⟨rfl,hb2⟩
 go_wp2_with fail
 refine(of_sure_1 _).mono ?_
 rintro e w3 ⟨rfl,hb3⟩
 go_wp2
 go_ret2
 exact⟨rfl,(hb1.trans hb2).trans hb3⟩
theorem log_13_12(w:World):Calls prog 82 #[.int .i64 13,.iface 111 (.bool true),.iface 110 (.agg #[])] w fun e w'=>e=.returned (.tuple #[.iface 111 (.bool true),.int .i64 0])∧G w w':=by
 go_enter func82,ntmps82
 go_wp2_with fail
 refine(sure_1 _).mono ?_
 rintro e w1 ⟨rfl,hb1⟩
 go_wp2_with fail
 refine(sure_2 _).mono ?_
 rintro e w2 ⟨rfl,hb2⟩
 go_wp2_with fail
 refine(of_sure_1 _).mono ?_
 rintro e w3 ⟨rfl,hb3⟩
 go_wp2
 go_ret2
 exact⟨rfl,(hb1.trans hb2).trans hb3⟩
theorem log_13_20(w:World):Calls prog 82 #[.int .i64 13,.iface 110 (.agg #[]),.iface 111 (.bool false)] w fun e w'=>e=.returned (.tuple #[.iface 110 (.agg #[]),.int .i64 0])∧G w w':=by
 go_enter func82,ntmps82
 go_wp2_with fail
 refine(sure_2 _).mono ?_
 rintro e w1 ⟨rfl,hb1⟩
 go_wp2_with fail
 refine(sure_0 _).mono ?_
 rintro e w2 ⟨rfl,hb2⟩
 go_wp2_with fail
 refine(of_sure_2 _).mono ?_
 rintro e w3 ⟨rfl,hb3⟩
 go_wp2
 go_ret2
 exact⟨rfl,(hb1.trans hb2).trans hb3⟩
theorem log_13_21(w:World):Calls prog 82 #[.int .i64 13,.iface 110 (.agg #[]),.iface 111 (.bool true)] w fun e w'=>e=.returned (.tuple #[.iface 111 (.bool true),.int .i64 0])∧G w w':=by
 go_enter func82,ntmps82
 go_wp2_with fail
 refine(sure_2 _).mono ?_
 rintro e w1 ⟨rfl,hb1⟩
 go_wp2_with fail
 refine(sure_1 _).mono ?_
 rintro e w2 ⟨rfl,hb2⟩
 go_wp2_with fail
 refine(of_sure_1 _).mono ?_
 rintro e w3 ⟨rfl,hb3⟩
 go_wp2
 go_ret2
 exact⟨rfl,(hb1.trans hb2).trans hb3⟩
theorem log_13_22(w:World):Calls prog 82 #[.int .i64 13,.iface 110 (.agg #[]),.iface 110 (.agg #[])] w fun e w'=>e=.returned (.tuple #[.iface 110 (.agg #[]),.int .i64 0])∧G w w':=by
 go_enter func82,ntmps82
 go_wp2_with fail
 refine(sure_2 _).mono ?_
 rintro e w1 ⟨rfl,hb1⟩
 go_wp2_with fail
 refine(sure_2 _).mono ?_
 rintro e w2 ⟨rfl,hb2⟩
 go_wp2_with fail
 refine(of_sure_2 _).mono ?_
 rintro e w3 ⟨rfl,hb3⟩
 go_wp2
 go_ret2
 exact⟨rfl,(hb1.trans hb2).trans hb3⟩
theorem log_14_00(w:World):Calls prog 82 #[.int .i64 14,.iface 111 (.bool false),.iface 111 (.bool false)] w fun e w'=>e=.returned (.tuple #[.iface 111 (.bool false),.int .i64 0])∧G w w':=by
 go_enter func82,ntmps82
 go_wp2_with fail
 refine(sure_0 _).mono ?_
 rintro e w1 ⟨rfl,hb1⟩
 go_wp2_with fail
 refine(sure_0 _).mono ?_
 rintro e w2 ⟨rfl,hb2⟩
 go_wp2_with fail
 refine(of_sure_0 _).mono ?_
 rintro e w3 ⟨rfl,hb3⟩
 go_wp2
 go_ret2
 exact⟨rfl,(hb1.trans hb2).trans hb3⟩
theorem log_14_01(w:World):Calls prog 82 #[.int .i64 14,.iface 111 (.bool false),.iface 111 (.bool true)] w fun e w'=>e=.returned (.tuple #[.iface 111 (.bool true),.int .i64 0])∧G w w':=by
 go_enter func82,ntmps82
 go_wp2_with fail
 refine(sure_0 _).mono ?_
 rintro e w1 ⟨rfl,hb1⟩
 go_wp2_with fail
 refine(sure_1 _).mono ?_
 rintro e w2 ⟨rfl,hb2⟩
 go_wp2_with fail
 refine(of_sure_1 _).mono ?_
 rintro e w3 ⟨rfl,hb3⟩
 go_wp2
 go_ret2
 exact⟨rfl,(hb1.trans hb2).trans hb3⟩
theorem log_14_02(w:World):Calls prog 82 #[.int .i64 14,.iface 111 (.bool false),.iface 110 (.agg #[])] w fun e w'=>e=.returned (.tuple #[.iface 110 (.agg #[]),.int .i64 0])∧G w w':=by
 go_enter func82,ntmps82
 go_wp2_with fail
 refine(sure_0 _).mono ?_
 rintro e w1 ⟨rfl,hb1⟩
 go_wp2_with fail
 refine(sure_2 _).mono ?_
 rintro e w2 ⟨rfl,hb2⟩
 go_wp2_with fail
 refine(of_sure_2 _).mono ?_
 rintro e w3 ⟨rfl,hb3⟩
 go_wp2
 go_ret2
 exact⟨rfl,(hb1.trans hb2).trans hb3⟩
theorem log_14_10(w:World):Calls prog 82 #[.int .i64 14,.iface 111 (.bool true),.iface 111 (.bool false)] w fun e w'=>e=.returned (.tuple #[.iface 111 (.bool true),.int .i64 0])∧G w w':=by
 go_enter func82,ntmps82
 go_wp2_with fail
 refine(sure_1 _).mono ?_
 rintro e w1 ⟨rfl,hb1⟩
 go_wp2_with fail
 refine(sure_0 _).mono ?_
 rintro e w2 ⟨rfl,hb2⟩
 go_wp2_with fail
 refine(of_sure_1 _).mono ?_
 rintro e w3 ⟨rfl,hb3⟩
 go_wp2
 go_ret2
 exact⟨rfl,(hb1.trans hb2).trans hb3⟩
theorem log_14_11(w:World):Calls prog 82 #[.int .i64 14,.iface 111 (.bool true),.iface 111 (.bool true)] w fun e w'=>e=.returned (.tuple #[.iface 111 (.bool false),.int .i64 0])∧G w w':=by
 go_enter func82,ntmps82
 go_wp2_with fail
 refine(sure_1 _).mono ?_
 rintro e w1 ⟨rfl,hb1⟩
 go_wp2_with fail
 refine(sure_1 _).mono ?_
 rintro e w2 ⟨rfl,hb2⟩
 go_wp2_with fail
 refine(of_sure_0 _).mono ?_
 rintro e w3 ⟨rfl,hb3⟩
 go_wp2
 go_ret2
 exact⟨rfl,(hb1.trans hb2).trans hb3⟩
theorem log_14_12(w:World):Calls prog 82 #[.int .i64 14,.iface 111 (.bool true),.iface 110 (.agg #[])] w fun e w'=>e=.returned (.tuple #[.iface 110 (.agg #[]),.int .i64 0])∧G w w':=by
 go_enter func82,ntmps82
 go_wp2_with fail
 refine(sure_1 _).mono ?_
 rintro e w1 ⟨rfl,hb1⟩
 go_wp2_with fail
 refine(sure_2 _).mono ?_
 rintro e w2 ⟨rfl,hb2⟩
 go_wp2_with fail
 refine(of_sure_2 _).mono ?_
 rintro e w3 ⟨rfl,hb3⟩
 go_wp2
 go_ret2
 exact⟨rfl,(hb1.trans hb2).trans hb3⟩
theorem log_14_20(w:World):Calls prog 82 #[.int .i64 14,.iface 110 (.agg #[]),.iface 111 (.bool false)] w fun e w'=>e=.returned (.tuple #[.iface 110 (.agg #[]),.int .i64 0])∧G w w':=by
 go_enter func82,ntmps82
 go_wp2_with fail
 refine(sure_2 _).mono ?_
 rintro e w1 ⟨rfl,hb1⟩
 go_wp2_with fail
 refine(sure_0 _).mono ?_
 rintro e w2 ⟨rfl,hb2⟩
 go_wp2_with fail
 refine(of_sure_2 _).mono ?_
 rintro e w3 ⟨rfl,hb3⟩
 go_wp2
 go_ret2
 exact⟨rfl,(hb1.trans hb2).trans hb3⟩
theorem log_14_21(w:World):Calls prog 82 #[.int .i64 14,.iface 110 (.agg #[]),.iface 111 (.bool true)] w fun e w'=>e=.returned (.tuple #[.iface 110 (.agg #[]),.int .i64 0])∧G w w':=by
 go_enter func82,ntmps82
 go_wp2_with fail
 refine(sure_2 _).mono ?_
 rintro e w1 ⟨rfl,hb1⟩
 go_wp2_with fail
 refine(sure_1 _).mono ?_
 rintro e w2 ⟨rfl,hb2⟩
 go_wp2_with fail
 refine(of_sure_2 _).mono ?_
 rintro e w3 ⟨rfl,hb3⟩
 go_wp2
 go_ret2
 exact⟨rfl,(hb1.trans hb2).trans hb3⟩
theorem log_14_22(w:World):Calls prog 82 #[.int .i64 14,.iface 110 (.agg #[]),.iface 110 (.agg #[])] w fun e w'=>e=.returned (.tuple #[.iface 110 (.agg #[]),.int .i64 0])∧G w w':=by
 go_enter func82,ntmps82
 go_wp2_with fail
 refine(sure_2 _).mono ?_
 rintro e w1 ⟨rfl,hb1⟩
 go_wp2_with fail
 refine(sure_2 _).mono ?_
 rintro e w2 ⟨rfl,hb2⟩
 go_wp2_with fail
 refine(of_sure_2 _).mono ?_
 rintro e w3 ⟨rfl,hb3⟩
 go_wp2
 go_ret2
 exact⟨rfl,(hb1.trans hb2).trans hb3⟩
end
end Go.Proofs.YthmdjhfbhbheeaaGreatDoor
