import Derived.LoopTactic
import Derived.Test.YthmdjhfbhbheeaaGreatDoorFormsPlays
import Derived.Test.YthmdjhfbhbheeaaGreatDoorWholeNo
namespace Go.Proofs.YthmdjhfbhbheeaaGreatDoor
open Go.Proofs.Tryz
set_option maxHeartbeats 2000000
set_option maxRecDepth 100000
section
open Go.RowKit Go.Lib Go.Shelf
theorem zOb(op k a b:Int)(s:ByteArray)(ho:op<1∨8<op)(w:World) :
  CG 14 #[.int .i64 op,V k a b s] w (.tuple #[V0,.int .i64 1]):=by
 by_cases h:op<1
 ·clear ho
  go_enter func14,ntmps14
  go_wp2
  exact bodyPost_ret (v:=.tuple #[V0,.int .i64 1]) (by simp[results,results14,go_sem]) rfl ⟨rfl,by repeat(first|exact G.refl _|refine G.alloc ?_ _|refine G.setCell ?_ (by simp) _)⟩
 ·have h':8<op:=by omega
  clear ho
  go_enter func14,ntmps14
  go_wp2
  exact bodyPost_ret (v:=.tuple #[V0,.int .i64 1]) (by simp[results,results14,go_sem]) rfl ⟨rfl,by repeat(first|exact G.refl _|refine G.alloc ?_ _|refine G.setCell ?_ (by simp) _)⟩
theorem zOa(op k a b:Int)(s:ByteArray)(ho:1≤op)(ho':op≤8)(hok:okV k a b s=false)(w:World)(hT:Tabs w) :
  CG 14 #[.int .i64 op,V k a b s] w (.tuple #[V0,.int .i64 16]):=by
 have HI:Hid (∀w,Tabs w→CG 25 #[V k a b s] w (.tuple #[zAb k a b s,.bool false])):=by
  have:=zAi k a b s;unfold zAv at this;rw[hok] at this;exact this
 clear hok;generalize zAb k a b s=x at HI
 go_enter func14,ntmps14
 go_wp2_with fail
 refine(HI.out _ (hT.G (((G.refl w).alloc _).alloc _))).mono ?_;rintro e w1 ⟨rfl,hb1⟩;obtain⟨hc1,hf1⟩:=hb1.rules
 go_wp2
 exact bodyPost_ret (v:=.tuple #[V0,.int .i64 16]) (by simp[results,results14,go_sem,hc1]) rfl ⟨rfl,by
  have g4:G w w1:=(((G.refl w).alloc _).alloc _).trans hb1
  repeat(first|exact g4|refine G.alloc ?_ _|refine G.setCell ?_ (by simp;try omega) _)⟩
theorem zTs (w:World):(method 351 110 (.agg #[]) "trellis/value.unary").run prog w=.ok (234,.agg #[]) w:=by kernel_rfl
theorem zPB(q:Bool)(w:World):(method 351 111 (.bool q) "trellis/value.unary").run prog w=.ok (239,.bool q) w:=by kernel_rfl
theorem zPA(n:Int)(w:World):(method 351 135 (.int .i64 n) "trellis/value.unary").run prog w=.ok (246,.int .i64 n) w:=by kernel_rfl
theorem zVU(x y:Nat)(w:World):(method 351 136 (.complex .f64 x y) "trellis/value.unary").run prog w=.ok (254,.complex .f64 x y) w:=by kernel_rfl
theorem zVT(s:ByteArray)(w:World):(method 351 137 (.string s) "trellis/value.unary").run prog w=.ok (259,.string s) w:=by kernel_rfl
theorem zTt(n:Int)(w:World):(method 351 138 (.int .i64 n) "trellis/value.unary").run prog w=.ok (267,.int .i64 n) w:=by kernel_rfl
theorem zTu(n:Int)(w:World):(method 351 139 (.int .i64 n) "trellis/value.unary").run prog w=.ok (272,.int .i64 n) w:=by kernel_rfl
theorem zUy(op k a b:Int)(s:ByteArray)(ho:1≤op)(ho':op≤8)(hok:okV k a b s=true) (r:Value)(c c3 k3 a3 b3:Int)(s3:ByteArray)
  (hx:zAb k a b s=.iface 110 (.agg #[]))
  (h3:∀w,CG 234 #[.agg #[],.int .i64 op] w (.tuple #[r,.int .i64 c]))
  (h4:∀w,CG 35 #[r,.int .i64 c] w (.tuple #[V k3 a3 b3 s3,.int .i64 c3])) (w:World) (hT:Tabs w) :
  CG 14 #[.int .i64 op,V k a b s] w (.tuple #[V k3 a3 b3 s3,.int .i64 c3]):=by
 have H3:Hid _:=h3;have H4:Hid _:=h4
 have HI:Hid (∀w,Tabs w→CG 25 #[V k a b s] w (.tuple #[.iface 110 (.agg #[]),.bool true])):=by
  have:=zAi k a b s;unfold zAv at this;rw[hok,hx] at this;exact this
 have hm:=zTs;clear h3 h4 hx hok
 go_enter func14,ntmps14
 go_wp2_with fail
 refine(HI.out _ (hT.G (((G.refl w).alloc _).alloc _))).mono ?_;rintro e w1 ⟨rfl,hb1⟩;obtain⟨hc1,hf1⟩:=hb1.rules
 have hz1:w.heap.size+1<w1.heap.size:=by have:=hb1.size;simp at this;omega
 go_wp2_with fail
 refine(H3.out _).mono ?_;rintro e w3 ⟨rfl,hb3⟩;obtain⟨hc3,hf3⟩:=hb3.rules
 have hz3:w.heap.size+1<w3.heap.size:=by have:=hb3.size;omega
 go_wp2_with fail
 refine(H4.out _).mono ?_;rintro e w4 ⟨rfl,hb4⟩;obtain⟨hc4,hf4⟩:=hb4.rules
 go_wp2
 exact bodyPost_ret (v:=.tuple #[V k3 a3 b3 s3,.int .i64 c3]) (by simp[results,results14,go_sem,hc4,hc3,hc1,hz1,hz3]) rfl ⟨rfl,by
  have g4:G w w4:=((((G.refl w).alloc _).alloc _).trans hb1).trans (hb3.trans hb4)
  repeat(first|exact g4|refine G.setCell ?_ (by simp;try omega) _)⟩
theorem zGm(op k a b:Int)(s:ByteArray)(ho:1≤op)(ho':op≤8)(hok:okV k a b s=true)(q:Bool)(r:Value)(c c3 k3 a3 b3:Int)(s3:ByteArray)
  (hx:zAb k a b s=.iface 111 (.bool q))
  (h3:∀w,CG 239 #[.bool q,.int .i64 op] w (.tuple #[r,.int .i64 c]))
  (h4:∀w,CG 35 #[r,.int .i64 c] w (.tuple #[V k3 a3 b3 s3,.int .i64 c3])) (w:World) (hT:Tabs w) :
  CG 14 #[.int .i64 op,V k a b s] w (.tuple #[V k3 a3 b3 s3,.int .i64 c3]):=by
 have H3:Hid _:=h3;have H4:Hid _:=h4
 have HI:Hid (∀w,Tabs w→CG 25 #[V k a b s] w (.tuple #[.iface 111 (.bool q),.bool true])):=by
  have:=zAi k a b s;unfold zAv at this;rw[hok,hx] at this;exact this
 have hm:=zPB;clear h3 h4 hx hok
 go_enter func14,ntmps14
 go_wp2_with fail
 refine(HI.out _ (hT.G (((G.refl w).alloc _).alloc _))).mono ?_;rintro e w1 ⟨rfl,hb1⟩;obtain⟨hc1,hf1⟩:=hb1.rules
 have hz1:w.heap.size+1<w1.heap.size:=by have:=hb1.size;simp at this;omega
 go_wp2_with fail
 refine(H3.out _).mono ?_;rintro e w3 ⟨rfl,hb3⟩;obtain⟨hc3,hf3⟩:=hb3.rules
 have hz3:w.heap.size+1<w3.heap.size:=by have:=hb3.size;omega
 go_wp2_with fail
 refine(H4.out _).mono ?_;rintro e w4 ⟨rfl,hb4⟩;obtain⟨hc4,hf4⟩:=hb4.rules
 go_wp2
 exact bodyPost_ret (v:=.tuple #[V k3 a3 b3 s3,.int .i64 c3]) (by simp[results,results14,go_sem,hc4,hc3,hc1,hz1,hz3]) rfl ⟨rfl,by
  have g4:G w w4:=((((G.refl w).alloc _).alloc _).trans hb1).trans (hb3.trans hb4)
  repeat(first|exact g4|refine G.setCell ?_ (by simp;try omega) _)⟩
theorem zA2(op k a b:Int)(s:ByteArray)(ho:1≤op)(ho':op≤8)(hok:okV k a b s=true)(n4:Int)(r:Value)(c c3 k3 a3 b3:Int)(s3:ByteArray)
  (hx:zAb k a b s=.iface 135 (.int .i64 n4))
  (h3:∀w,CG 246 #[.int .i64 n4,.int .i64 op] w (.tuple #[r,.int .i64 c]))
  (h4:∀w,CG 35 #[r,.int .i64 c] w (.tuple #[V k3 a3 b3 s3,.int .i64 c3])) (w:World) (hT:Tabs w) :
  CG 14 #[.int .i64 op,V k a b s] w (.tuple #[V k3 a3 b3 s3,.int .i64 c3]):=by
 have H3:Hid _:=h3;have H4:Hid _:=h4
 have HI:Hid (∀w,Tabs w→CG 25 #[V k a b s] w (.tuple #[.iface 135 (.int .i64 n4),.bool true])):=by
  have:=zAi k a b s;unfold zAv at this;rw[hok,hx] at this;exact this
 have hm:=zPA;clear h3 h4 hx hok
 go_enter func14,ntmps14
 go_wp2_with fail
 refine(HI.out _ (hT.G (((G.refl w).alloc _).alloc _))).mono ?_;rintro e w1 ⟨rfl,hb1⟩;obtain⟨hc1,hf1⟩:=hb1.rules
 have hz1:w.heap.size+1<w1.heap.size:=by have:=hb1.size;simp at this;omega
 go_wp2_with fail
 refine(H3.out _).mono ?_;rintro e w3 ⟨rfl,hb3⟩;obtain⟨hc3,hf3⟩:=hb3.rules
 have hz3:w.heap.size+1<w3.heap.size:=by have:=hb3.size;omega
 go_wp2_with fail
 refine(H4.out _).mono ?_;rintro e w4 ⟨rfl,hb4⟩;obtain⟨hc4,hf4⟩:=hb4.rules
 go_wp2
 exact bodyPost_ret (v:=.tuple #[V k3 a3 b3 s3,.int .i64 c3]) (by simp[results,results14,go_sem,hc4,hc3,hc1,hz1,hz3]) rfl ⟨rfl,by
  have g4:G w w4:=((((G.refl w).alloc _).alloc _).trans hb1).trans (hb3.trans hb4)
  repeat(first|exact g4|refine G.setCell ?_ (by simp;try omega) _)⟩
theorem zD3(op k a b:Int)(s:ByteArray)(ho:1≤op)(ho':op≤8)(hok:okV k a b s=true)(x y:Nat)(r:Value)(c c3 k3 a3 b3:Int)(s3:ByteArray)
  (hx:zAb k a b s=.iface 136 (.complex .f64 x y))
  (h3:∀w,CG 254 #[.complex .f64 x y,.int .i64 op] w (.tuple #[r,.int .i64 c]))
  (h4:∀w,CG 35 #[r,.int .i64 c] w (.tuple #[V k3 a3 b3 s3,.int .i64 c3])) (w:World) (hT:Tabs w) :
  CG 14 #[.int .i64 op,V k a b s] w (.tuple #[V k3 a3 b3 s3,.int .i64 c3]):=by
 have H3:Hid _:=h3;have H4:Hid _:=h4
 have HI:Hid (∀w,Tabs w→CG 25 #[V k a b s] w (.tuple #[.iface 136 (.complex .f64 x y),.bool true])):=by
  have:=zAi k a b s;unfold zAv at this;rw[hok,hx] at this;exact this
 have hm:=zVU;clear h3 h4 hx hok
 go_enter func14,ntmps14
 go_wp2_with fail
 refine(HI.out _ (hT.G (((G.refl w).alloc _).alloc _))).mono ?_;rintro e w1 ⟨rfl,hb1⟩;obtain⟨hc1,hf1⟩:=hb1.rules
 have hz1:w.heap.size+1<w1.heap.size:=by have:=hb1.size;simp at this;omega
 go_wp2_with fail
 refine(H3.out _).mono ?_;rintro e w3 ⟨rfl,hb3⟩;obtain⟨hc3,hf3⟩:=hb3.rules
 have hz3:w.heap.size+1<w3.heap.size:=by have:=hb3.size;omega
 go_wp2_with fail
 refine(H4.out _).mono ?_;rintro e w4 ⟨rfl,hb4⟩;obtain⟨hc4,hf4⟩:=hb4.rules
 go_wp2
 exact bodyPost_ret (v:=.tuple #[V k3 a3 b3 s3,.int .i64 c3]) (by simp[results,results14,go_sem,hc4,hc3,hc1,hz1,hz3]) rfl ⟨rfl,by
  have g4:G w w4:=((((G.refl w).alloc _).alloc _).trans hb1).trans (hb3.trans hb4)
  repeat(first|exact g4|refine G.setCell ?_ (by simp;try omega) _)⟩
theorem zRC(op k a b:Int)(s:ByteArray)(ho:1≤op)(ho':op≤8)(hok:okV k a b s=true)(s4:ByteArray)(r:Value)(c c3 k3 a3 b3:Int)(s3:ByteArray)
  (hx:zAb k a b s=.iface 137 (.string s4))
  (h3:∀w,CG 259 #[.string s4,.int .i64 op] w (.tuple #[r,.int .i64 c]))
  (h4:∀w,CG 35 #[r,.int .i64 c] w (.tuple #[V k3 a3 b3 s3,.int .i64 c3])) (w:World) (hT:Tabs w) :
  CG 14 #[.int .i64 op,V k a b s] w (.tuple #[V k3 a3 b3 s3,.int .i64 c3]):=by
 have H3:Hid _:=h3;have H4:Hid _:=h4
 have HI:Hid (∀w,Tabs w→CG 25 #[V k a b s] w (.tuple #[.iface 137 (.string s4),.bool true])):=by
  have:=zAi k a b s;unfold zAv at this;rw[hok,hx] at this;exact this
 have hm:=zVT;clear h3 h4 hx hok
 go_enter func14,ntmps14
 go_wp2_with fail
 refine(HI.out _ (hT.G (((G.refl w).alloc _).alloc _))).mono ?_;rintro e w1 ⟨rfl,hb1⟩;obtain⟨hc1,hf1⟩:=hb1.rules
 have hz1:w.heap.size+1<w1.heap.size:=by have:=hb1.size;simp at this;omega
 go_wp2_with fail
 refine(H3.out _).mono ?_;rintro e w3 ⟨rfl,hb3⟩;obtain⟨hc3,hf3⟩:=hb3.rules
 have hz3:w.heap.size+1<w3.heap.size:=by have:=hb3.size;omega
 go_wp2_with fail
 refine(H4.out _).mono ?_;rintro e w4 ⟨rfl,hb4⟩;obtain⟨hc4,hf4⟩:=hb4.rules
 go_wp2
 exact bodyPost_ret (v:=.tuple #[V k3 a3 b3 s3,.int .i64 c3]) (by simp[results,results14,go_sem,hc4,hc3,hc1,hz1,hz3]) rfl ⟨rfl,by
  have g4:G w w4:=((((G.refl w).alloc _).alloc _).trans hb1).trans (hb3.trans hb4)
  repeat(first|exact g4|refine G.setCell ?_ (by simp;try omega) _)⟩
theorem zUz(op k a b:Int)(s:ByteArray)(ho:1≤op)(ho':op≤8)(hok:okV k a b s=true)(n4:Int)(r:Value)(c c3 k3 a3 b3:Int)(s3:ByteArray)
  (hx:zAb k a b s=.iface 138 (.int .i64 n4))
  (h3:∀w,CG 267 #[.int .i64 n4,.int .i64 op] w (.tuple #[r,.int .i64 c]))
  (h4:∀w,CG 35 #[r,.int .i64 c] w (.tuple #[V k3 a3 b3 s3,.int .i64 c3])) (w:World) (hT:Tabs w) :
  CG 14 #[.int .i64 op,V k a b s] w (.tuple #[V k3 a3 b3 s3,.int .i64 c3]):=by
 have H3:Hid _:=h3;have H4:Hid _:=h4
 have HI:Hid (∀w,Tabs w→CG 25 #[V k a b s] w (.tuple #[.iface 138 (.int .i64 n4),.bool true])):=by
  have:=zAi k a b s;unfold zAv at this;rw[hok,hx] at this;exact this
 have hm:=zTt;clear h3 h4 hx hok
 go_enter func14,ntmps14
 go_wp2_with fail
 refine(HI.out _ (hT.G (((G.refl w).alloc _).alloc _))).mono ?_;rintro e w1 ⟨rfl,hb1⟩;obtain⟨hc1,hf1⟩:=hb1.rules
 have hz1:w.heap.size+1<w1.heap.size:=by have:=hb1.size;simp at this;omega
 go_wp2_with fail
 refine(H3.out _).mono ?_;rintro e w3 ⟨rfl,hb3⟩;obtain⟨hc3,hf3⟩:=hb3.rules
 have hz3:w.heap.size+1<w3.heap.size:=by have:=hb3.size;omega
 go_wp2_with fail
 refine(H4.out _).mono ?_;rintro e w4 ⟨rfl,hb4⟩;obtain⟨hc4,hf4⟩:=hb4.rules
 go_wp2
 exact bodyPost_ret (v:=.tuple #[V k3 a3 b3 s3,.int .i64 c3]) (by simp[results,results14,go_sem,hc4,hc3,hc1,hz1,hz3]) rfl ⟨rfl,by
  have g4:G w w4:=((((G.refl w).alloc _).alloc _).trans hb1).trans (hb3.trans hb4)
  repeat(first|exact g4|refine G.setCell ?_ (by simp;try omega) _)⟩
theorem zUA(op k a b:Int)(s:ByteArray)(ho:1≤op)(ho':op≤8)(hok:okV k a b s=true)(n4:Int)(r:Value)(c c3 k3 a3 b3:Int)(s3:ByteArray)
  (hx:zAb k a b s=.iface 139 (.int .i64 n4))
  (h3:∀w,CG 272 #[.int .i64 n4,.int .i64 op] w (.tuple #[r,.int .i64 c]))
  (h4:∀w,CG 35 #[r,.int .i64 c] w (.tuple #[V k3 a3 b3 s3,.int .i64 c3])) (w:World) (hT:Tabs w) :
  CG 14 #[.int .i64 op,V k a b s] w (.tuple #[V k3 a3 b3 s3,.int .i64 c3]):=by
 have H3:Hid _:=h3;have H4:Hid _:=h4
 have HI:Hid (∀w,Tabs w→CG 25 #[V k a b s] w (.tuple #[.iface 139 (.int .i64 n4),.bool true])):=by
  have:=zAi k a b s;unfold zAv at this;rw[hok,hx] at this;exact this
 have hm:=zTu;clear h3 h4 hx hok
 go_enter func14,ntmps14
 go_wp2_with fail
 refine(HI.out _ (hT.G (((G.refl w).alloc _).alloc _))).mono ?_;rintro e w1 ⟨rfl,hb1⟩;obtain⟨hc1,hf1⟩:=hb1.rules
 have hz1:w.heap.size+1<w1.heap.size:=by have:=hb1.size;simp at this;omega
 go_wp2_with fail
 refine(H3.out _).mono ?_;rintro e w3 ⟨rfl,hb3⟩;obtain⟨hc3,hf3⟩:=hb3.rules
 have hz3:w.heap.size+1<w3.heap.size:=by have:=hb3.size;omega
 go_wp2_with fail
 refine(H4.out _).mono ?_;rintro e w4 ⟨rfl,hb4⟩;obtain⟨hc4,hf4⟩:=hb4.rules
 go_wp2
 exact bodyPost_ret (v:=.tuple #[V k3 a3 b3 s3,.int .i64 c3]) (by simp[results,results14,go_sem,hc4,hc3,hc1,hz1,hz3]) rfl ⟨rfl,by
  have g4:G w w4:=((((G.refl w).alloc _).alloc _).trans hb1).trans (hb3.trans hb4)
  repeat(first|exact g4|refine G.setCell ?_ (by simp;try omega) _)⟩
theorem zRI(op:Int)(w:World):CG 234 #[.agg #[],.int .i64 op] w (.tuple #[.iface 110 (.agg #[]),.int .i64 0]):=by
 go_enter func234,ntmps234
 go_wp2
 go_ret2
 exact⟨rfl,by repeat(first|exact G.refl _|refine G.alloc ?_ _|refine G.setCell ?_ (by simp) _)⟩
theorem zIt(q:Bool)(w:World):CG 239 #[.bool q,.int .i64 2] w (.tuple #[.iface 111 (.bool (!q)),.int .i64 0]):=by
 go_enter func239,ntmps239
 go_wp2
 go_ret2
 exact⟨rfl,by repeat(first|exact G.refl _|refine G.alloc ?_ _|refine G.setCell ?_ (by simp) _)⟩
theorem zHq(q:Bool)(op:Int)(h:(op==2)=false)(w:World):CG 239 #[.bool q,.int .i64 op] w (.tuple #[.nilIface,.int .i64 10]):=by
 go_enter func239,ntmps239
 go_wp2
 go_ret2
 exact⟨rfl,by repeat(first|exact G.refl _|refine G.alloc ?_ _|refine G.setCell ?_ (by simp) _)⟩
theorem zRK(n op:Int)(w:World):CG 267 #[.int .i64 n,.int .i64 op] w (.tuple #[.nilIface,.int .i64 10]):=by
 go_enter func267,ntmps267
 go_wp2
 go_ret2
 exact⟨rfl,by repeat(first|exact G.refl _|refine G.alloc ?_ _|refine G.setCell ?_ (by simp) _)⟩
theorem zRL(n op:Int)(w:World):CG 272 #[.int .i64 n,.int .i64 op] w (.tuple #[.nilIface,.int .i64 10]):=by
 go_enter func272,ntmps272
 go_wp2
 go_ret2
 exact⟨rfl,by repeat(first|exact G.refl _|refine G.alloc ?_ _|refine G.setCell ?_ (by simp) _)⟩
theorem zLc(s:ByteArray)(op:Int)(h:(op==7)=false)(w:World):CG 259 #[.string s,.int .i64 op] w (.tuple #[.nilIface,.int .i64 10]):=by
 go_enter func259,ntmps259
 go_wp2
 go_ret2
 exact⟨rfl,by repeat(first|exact G.refl _|refine G.alloc ?_ _|refine G.setCell ?_ (by simp) _)⟩
theorem zJS(n:Int)(w:World):CG 246 #[.int .i64 n,.int .i64 3] w (.tuple #[IW n,.int .i64 0]):=by
 go_enter func246,ntmps246
 go_wp2
 go_ret2
 exact⟨rfl,by repeat(first|exact G.refl _|refine G.alloc ?_ _|refine G.setCell ?_ (by simp) _)⟩
theorem zJQ(n:Int)(w:World):CG 246 #[.int .i64 n,.int .i64 5] w (.tuple #[IW n,.int .i64 0]):=by
 go_enter func246,ntmps246
 go_wp2
 go_ret2
 exact⟨rfl,by repeat(first|exact G.refl _|refine G.alloc ?_ _|refine G.setCell ?_ (by simp) _)⟩
theorem zJR(n:Int)(w:World):CG 246 #[.int .i64 n,.int .i64 4] w (.tuple #[IW 0,.int .i64 0]):=by
 go_enter func246,ntmps246
 go_wp2
 go_ret2
 exact⟨rfl,by repeat(first|exact G.refl _|refine G.alloc ?_ _|refine G.setCell ?_ (by simp) _)⟩
theorem zJP(n:Int)(h:¬n<0)(w:World):CG 246 #[.int .i64 n,.int .i64 8] w (.tuple #[IW n,.int .i64 0]):=by
 go_enter func246,ntmps246
 go_wp2
 go_ret2
 exact⟨rfl,by repeat(first|exact G.refl _|refine G.alloc ?_ _|refine G.setCell ?_ (by simp) _)⟩
theorem zEj(n op:Int)(h:op=2∨op=7)(w:World):CG 246 #[.int .i64 n,.int .i64 op] w (.tuple #[.nilIface,.int .i64 10]):=by
 have n1:(op==1)=false:=by simp;omega
 have n3:(op==3)=false:=by simp;omega
 have n5:(op==5)=false:=by simp;omega
 have n4:(op==4)=false:=by simp;omega
 have n6:(op==6)=false:=by simp;omega
 have n8:(op==8)=false:=by simp;omega
 clear h
 go_enter func246,ntmps246
 go_wp2
 go_ret2
 exact⟨rfl,by repeat(first|exact G.refl _|refine G.alloc ?_ _|refine G.setCell ?_ (by simp) _)⟩
theorem zUE(n:Int)(h:I64 (0-n))(w:World):CG 246 #[.int .i64 n,.int .i64 1] w (.tuple #[IW (-n),.int .i64 0]):=by
 have H:Hid _:=zDc 0 n h;clear h
 go_enter func246,ntmps246
 go_wp2_with fail
 refine(H.out _).mono ?_;rintro e w1 ⟨rfl,rfl⟩
 go_wp2
 go_ret2
 exact⟨rfl,by repeat(first|exact G.refl _|refine G.alloc ?_ _|refine G.setCell ?_ (by simp) _)⟩
theorem zLd(n:Int)(hn:I64 n)(h:¬I64 (0-n))(w:World):CG 246 #[.int .i64 n,.int .i64 1] w (.tuple #[.nilIface,.int .i64 11]):=by
 have H:Hid _:=zDd 0 n (by unfold I64;omega) hn h;clear h hn
 go_enter func246,ntmps246
 go_wp2_with fail
 refine(H.out _).mono ?_;rintro e w1 ⟨rfl,rfl⟩
 go_wp2
 go_ret2
 exact⟨rfl,by repeat(first|exact G.refl _|refine G.alloc ?_ _|refine G.setCell ?_ (by simp) _)⟩
theorem zUG(n:Int)(hl:n<0)(h:I64 (0-n))(w:World):CG 246 #[.int .i64 n,.int .i64 8] w (.tuple #[IW (-n),.int .i64 0]):=by
 have H:Hid _:=zDc 0 n h;clear h
 go_enter func246,ntmps246
 go_wp2_with fail
 refine(H.out _).mono ?_;rintro e w1 ⟨rfl,rfl⟩
 go_wp2
 go_ret2
 exact⟨rfl,by repeat(first|exact G.refl _|refine G.alloc ?_ _|refine G.setCell ?_ (by simp) _)⟩
theorem zLe(n:Int)(hl:n<0)(hn:I64 n)(h:¬I64 (0-n))(w:World):CG 246 #[.int .i64 n,.int .i64 8] w (.tuple #[.nilIface,.int .i64 11]):=by
 have H:Hid _:=zDd 0 n (by unfold I64;omega) hn h;clear h hn
 go_enter func246,ntmps246
 go_wp2_with fail
 refine(H.out _).mono ?_;rintro e w1 ⟨rfl,rfl⟩
 go_wp2
 go_ret2
 exact⟨rfl,by repeat(first|exact G.refl _|refine G.alloc ?_ _|refine G.setCell ?_ (by simp) _)⟩
theorem zRJ(n:Int)(hn:I64 n)(h:I64 (n*n))(w:World):CG 246 #[.int .i64 n,.int .i64 6] w (.tuple #[IW (n*n),.int .i64 0]):=by
 have H:Hid _:=zEC n n h hn;clear h hn
 go_enter func246,ntmps246
 go_wp2_with fail
 refine(H.out _).mono ?_;rintro e w1 ⟨rfl,rfl⟩
 go_wp2
 go_ret2
 exact⟨rfl,by repeat(first|exact G.refl _|refine G.alloc ?_ _|refine G.setCell ?_ (by simp) _)⟩
theorem zJT(n:Int)(hn:I64 n)(h:¬I64 (n*n))(w:World):CG 246 #[.int .i64 n,.int .i64 6] w (.tuple #[.nilIface,.int .i64 11]):=by
 have H:Hid _:=zED n n hn hn h;clear h hn
 go_enter func246,ntmps246
 go_wp2_with fail
 refine(H.out _).mono ?_;rintro e w1 ⟨rfl,rfl⟩
 go_wp2
 go_ret2
 exact⟨rfl,by repeat(first|exact G.refl _|refine G.alloc ?_ _|refine G.setCell ?_ (by simp) _)⟩
end
section
open Go.RowKit
theorem zCX(a b:Int)(ha:I64 a)(hb:I64 b)(h:I64 (a+b))(w:World):Calls prog 113 #[.int .i64 a,.int .i64 b] w fun e w'=>e=.returned (.tuple #[.int .i64 (a+b),.bool true])∧w'=w:=by
 obtain⟨a1,a2⟩:=ha;obtain⟨b1,b2⟩:=hb;obtain⟨h1,h2⟩:=h
 by_cases c:0<b
 ·have c1:¬9223372036854775807-b<a:=by omega
  have c2:¬b<0:=by omega
  go_enter func113,ntmps113
  go_wp2
  go_ret2
  exact⟨rfl,rfl⟩
 ·by_cases d:b<0
  ·have c1:¬a < -9223372036854775808-b:=by omega
   go_enter func113,ntmps113
   go_wp2
   go_ret2
   exact⟨rfl,rfl⟩
  ·go_enter func113,ntmps113
   go_wp2
   go_ret2
   exact⟨rfl,rfl⟩
theorem zDH(a b:Int)(ha:I64 a)(hb:I64 b)(h:¬I64 (a+b))(w:World):Calls prog 113 #[.int .i64 a,.int .i64 b] w fun e w'=>e=.returned (.tuple #[.int .i64 0,.bool false])∧w'=w:=by
 unfold I64 at h;obtain⟨a1,a2⟩:=ha;obtain⟨b1,b2⟩:=hb
 by_cases c:0<b
 ·have c1:9223372036854775807-b<a:=by omega
  clear h
  go_enter func113,ntmps113
  go_wp2
  go_ret2
  exact⟨rfl,rfl⟩
 ·have d:b<0:=by omega
  have c1:a < -9223372036854775808-b:=by omega
  clear h
  go_enter func113,ntmps113
  go_wp2
  go_ret2
  exact⟨rfl,rfl⟩
theorem zBJ(a:Int)(h1:-9223372036854775808<a)(h2:a≤9223372036854775807)(w:World):Calls prog 78 #[.int .i64 a] w fun e w'=>e=.returned (.tuple #[.int .i64 (-a),.bool true])∧w'=w:=by
 have c:(a==-9223372036854775808)=false:=by simp;omega
 go_enter func78,ntmps78
 go_wp2
 go_ret2
 exact⟨rfl,rfl⟩
theorem zB6(w:World):Calls prog 78 #[.int .i64 (-9223372036854775808)] w fun e w'=>e=.returned (.tuple #[.int .i64 0,.bool false])∧w'=w:=by
 go_enter func78,ntmps78
 go_wp2
 go_ret2
 exact⟨rfl,rfl⟩
def lo(a:Int):Int:=if 0<a then -a else a
theorem zPG{a:Int}(h:I64 a):-9223372036854775808≤lo a∧lo a≤0:=by
 obtain⟨h1,h2⟩:=h;unfold lo;split<;>omega
theorem zDI(a:Int)(h1:-9223372036854775808≤a)(h2:a≤9223372036854775807)(w:World):Calls prog 74 #[.int .i64 a] w fun e w'=>e=.returned (.int .i64 (lo a))∧w'=w:=by
 unfold lo
 by_cases c:0<a
 ·rw[if_pos c]
  go_enter func74,ntmps74
  go_wp2
  go_ret;exact⟨rfl,rfl⟩
 ·rw[if_neg c]
  go_enter func74,ntmps74
  go_wp2
  go_ret;exact⟨rfl,rfl⟩
theorem half(n:Int)(h:n≤0):(n.tmod 2=0∧n=2*n.tdiv 2∨n.tmod 2 = -1∧n=2*n.tdiv 2-1)∧n.tdiv 2≤0∧n≤n.tdiv 2∧(n<0→n<n.tdiv 2):=by
 obtain⟨m,rfl⟩:∃m:Int,n = -m:=⟨-n,by omega⟩
 have hm:0≤m:=by omega
 rw[Int.neg_tmod,Int.neg_tdiv,Int.tmod_eq_emod_of_nonneg hm,Int.tdiv_eq_ediv_of_nonneg hm];omega
def Left(T x n o:Int):Prop:=T=o-x*n
theorem Left.even{T x n o q:Int}(h:Left T x n o)(hq:n=2*q):Left T (x+x) q o:=by
 unfold Left at *;rw[h,hq,Int.add_mul,show x*(2*q)=2*(x*q) by rw[Int.mul_left_comm]];omega
theorem Left.odd{T x n o q:Int}(h:Left T x n o)(hq:n=2*q-1):Left T (x+x) q (o+x):=by
 unfold Left at *;rw[h,hq,Int.add_mul,Int.mul_sub,show x*(2*q)=2*(x*q) by rw[Int.mul_left_comm],Int.mul_one];omega
theorem Left.le{T x n o:Int}(h:Left T x n o)(hx:x≤0)(hn:n≤0):T≤o:=by
 unfold Left at h;have:0≤x*n:=Int.mul_nonneg_of_nonpos_of_nonpos hx hn;omega
theorem Left.lt{T x n o:Int}(h:Left T x n o)(hx:x≤0)(hn:n<0):T≤o+x:=by
 unfold Left at h;obtain⟨m,rfl⟩:∃m:Int,n=m-1:=⟨n+1,by omega⟩;have:0≤x*m:=Int.mul_nonneg_of_nonpos_of_nonpos hx (by omega);rw[Int.mul_sub,Int.mul_one] at h;omega
def Mid(T x n o:Int)(ov:Bool):Prop:=-9223372036854775808≤x∧x≤0∧-9223372036854775808≤n∧n≤0∧-9223372036854775808≤o∧o≤0∧((ov=false∧Left T x n o)∨(ov=true∧n<0∧T < -9223372036854775808))
def zW3(e:Ending)(P:Int):Prop:=(I64 P∧e=.returned (.tuple #[.int .i64 P,.bool true]))∨(¬I64 P∧e=.returned (.tuple #[.int .i64 0,.bool false]))
theorem zVZ(a b:Int):lo a*lo b=a*b∨lo a*lo b = -(a*b):=by
 unfold lo
 split<;>split<;>simp[Int.neg_mul,Int.mul_neg]
theorem zTx{a b:Int}(ha:a≠0)(hb:b≠0):(decide (a<0)==decide (b<0))=true→lo a*lo b=a*b:=by
 unfold lo;intro h
 split<;>split
 ·rw[Int.neg_mul_neg]
 ·exfalso
  rw[decide_eq_false (by omega),decide_eq_true (by omega)] at h;exact Bool.noConfusion h
 ·exfalso
  rw[decide_eq_true (by omega),decide_eq_false (by omega)] at h;exact Bool.noConfusion h
 ·rfl
theorem zPF{a b:Int}(ha:a≠0)(hb:b≠0):(decide (a<0)==decide (b<0))=false→lo a*lo b = -(a*b):=by
 unfold lo;intro h
 split<;>split
 ·exfalso
  rw[decide_eq_false (by omega),decide_eq_false (by omega)] at h;exact Bool.noConfusion h
 ·rw[Int.neg_mul]
 ·rw[Int.mul_neg]
 ·exfalso
  rw[decide_eq_true (by omega),decide_eq_true (by omega)] at h;exact Bool.noConfusion h
theorem Mid.over{T x n o:Int}{ov:Bool}(h:Mid T x n o ov)(hv:ov=true):T < -9223372036854775808:=by
 obtain⟨_,_,_,_,_,_,⟨h1,_⟩|⟨_,_,h2⟩⟩:=h
 ·rw[hv] at h1;cases h1
 ·exact h2
theorem Mid.last{T x o:Int}{ov:Bool}(h:Mid T x 0 o ov):ov=false∧T=o∧-9223372036854775808≤o∧o≤0:=by
 obtain⟨_,_,_,_,h5,h6,⟨h1,h2⟩|⟨_,h2,_⟩⟩:=h
 ·unfold Left at h2;rw[Int.mul_zero] at h2;exact⟨h1,by omega,h5,h6⟩
 ·omega
theorem Mid.evenYes{T x n o q:Int}{ov:Bool}(h:Mid T x n o ov)(hq:n=2*q)(hn:q<0)(hx:I64 (x+x)):Mid T (x+x) q o ov:=by
 obtain⟨h1,h2,h3,h4,h5,h6,h7⟩:=h;refine⟨hx.1,by omega,by omega,by omega,h5,h6,?_⟩
 rcases h7 with ⟨h7,h8⟩|⟨h7,h8,h9⟩
 ·exact Or.inl ⟨h7,h8.even hq⟩
 ·exact Or.inr ⟨h7,hn,h9⟩
theorem Mid.evenNo{T x n o q:Int}{ov:Bool}(h:Mid T x n o ov)(hq:n=2*q)(hn:q<0)(hx:¬I64 (x+x)):Mid T 0 q o true:=by
 obtain⟨h1,h2,h3,h4,h5,h6,h7⟩:=h;refine⟨by omega,by omega,by omega,by omega,h5,h6,Or.inr ⟨rfl,hn,?_⟩⟩
 rcases h7 with ⟨h7,h8⟩|⟨h7,h8,h9⟩
 ·have:=(h8.even hq).lt (by omega) hn
  unfold I64 at hx;omega
 ·exact h9
theorem Mid.oddFull{T x n o q:Int}(h:Mid T x n o false)(hq:n=2*q-1)(hq0:q≤0)(hx:¬I64 (o+x)):T < -9223372036854775808:=by
 obtain⟨h1,h2,h3,h4,h5,h6,h7⟩:=h
 rcases h7 with ⟨h7,h8⟩|⟨h7,h8,h9⟩
 ·have:=(h8.odd hq).le (by omega) hq0
  unfold I64 at hx;omega
 ·exact h9
theorem Mid.oddYes{T x n o q:Int}(h:Mid T x n o false)(hq:n=2*q-1)(hn:q<0)(ho:I64 (o+x))(hx:I64 (x+x)):Mid T (x+x) q (o+x) false:=by
 obtain⟨h1,h2,h3,h4,h5,h6,h7⟩:=h;refine⟨hx.1,by omega,by omega,by omega,ho.1,by omega,?_⟩
 rcases h7 with ⟨h7,h8⟩|⟨h7,h8,h9⟩
 ·exact Or.inl ⟨rfl,h8.odd hq⟩
 ·cases h7
theorem Mid.oddNo{T x n o q:Int}(h:Mid T x n o false)(hq:n=2*q-1)(hn:q<0)(ho:I64 (o+x))(hx:¬I64 (x+x)):Mid T 0 q (o+x) true:=by
 obtain⟨h1,h2,h3,h4,h5,h6,h7⟩:=h;refine⟨by omega,by omega,by omega,by omega,ho.1,by omega,Or.inr ⟨rfl,hn,?_⟩⟩
 rcases h7 with ⟨h7,h8⟩|⟨h7,h8,h9⟩
 ·have:=(h8.odd hq).lt (by omega) hn
  have:=ho.2;unfold I64 at hx;omega
 ·cases h7
theorem Mid.oddEnd{T x n o:Int}(h:Mid T x n o false)(hq:n=2*0-1)(ho:I64 (o+x)):Mid T x 0 (o+x) false:=by
 obtain⟨h1,h2,h3,h4,h5,h6,h7⟩:=h;refine⟨h1,h2,by omega,by omega,ho.1,by omega,?_⟩
 rcases h7 with ⟨h7,h8⟩|⟨h7,h8,h9⟩
 ·refine Or.inl ⟨rfl,?_⟩
  have:=h8.odd hq;unfold Left at this ⊢;rw[Int.mul_zero] at this ⊢;exact this
 ·cases h7
theorem zRO{P L T:Int}(h:T < -9223372036854775808)(hT:-L=T)(hP:L=P∨L = -P):¬I64 P:=by unfold I64;omega
theorem zCy(a b:Int)(ha:I64 a)(hb:I64 b)(w:World):Calls prog 79 #[.int .i64 a,.int .i64 b] w fun e w'=>zW3 e (a*b)∧w'=w:=by
 by_cases za:a=0
 ·subst za
  go_enter func79,ntmps79
  go_wp2
  go_ret2
  exact⟨Or.inl ⟨by simp[I64],by simp⟩,rfl⟩
 by_cases zb:b=0
 ·subst zb
  have z1:(a==0)=false:=by simpa using za
  go_enter func79,ntmps79
  go_wp2
  go_ret2
  exact⟨Or.inl ⟨by simp[I64],by simp⟩,rfl⟩
 have z1:(a==0)=false:=by simpa using za
 have z2:(b==0)=false:=by simpa using zb
 have HA:Hid _:=zDI a ha.1 ha.2;have HB:Hid _:=zDI b hb.1 hb.2;have M0:Hid (Mid (-(lo a*lo b)) (lo a) (lo b) 0 false):=⟨(zPG ha).1,(zPG ha).2,(zPG hb).1,(zPG hb).2,by decide,by decide,Or.inl ⟨rfl,by unfold Left;omega⟩⟩;have S0:Hid _:=zVZ a b;have S1:Hid _:=zTx za zb;have S2:Hid _:=zPF za zb;clear za zb ha hb;have HT:Hid (∃T,T = -(lo a*lo b)):=⟨_,rfl⟩;obtain⟨TT,hTT⟩:=HT.out;rw[←hTT] at M0;have NO:Hid (TT < -9223372036854775808→¬I64 (a*b)):=fun h=>zRO h hTT.symm S0.out
 have EQ1:Hid ((decide (a<0)==decide (b<0))=true→a*b = -TT):=fun h=>by rw[←S1.out h,hTT];omega
 have EQ2:Hid ((decide (a<0)==decide (b<0))=false→a*b=TT):=fun h=>by have:=S2.out h;omega
 clear S0 S1 S2 HT hTT;generalize lo a=x0 at *;generalize lo b=n0 at *;generalize a*b=PP at *
 go_enter func79,ntmps79
 go_wp2_with fail
 refine(HA.out _).mono ?_;rintro e w1 ⟨rfl,rfl⟩
 go_wp2_with fail
 refine(HB.out _).mono ?_;rintro e w1 ⟨rfl,rfl⟩
 go_wp2
 go_loop [6,7,8,9,10] (fun x n o f v=>∃(X N O:Int) (fb ov:Bool),x=.int .i64 X∧n=.int .i64 N∧o=.int .i64 O∧f=.bool fb∧v=.bool ov∧Mid TT X N O ov) (fun _ n _ _ _=>(-(intOf n)).toNat)
 case atStart=>exact⟨x0,n0,0,true,false,rfl,rfl,rfl,rfl,rfl,M0.out⟩
 case round=>
  clear M0 HA HB;obtain⟨X,N,O,fb,ov,rfl,rfl,rfl,rfl,rfl,hM⟩:=hrel;have HM:Hid (Mid TT X N O ov):=hM;clear hM
  by_cases hz:N=0
  ·subst hz
   obtain⟨rfl,rfl,o1,o2⟩:=HM.out.last;cases hs:(decide (a<0)==decide (b<0))
   ·go_wp2
    go_ret2
    exact⟨Or.inl ⟨by rw[EQ2.out hs];exact⟨o1,by omega⟩,by rw[EQ2.out hs];rfl⟩,rfl⟩
   ·by_cases hm:TT = -9223372036854775808
    ·have K:=zB6
     subst hm;have KH:Hid _:=K;clear K
     go_wp2_with fail
     refine(KH.out _).mono ?_;rintro e w1 ⟨rfl,rfl⟩
     go_wp2
     go_ret2
     exact⟨Or.inr ⟨by rw[EQ1.out hs];unfold I64;omega,rfl⟩,rfl⟩
    ·have KH:Hid _:=zBJ TT (by omega) (by omega)
     go_wp2_with fail
     refine(KH.out _).mono ?_;rintro e w1 ⟨rfl,rfl⟩
     go_wp2
     go_ret2
     exact⟨Or.inl ⟨by rw[EQ1.out hs];unfold I64;omega,by rw[EQ1.out hs];rfl⟩,rfl⟩
  ·have hb:=HM.out
   obtain⟨x1,x2,n1,n2,o1,o2,_⟩:=hb;obtain⟨hp,hq1,hq2,hq3⟩:=half N n2;have hlt:N<N.tdiv 2:=hq3 (by omega)
   have hz':(N==0)=false:=by simpa using hz
   have q1:-9223372036854775808≤N.tdiv 2:=by omega
   clear hq3 hq2;have e:Hid (N.tmod 2=0∧N=2*N.tdiv 2∨N.tmod 2 = -1∧N=2*N.tdiv 2-1):=hp;clear hp
   rcases e.out with ⟨t,e1⟩|⟨t,e1⟩
   ·have E1:Hid _:=e1
    have hq0:N.tdiv 2<0:=by omega
    have hqz:(N.tdiv 2==0)=false:=by simp;omega
    clear e1
    by_cases hx:I64 (X+X)
    ·have KS:Hid _:=zCX X X ⟨x1,by omega⟩ ⟨x1,by omega⟩ hx
     have HX:Hid _:=hx;clear hx
     go_wp2_with fail
     refine(KS.out _).mono ?_;rintro e w1 ⟨rfl,rfl⟩
     go_wp2
     go_round
     case rel=>exact⟨X+X,N.tdiv 2,O,true,ov,rfl,rfl,rfl,rfl,rfl,HM.out.evenYes E1.out hq0 HX.out⟩
     case measure=>simp[intOf];omega
    ·have KS:Hid _:=zDH X X ⟨x1,by omega⟩ ⟨x1,by omega⟩ hx
     have HX:Hid _:=hx;clear hx
     go_wp2_with fail
     refine(KS.out _).mono ?_;rintro e w1 ⟨rfl,rfl⟩
     go_wp2
     go_round
     case rel=>exact⟨0,N.tdiv 2,O,false,true,rfl,rfl,rfl,rfl,rfl,HM.out.evenNo E1.out hq0 HX.out⟩
     case measure=>simp[intOf];omega
   ·have E1:Hid _:=e1
    clear e1;cases ov
    ·by_cases ho:I64 (O+X)
     ·have KO:Hid _:=zCX O X ⟨o1,by omega⟩ ⟨x1,by omega⟩ ho
      have HO:Hid _:=ho;clear ho
      by_cases hq0:N.tdiv 2=0
      ·have EE:Hid (N=2*0-1):=by have:=E1.out;rw[hq0] at this;exact this
       go_wp2_with fail
       refine(KO.out _).mono ?_;rintro e w1 ⟨rfl,rfl⟩
       go_wp2
       go_round
       case rel=>exact⟨X,0,O+X,true,false,rfl,rfl,rfl,rfl,rfl,HM.out.oddEnd EE.out HO.out⟩
       case measure=>simp[intOf];omega
      ·have hql:N.tdiv 2<0:=by omega
       have hqz:(N.tdiv 2==0)=false:=by simpa using hq0
       clear hq0
       by_cases hx:I64 (X+X)
       ·have KS:Hid _:=zCX X X ⟨x1,by omega⟩ ⟨x1,by omega⟩ hx
        have HX:Hid _:=hx;clear hx
        go_wp2_with fail
        refine(KO.out _).mono ?_;rintro e w1 ⟨rfl,rfl⟩
        go_wp2_with fail
        refine(KS.out _).mono ?_;rintro e w1 ⟨rfl,rfl⟩
        go_wp2
        go_round
        case rel=>exact⟨X+X,N.tdiv 2,O+X,true,false,rfl,rfl,rfl,rfl,rfl,HM.out.oddYes E1.out hql HO.out HX.out⟩
        case measure=>simp[intOf];omega
       ·have KS:Hid _:=zDH X X ⟨x1,by omega⟩ ⟨x1,by omega⟩ hx
        have HX:Hid _:=hx;clear hx
        go_wp2_with fail
        refine(KO.out _).mono ?_;rintro e w1 ⟨rfl,rfl⟩
        go_wp2_with fail
        refine(KS.out _).mono ?_;rintro e w1 ⟨rfl,rfl⟩
        go_wp2
        go_round
        case rel=>exact⟨0,N.tdiv 2,O+X,false,true,rfl,rfl,rfl,rfl,rfl,HM.out.oddNo E1.out hql HO.out HX.out⟩
        case measure=>simp[intOf];omega
     ·have KO:Hid _:=zDH O X ⟨o1,by omega⟩ ⟨x1,by omega⟩ ho
      have HO:Hid _:=ho;clear ho
      go_wp2_with fail
      refine(KO.out _).mono ?_;rintro e w1 ⟨rfl,rfl⟩
      go_wp2
      go_ret2
      exact⟨Or.inr ⟨NO.out (HM.out.oddFull E1.out hq1 HO.out),rfl⟩,rfl⟩
    ·go_wp2
     go_ret2
     exact⟨Or.inr ⟨NO.out (HM.out.over rfl),rfl⟩,rfl⟩
end
end Go.Proofs.YthmdjhfbhbheeaaGreatDoor
