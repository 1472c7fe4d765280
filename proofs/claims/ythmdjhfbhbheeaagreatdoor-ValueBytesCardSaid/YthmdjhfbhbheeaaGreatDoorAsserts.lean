import Derived.Deep.QuietTactic
import Derived.BigQuiet
import Derived.Test.YthmdjhfbhbheeaaGreatDoorCpx
import Derived.Test.YthmdjhfbhbheeaaGreatDoorRefValid
import Derived.Test.YthmdjhfbhbheeaaGreatDoorShelf
namespace Go.Proofs.YthmdjhfbhbheeaaGreatDoor
open Go.Proofs.Tryz
set_option maxHeartbeats 1000000
set_option maxRecDepth 100000
section
open Go.RowKit Go.Lib Go.Shelf
def Tabs(w:World):Prop:=Lib.Utf8Tabs (Tryz.laysValid_ren.g 3) (Tryz.laysValid_ren.g 4) w
theorem Tabs.G{w w':World}(h:Tabs w)(g:G w w'):Tabs w':=Utf8Tabs_below h g
theorem zGr(s:ByteArray)(hs:s.size≤4611686018427387904)(w:World)(hT:Tabs w):CG 112 #[.string s] w (.bool (validD s.data.toList)):=
 Any.utf8_ValidString Tryz.laysValid s w (by omega) hT
theorem G.drewM{a w:World}(h:G a w)(n:Nat):G a (w.drewN n):=⟨h.os,h.tape,h.output,h.size,h.block⟩
theorem zEJ(k a b:Int)(s:ByteArray)(hk:∀w,Tabs w→CG 72 #[V k a b s] w .nilIface)(w:World)(hT:Tabs w) :
  CG 25 #[V k a b s] w (.tuple #[.nilIface,.bool false]):=by
 have HK:Hid _:=hk;clear hk
 go_enter func25,ntmps25
 go_wp2_with fail
 refine(HK.out _ (by exact hT.G ((G.refl w).alloc _))).mono ?_;rintro e w1 ⟨rfl,hb1⟩
 go_wp2
 go_quiet (fail)
 go_wp2
 go_ret2
 exact⟨rfl,G.drewM (((G.refl w).alloc _).trans hb1) _⟩
theorem zH0 (k a b:Int)(s:ByteArray)(hq:(((0:Int)==k)&&((0:Int)==a)&&((0:Int)==b)&&(E0.toList==s.toList))=true)(hk:∀w,Tabs w→CG 72 #[V k a b s] w (.iface 110 (.agg #[])))(w:World)(hT:Tabs w) :
  CG 25 #[V k a b s] w (.tuple #[.iface 110 (.agg #[]),.bool true]):=by
 have HK:Hid _:=hk;have HV:Hid (∀w,CG 235 #[.agg #[]] w (V 0 0 0 E0)):=zD5;have hm:=zC2
 have he:∀w,(binOp .neq 31 (V 0 0 0 E0) (V k a b s)).run prog w=.ok (.bool false) w:=fun w=>by rw[neqV,hq];rfl
 clear hk hq
 go_enter func25,ntmps25
 go_wp2_with fail
 refine(HK.out _ (by exact hT.G ((G.refl w).alloc _))).mono ?_;rintro e w1 ⟨rfl,hb1⟩;have hc':=G.cells hb1 (b:=w.heap.size) (f:=fun o=>[Value.int IntKind.i64 k,Value.int IntKind.i64 a,Value.int IntKind.i64 b,Value.string s][o]?) (by simp) (by simp);have hG:G w w1:=((G.refl w).alloc _).trans hb1
 have hz:w.heap.size<w1.heap.size:=by have:=hb1.size;simp at this;omega
 clear hb1
 go_wp2
 go_region_held3 (fun W=>(∀(o:Nat),W.cell? {block:=w.heap.size,off:=o}=[Value.int IntKind.i64 k,Value.int IntKind.i64 a,Value.int IntKind.i64 b,Value.string s][o]?)∧G w W∧w.heap.size<W.heap.size) ((first|exact zAq ‹_› ‹_› ‹_›|exact zAO ‹_› ‹_› ‹_› ‹_›|exact zAO (zAq ‹_› ‹_› ‹_›).1 (zAq ‹_› ‹_› ‹_›).2.1 (zAq ‹_› ‹_› ‹_›).2.2 ‹_›)) (first|(go_at_call 235;refine(HV.out _).mono ?_;rintro e w2 ⟨rfl,hb2⟩)|fail)
 rename_i hH
 obtain⟨-,hG2,-⟩:=hH
 go_wp2
 go_ret2
 exact⟨rfl,hG2⟩
theorem zKT (k a b:Int)(s:ByteArray)(hq:(((0:Int)==k)&&((0:Int)==a)&&((0:Int)==b)&&(E0.toList==s.toList))=false)(hk:∀w,Tabs w→CG 72 #[V k a b s] w (.iface 110 (.agg #[])))(w:World)(hT:Tabs w) :
  CG 25 #[V k a b s] w (.tuple #[.nilIface,.bool false]):=by
 have HK:Hid _:=hk;have HV:Hid (∀w,CG 235 #[.agg #[]] w (V 0 0 0 E0)):=zD5;have hm:=zC2
 have he:∀w,(binOp .neq 31 (V 0 0 0 E0) (V k a b s)).run prog w=.ok (.bool true) w:=fun w=>by rw[neqV,hq];rfl
 clear hk hq
 go_enter func25,ntmps25
 go_wp2_with fail
 refine(HK.out _ (by exact hT.G ((G.refl w).alloc _))).mono ?_;rintro e w1 ⟨rfl,hb1⟩;have hc':=G.cells hb1 (b:=w.heap.size) (f:=fun o=>[Value.int IntKind.i64 k,Value.int IntKind.i64 a,Value.int IntKind.i64 b,Value.string s][o]?) (by simp) (by simp);have hG:G w w1:=((G.refl w).alloc _).trans hb1
 have hz:w.heap.size<w1.heap.size:=by have:=hb1.size;simp at this;omega
 clear hb1
 go_wp2
 go_region_held3 (fun W=>(∀(o:Nat),W.cell? {block:=w.heap.size,off:=o}=[Value.int IntKind.i64 k,Value.int IntKind.i64 a,Value.int IntKind.i64 b,Value.string s][o]?)∧G w W∧w.heap.size<W.heap.size) ((first|exact zAq ‹_› ‹_› ‹_›|exact zAO ‹_› ‹_› ‹_› ‹_›|exact zAO (zAq ‹_› ‹_› ‹_›).1 (zAq ‹_› ‹_› ‹_›).2.1 (zAq ‹_› ‹_› ‹_›).2.2 ‹_›)) (first|(go_at_call 235;refine(HV.out _).mono ?_;rintro e w2 ⟨rfl,hb2⟩)|fail)
 rename_i hH
 obtain⟨-,hG2,-⟩:=hH
 go_wp2
 go_ret2
 exact⟨rfl,hG2⟩
theorem zNo (k a b:Int)(s:ByteArray)(hq:(((1:Int)==k)&&((0:Int)==a)&&((0:Int)==b)&&(E0.toList==s.toList))=true)(hk:∀w,Tabs w→CG 72 #[V k a b s] w (.iface 111 (.bool false)))(w:World)(hT:Tabs w) :
  CG 25 #[V k a b s] w (.tuple #[.iface 111 (.bool false),.bool true]):=by
 have HK:Hid _:=hk;have HV:Hid (∀w,CG 240 #[.bool false] w (V 1 0 0 E0)):=zGt;have hm:=zEd
 have he:∀w,(binOp .neq 31 (V 1 0 0 E0) (V k a b s)).run prog w=.ok (.bool false) w:=fun w=>by rw[neqV,hq];rfl
 clear hk hq
 go_enter func25,ntmps25
 go_wp2_with fail
 refine(HK.out _ (by exact hT.G ((G.refl w).alloc _))).mono ?_;rintro e w1 ⟨rfl,hb1⟩;have hc':=G.cells hb1 (b:=w.heap.size) (f:=fun o=>[Value.int IntKind.i64 k,Value.int IntKind.i64 a,Value.int IntKind.i64 b,Value.string s][o]?) (by simp) (by simp);have hG:G w w1:=((G.refl w).alloc _).trans hb1
 have hz:w.heap.size<w1.heap.size:=by have:=hb1.size;simp at this;omega
 clear hb1
 go_wp2
 go_region_held3 (fun W=>(∀(o:Nat),W.cell? {block:=w.heap.size,off:=o}=[Value.int IntKind.i64 k,Value.int IntKind.i64 a,Value.int IntKind.i64 b,Value.string s][o]?)∧G w W∧w.heap.size<W.heap.size) ((first|exact zAq ‹_› ‹_› ‹_›|exact zAO ‹_› ‹_› ‹_› ‹_›|exact zAO (zAq ‹_› ‹_› ‹_›).1 (zAq ‹_› ‹_› ‹_›).2.1 (zAq ‹_› ‹_› ‹_›).2.2 ‹_›)) (first|(go_at_call 240;refine(HV.out _).mono ?_;rintro e w2 ⟨rfl,hb2⟩)|fail)
 rename_i hH
 obtain⟨-,hG2,-⟩:=hH
 go_wp2
 go_ret2
 exact⟨rfl,hG2⟩
theorem zPQ (k a b:Int)(s:ByteArray)(hq:(((1:Int)==k)&&((0:Int)==a)&&((0:Int)==b)&&(E0.toList==s.toList))=false)(hk:∀w,Tabs w→CG 72 #[V k a b s] w (.iface 111 (.bool false)))(w:World)(hT:Tabs w) :
  CG 25 #[V k a b s] w (.tuple #[.nilIface,.bool false]):=by
 have HK:Hid _:=hk;have HV:Hid (∀w,CG 240 #[.bool false] w (V 1 0 0 E0)):=zGt;have hm:=zEd
 have he:∀w,(binOp .neq 31 (V 1 0 0 E0) (V k a b s)).run prog w=.ok (.bool true) w:=fun w=>by rw[neqV,hq];rfl
 clear hk hq
 go_enter func25,ntmps25
 go_wp2_with fail
 refine(HK.out _ (by exact hT.G ((G.refl w).alloc _))).mono ?_;rintro e w1 ⟨rfl,hb1⟩;have hc':=G.cells hb1 (b:=w.heap.size) (f:=fun o=>[Value.int IntKind.i64 k,Value.int IntKind.i64 a,Value.int IntKind.i64 b,Value.string s][o]?) (by simp) (by simp);have hG:G w w1:=((G.refl w).alloc _).trans hb1
 have hz:w.heap.size<w1.heap.size:=by have:=hb1.size;simp at this;omega
 clear hb1
 go_wp2
 go_region_held3 (fun W=>(∀(o:Nat),W.cell? {block:=w.heap.size,off:=o}=[Value.int IntKind.i64 k,Value.int IntKind.i64 a,Value.int IntKind.i64 b,Value.string s][o]?)∧G w W∧w.heap.size<W.heap.size) ((first|exact zAq ‹_› ‹_› ‹_›|exact zAO ‹_› ‹_› ‹_› ‹_›|exact zAO (zAq ‹_› ‹_› ‹_›).1 (zAq ‹_› ‹_› ‹_›).2.1 (zAq ‹_› ‹_› ‹_›).2.2 ‹_›)) (first|(go_at_call 240;refine(HV.out _).mono ?_;rintro e w2 ⟨rfl,hb2⟩)|fail)
 rename_i hH
 obtain⟨-,hG2,-⟩:=hH
 go_wp2
 go_ret2
 exact⟨rfl,hG2⟩
theorem zNm (k a b:Int)(s:ByteArray)(hq:(((1:Int)==k)&&((1:Int)==a)&&((0:Int)==b)&&(E0.toList==s.toList))=true)(hk:∀w,Tabs w→CG 72 #[V k a b s] w (.iface 111 (.bool true)))(w:World)(hT:Tabs w) :
  CG 25 #[V k a b s] w (.tuple #[.iface 111 (.bool true),.bool true]):=by
 have HK:Hid _:=hk;have HV:Hid (∀w,CG 240 #[.bool true] w (V 1 1 0 E0)):=zGs;have hm:=zEc
 have he:∀w,(binOp .neq 31 (V 1 1 0 E0) (V k a b s)).run prog w=.ok (.bool false) w:=fun w=>by rw[neqV,hq];rfl
 clear hk hq
 go_enter func25,ntmps25
 go_wp2_with fail
 refine(HK.out _ (by exact hT.G ((G.refl w).alloc _))).mono ?_;rintro e w1 ⟨rfl,hb1⟩;have hc':=G.cells hb1 (b:=w.heap.size) (f:=fun o=>[Value.int IntKind.i64 k,Value.int IntKind.i64 a,Value.int IntKind.i64 b,Value.string s][o]?) (by simp) (by simp);have hG:G w w1:=((G.refl w).alloc _).trans hb1
 have hz:w.heap.size<w1.heap.size:=by have:=hb1.size;simp at this;omega
 clear hb1
 go_wp2
 go_region_held3 (fun W=>(∀(o:Nat),W.cell? {block:=w.heap.size,off:=o}=[Value.int IntKind.i64 k,Value.int IntKind.i64 a,Value.int IntKind.i64 b,Value.string s][o]?)∧G w W∧w.heap.size<W.heap.size) ((first|exact zAq ‹_› ‹_› ‹_›|exact zAO ‹_› ‹_› ‹_› ‹_›|exact zAO (zAq ‹_› ‹_› ‹_›).1 (zAq ‹_› ‹_› ‹_›).2.1 (zAq ‹_› ‹_› ‹_›).2.2 ‹_›)) (first|(go_at_call 240;refine(HV.out _).mono ?_;rintro e w2 ⟨rfl,hb2⟩)|fail)
 rename_i hH
 obtain⟨-,hG2,-⟩:=hH
 go_wp2
 go_ret2
 exact⟨rfl,hG2⟩
theorem zPP (k a b:Int)(s:ByteArray)(hq:(((1:Int)==k)&&((1:Int)==a)&&((0:Int)==b)&&(E0.toList==s.toList))=false)(hk:∀w,Tabs w→CG 72 #[V k a b s] w (.iface 111 (.bool true)))(w:World)(hT:Tabs w) :
  CG 25 #[V k a b s] w (.tuple #[.nilIface,.bool false]):=by
 have HK:Hid _:=hk;have HV:Hid (∀w,CG 240 #[.bool true] w (V 1 1 0 E0)):=zGs;have hm:=zEc
 have he:∀w,(binOp .neq 31 (V 1 1 0 E0) (V k a b s)).run prog w=.ok (.bool true) w:=fun w=>by rw[neqV,hq];rfl
 clear hk hq
 go_enter func25,ntmps25
 go_wp2_with fail
 refine(HK.out _ (by exact hT.G ((G.refl w).alloc _))).mono ?_;rintro e w1 ⟨rfl,hb1⟩;have hc':=G.cells hb1 (b:=w.heap.size) (f:=fun o=>[Value.int IntKind.i64 k,Value.int IntKind.i64 a,Value.int IntKind.i64 b,Value.string s][o]?) (by simp) (by simp);have hG:G w w1:=((G.refl w).alloc _).trans hb1
 have hz:w.heap.size<w1.heap.size:=by have:=hb1.size;simp at this;omega
 clear hb1
 go_wp2
 go_region_held3 (fun W=>(∀(o:Nat),W.cell? {block:=w.heap.size,off:=o}=[Value.int IntKind.i64 k,Value.int IntKind.i64 a,Value.int IntKind.i64 b,Value.string s][o]?)∧G w W∧w.heap.size<W.heap.size) ((first|exact zAq ‹_› ‹_› ‹_›|exact zAO ‹_› ‹_› ‹_› ‹_›|exact zAO (zAq ‹_› ‹_› ‹_›).1 (zAq ‹_› ‹_› ‹_›).2.1 (zAq ‹_› ‹_› ‹_›).2.2 ‹_›)) (first|(go_at_call 240;refine(HV.out _).mono ?_;rintro e w2 ⟨rfl,hb2⟩)|fail)
 rename_i hH
 obtain⟨-,hG2,-⟩:=hH
 go_wp2
 go_ret2
 exact⟨rfl,hG2⟩
theorem zGQ(n:Int)(k a b:Int)(s:ByteArray)(hq:(((2:Int)==k)&&((n:Int)==a)&&((0:Int)==b)&&(E0.toList==s.toList))=true)(hk:∀w,Tabs w→CG 72 #[V k a b s] w (.iface 135 (.int .i64 n)))(w:World)(hT:Tabs w) :
  CG 25 #[V k a b s] w (.tuple #[.iface 135 (.int .i64 n),.bool true]):=by
 have HK:Hid _:=hk;have HV:Hid (∀w,CG 247 #[.int .i64 n] w (V 2 n 0 E0)):=zDq n;have hm:=zCf n
 have he:∀w,(binOp .neq 31 (V 2 n 0 E0) (V k a b s)).run prog w=.ok (.bool false) w:=fun w=>by rw[neqV,hq];rfl
 clear hk hq
 go_enter func25,ntmps25
 go_wp2_with fail
 refine(HK.out _ (by exact hT.G ((G.refl w).alloc _))).mono ?_;rintro e w1 ⟨rfl,hb1⟩;have hc':=G.cells hb1 (b:=w.heap.size) (f:=fun o=>[Value.int IntKind.i64 k,Value.int IntKind.i64 a,Value.int IntKind.i64 b,Value.string s][o]?) (by simp) (by simp);have hG:G w w1:=((G.refl w).alloc _).trans hb1
 have hz:w.heap.size<w1.heap.size:=by have:=hb1.size;simp at this;omega
 clear hb1
 go_wp2
 go_region_held3 (fun W=>(∀(o:Nat),W.cell? {block:=w.heap.size,off:=o}=[Value.int IntKind.i64 k,Value.int IntKind.i64 a,Value.int IntKind.i64 b,Value.string s][o]?)∧G w W∧w.heap.size<W.heap.size) ((first|exact zAq ‹_› ‹_› ‹_›|exact zAO ‹_› ‹_› ‹_› ‹_›|exact zAO (zAq ‹_› ‹_› ‹_›).1 (zAq ‹_› ‹_› ‹_›).2.1 (zAq ‹_› ‹_› ‹_›).2.2 ‹_›)) (first|(go_at_call 247;refine(HV.out _).mono ?_;rintro e w2 ⟨rfl,hb2⟩)|fail)
 rename_i hH
 obtain⟨-,hG2,-⟩:=hH
 go_wp2
 go_ret2
 exact⟨rfl,hG2⟩
theorem zHZ(n:Int)(k a b:Int)(s:ByteArray)(hq:(((2:Int)==k)&&((n:Int)==a)&&((0:Int)==b)&&(E0.toList==s.toList))=false)(hk:∀w,Tabs w→CG 72 #[V k a b s] w (.iface 135 (.int .i64 n)))(w:World)(hT:Tabs w) :
  CG 25 #[V k a b s] w (.tuple #[.nilIface,.bool false]):=by
 have HK:Hid _:=hk;have HV:Hid (∀w,CG 247 #[.int .i64 n] w (V 2 n 0 E0)):=zDq n;have hm:=zCf n
 have he:∀w,(binOp .neq 31 (V 2 n 0 E0) (V k a b s)).run prog w=.ok (.bool true) w:=fun w=>by rw[neqV,hq];rfl
 clear hk hq
 go_enter func25,ntmps25
 go_wp2_with fail
 refine(HK.out _ (by exact hT.G ((G.refl w).alloc _))).mono ?_;rintro e w1 ⟨rfl,hb1⟩;have hc':=G.cells hb1 (b:=w.heap.size) (f:=fun o=>[Value.int IntKind.i64 k,Value.int IntKind.i64 a,Value.int IntKind.i64 b,Value.string s][o]?) (by simp) (by simp);have hG:G w w1:=((G.refl w).alloc _).trans hb1
 have hz:w.heap.size<w1.heap.size:=by have:=hb1.size;simp at this;omega
 clear hb1
 go_wp2
 go_region_held3 (fun W=>(∀(o:Nat),W.cell? {block:=w.heap.size,off:=o}=[Value.int IntKind.i64 k,Value.int IntKind.i64 a,Value.int IntKind.i64 b,Value.string s][o]?)∧G w W∧w.heap.size<W.heap.size) ((first|exact zAq ‹_› ‹_› ‹_›|exact zAO ‹_› ‹_› ‹_› ‹_›|exact zAO (zAq ‹_› ‹_› ‹_›).1 (zAq ‹_› ‹_› ‹_›).2.1 (zAq ‹_› ‹_› ‹_›).2.2 ‹_›)) (first|(go_at_call 247;refine(HV.out _).mono ?_;rintro e w2 ⟨rfl,hb2⟩)|fail)
 rename_i hH
 obtain⟨-,hG2,-⟩:=hH
 go_wp2
 go_ret2
 exact⟨rfl,hG2⟩
theorem zKW(x y:Nat)(c d:Int)(hx:Fl x c)(hy:Fl y d)(hc:c.natAbs<2^53)(hd:d.natAbs<2^53)(k a b:Int)(s:ByteArray)(hq:(((3:Int)==k)&&((c:Int)==a)&&((d:Int)==b)&&(E0.toList==s.toList))=true)(hk:∀w,Tabs w→CG 72 #[V k a b s] w (.iface 136 (.complex .f64 x y)))(w:World)(hT:Tabs w) :
  CG 25 #[V k a b s] w (.tuple #[.iface 136 (.complex .f64 x y),.bool true]):=by
 have HK:Hid _:=hk;have HV:Hid (∀w,CG 255 #[.complex .f64 x y] w (V 3 c d E0)):=zFG x y c d hx hy hc hd;have hm:=zCI x y
 have he:∀w,(binOp .neq 31 (V 3 c d E0) (V k a b s)).run prog w=.ok (.bool false) w:=fun w=>by rw[neqV,hq];rfl
 clear hk hq hx hy hc hd
 go_enter func25,ntmps25
 go_wp2_with fail
 refine(HK.out _ (by exact hT.G ((G.refl w).alloc _))).mono ?_;rintro e w1 ⟨rfl,hb1⟩;have hc':=G.cells hb1 (b:=w.heap.size) (f:=fun o=>[Value.int IntKind.i64 k,Value.int IntKind.i64 a,Value.int IntKind.i64 b,Value.string s][o]?) (by simp) (by simp);have hG:G w w1:=((G.refl w).alloc _).trans hb1
 have hz:w.heap.size<w1.heap.size:=by have:=hb1.size;simp at this;omega
 clear hb1
 go_wp2
 go_region_held3 (fun W=>(∀(o:Nat),W.cell? {block:=w.heap.size,off:=o}=[Value.int IntKind.i64 k,Value.int IntKind.i64 a,Value.int IntKind.i64 b,Value.string s][o]?)∧G w W∧w.heap.size<W.heap.size) ((first|exact zAq ‹_› ‹_› ‹_›|exact zAO ‹_› ‹_› ‹_› ‹_›|exact zAO (zAq ‹_› ‹_› ‹_›).1 (zAq ‹_› ‹_› ‹_›).2.1 (zAq ‹_› ‹_› ‹_›).2.2 ‹_›)) (first|(go_at_call 255;refine(HV.out _).mono ?_;rintro e w2 ⟨rfl,hb2⟩)|fail)
 rename_i hH
 obtain⟨-,hG2,-⟩:=hH
 go_wp2
 go_ret2
 exact⟨rfl,hG2⟩
theorem zNp(x y:Nat)(c d:Int)(hx:Fl x c)(hy:Fl y d)(hc:c.natAbs<2^53)(hd:d.natAbs<2^53)(k a b:Int)(s:ByteArray)(hq:(((3:Int)==k)&&((c:Int)==a)&&((d:Int)==b)&&(E0.toList==s.toList))=false)(hk:∀w,Tabs w→CG 72 #[V k a b s] w (.iface 136 (.complex .f64 x y)))(w:World)(hT:Tabs w) :
  CG 25 #[V k a b s] w (.tuple #[.nilIface,.bool false]):=by
 have HK:Hid _:=hk;have HV:Hid (∀w,CG 255 #[.complex .f64 x y] w (V 3 c d E0)):=zFG x y c d hx hy hc hd;have hm:=zCI x y
 have he:∀w,(binOp .neq 31 (V 3 c d E0) (V k a b s)).run prog w=.ok (.bool true) w:=fun w=>by rw[neqV,hq];rfl
 clear hk hq hx hy hc hd
 go_enter func25,ntmps25
 go_wp2_with fail
 refine(HK.out _ (by exact hT.G ((G.refl w).alloc _))).mono ?_;rintro e w1 ⟨rfl,hb1⟩;have hc':=G.cells hb1 (b:=w.heap.size) (f:=fun o=>[Value.int IntKind.i64 k,Value.int IntKind.i64 a,Value.int IntKind.i64 b,Value.string s][o]?) (by simp) (by simp);have hG:G w w1:=((G.refl w).alloc _).trans hb1
 have hz:w.heap.size<w1.heap.size:=by have:=hb1.size;simp at this;omega
 clear hb1
 go_wp2
 go_region_held3 (fun W=>(∀(o:Nat),W.cell? {block:=w.heap.size,off:=o}=[Value.int IntKind.i64 k,Value.int IntKind.i64 a,Value.int IntKind.i64 b,Value.string s][o]?)∧G w W∧w.heap.size<W.heap.size) ((first|exact zAq ‹_› ‹_› ‹_›|exact zAO ‹_› ‹_› ‹_› ‹_›|exact zAO (zAq ‹_› ‹_› ‹_›).1 (zAq ‹_› ‹_› ‹_›).2.1 (zAq ‹_› ‹_› ‹_›).2.2 ‹_›)) (first|(go_at_call 255;refine(HV.out _).mono ?_;rintro e w2 ⟨rfl,hb2⟩)|fail)
 rename_i hH
 obtain⟨-,hG2,-⟩:=hH
 go_wp2
 go_ret2
 exact⟨rfl,hG2⟩
theorem zEG(t:ByteArray)(w:World):(method 351 137 (.string t) "trellis/value.val").run prog w=.ok (260,.string t) w:=by kernel_rfl
theorem zHn(t:ByteArray)(w:World):CG 260 #[.string t] w (V 4 0 0 t):=by
 go_enter func260,ntmps260
 go_wp2
 exact bodyPost_ret (v:=V 4 0 0 t) (by simp[results,results260,go_sem]) rfl ⟨rfl,by repeat(first|exact G.refl _|assumption|refine G.alloc ?_ _|refine G.drew ?_|refine G.setCell ?_ (by simp) _|refine G.trans ?_ (by assumption))⟩
theorem zKS(t:ByteArray)(k a b:Int)(s:ByteArray)(hq:(((4:Int)==k)&&((0:Int)==a)&&((0:Int)==b)&&(t.toList==s.toList))=true)(hk:∀w,Tabs w→CG 72 #[V k a b s] w (.iface 137 (.string t)))(w:World)(hT:Tabs w) :
  CG 25 #[V k a b s] w (.tuple #[.iface 137 (.string t),.bool true]):=by
 have HK:Hid _:=hk;have HV:Hid (∀w,CG 260 #[.string t] w (V 4 0 0 t)):=zHn t;have hm:=zEG t
 have he:∀w,(binOp .neq 31 (V 4 0 0 t) (V k a b s)).run prog w=.ok (.bool false) w:=fun w=>by rw[neqV,hq];rfl
 clear hk hq
 go_enter func25,ntmps25
 go_wp2_with fail
 refine(HK.out _ (by exact hT.G ((G.refl w).alloc _))).mono ?_;rintro e w1 ⟨rfl,hb1⟩;have hc':=G.cells hb1 (b:=w.heap.size) (f:=fun o=>[Value.int IntKind.i64 k,Value.int IntKind.i64 a,Value.int IntKind.i64 b,Value.string s][o]?) (by simp) (by simp);have hG:G w w1:=((G.refl w).alloc _).trans hb1
 have hz:w.heap.size<w1.heap.size:=by have:=hb1.size;simp at this;omega
 clear hb1
 go_wp2
 go_region_held3 (fun W=>(∀(o:Nat),W.cell? {block:=w.heap.size,off:=o}=[Value.int IntKind.i64 k,Value.int IntKind.i64 a,Value.int IntKind.i64 b,Value.string s][o]?)∧G w W∧w.heap.size<W.heap.size) ((first|exact zAq ‹_› ‹_› ‹_›|exact zAO ‹_› ‹_› ‹_› ‹_›|exact zAO (zAq ‹_› ‹_› ‹_›).1 (zAq ‹_› ‹_› ‹_›).2.1 (zAq ‹_› ‹_› ‹_›).2.2 ‹_›)) (first|(go_at_call 260;refine(HV.out _).mono ?_;rintro e w2 ⟨rfl,hb2⟩)|fail)
 rename_i hH
 obtain⟨-,hG2,-⟩:=hH
 go_wp2
 go_ret2
 exact⟨rfl,hG2⟩
theorem zNn(t:ByteArray)(k a b:Int)(s:ByteArray)(hq:(((4:Int)==k)&&((0:Int)==a)&&((0:Int)==b)&&(t.toList==s.toList))=false)(hk:∀w,Tabs w→CG 72 #[V k a b s] w (.iface 137 (.string t)))(w:World)(hT:Tabs w) :
  CG 25 #[V k a b s] w (.tuple #[.nilIface,.bool false]):=by
 have HK:Hid _:=hk;have HV:Hid (∀w,CG 260 #[.string t] w (V 4 0 0 t)):=zHn t;have hm:=zEG t
 have he:∀w,(binOp .neq 31 (V 4 0 0 t) (V k a b s)).run prog w=.ok (.bool true) w:=fun w=>by rw[neqV,hq];rfl
 clear hk hq
 go_enter func25,ntmps25
 go_wp2_with fail
 refine(HK.out _ (by exact hT.G ((G.refl w).alloc _))).mono ?_;rintro e w1 ⟨rfl,hb1⟩;have hc':=G.cells hb1 (b:=w.heap.size) (f:=fun o=>[Value.int IntKind.i64 k,Value.int IntKind.i64 a,Value.int IntKind.i64 b,Value.string s][o]?) (by simp) (by simp);have hG:G w w1:=((G.refl w).alloc _).trans hb1
 have hz:w.heap.size<w1.heap.size:=by have:=hb1.size;simp at this;omega
 clear hb1
 go_wp2
 go_region_held3 (fun W=>(∀(o:Nat),W.cell? {block:=w.heap.size,off:=o}=[Value.int IntKind.i64 k,Value.int IntKind.i64 a,Value.int IntKind.i64 b,Value.string s][o]?)∧G w W∧w.heap.size<W.heap.size) ((first|exact zAq ‹_› ‹_› ‹_›|exact zAO ‹_› ‹_› ‹_› ‹_›|exact zAO (zAq ‹_› ‹_› ‹_›).1 (zAq ‹_› ‹_› ‹_›).2.1 (zAq ‹_› ‹_› ‹_›).2.2 ‹_›)) (first|(go_at_call 260;refine(HV.out _).mono ?_;rintro e w2 ⟨rfl,hb2⟩)|fail)
 rename_i hH
 obtain⟨-,hG2,-⟩:=hH
 go_wp2
 go_ret2
 exact⟨rfl,hG2⟩
theorem zDM(n:Int)(w:World):(method 351 138 (.int .i64 n) "trellis/value.val").run prog w=.ok (268,.int .i64 n) w:=by kernel_rfl
theorem zFE(n:Int)(w:World):CG 268 #[.int .i64 n] w (V 5 n 0 E0):=by
 go_enter func268,ntmps268
 go_wp2
 exact bodyPost_ret (v:=V 5 n 0 E0) (by simp[results,results268,go_sem]) rfl ⟨rfl,by repeat(first|exact G.refl _|assumption|refine G.alloc ?_ _|refine G.drew ?_|refine G.setCell ?_ (by simp) _|refine G.trans ?_ (by assumption))⟩
theorem zH1(n:Int)(k a b:Int)(s:ByteArray)(hq:(((5:Int)==k)&&((n:Int)==a)&&((0:Int)==b)&&(E0.toList==s.toList))=true)(hk:∀w,Tabs w→CG 72 #[V k a b s] w (.iface 138 (.int .i64 n)))(w:World)(hT:Tabs w) :
  CG 25 #[V k a b s] w (.tuple #[.iface 138 (.int .i64 n),.bool true]):=by
 have HK:Hid _:=hk;have HV:Hid (∀w,CG 268 #[.int .i64 n] w (V 5 n 0 E0)):=zFE n;have hm:=zDM n
 have he:∀w,(binOp .neq 31 (V 5 n 0 E0) (V k a b s)).run prog w=.ok (.bool false) w:=fun w=>by rw[neqV,hq];rfl
 clear hk hq
 go_enter func25,ntmps25
 go_wp2_with fail
 refine(HK.out _ (by exact hT.G ((G.refl w).alloc _))).mono ?_;rintro e w1 ⟨rfl,hb1⟩;have hc':=G.cells hb1 (b:=w.heap.size) (f:=fun o=>[Value.int IntKind.i64 k,Value.int IntKind.i64 a,Value.int IntKind.i64 b,Value.string s][o]?) (by simp) (by simp);have hG:G w w1:=((G.refl w).alloc _).trans hb1
 have hz:w.heap.size<w1.heap.size:=by have:=hb1.size;simp at this;omega
 clear hb1
 go_wp2
 go_region_held3 (fun W=>(∀(o:Nat),W.cell? {block:=w.heap.size,off:=o}=[Value.int IntKind.i64 k,Value.int IntKind.i64 a,Value.int IntKind.i64 b,Value.string s][o]?)∧G w W∧w.heap.size<W.heap.size) ((first|exact zAq ‹_› ‹_› ‹_›|exact zAO ‹_› ‹_› ‹_› ‹_›|exact zAO (zAq ‹_› ‹_› ‹_›).1 (zAq ‹_› ‹_› ‹_›).2.1 (zAq ‹_› ‹_› ‹_›).2.2 ‹_›)) (first|(go_at_call 268;refine(HV.out _).mono ?_;rintro e w2 ⟨rfl,hb2⟩)|fail)
 rename_i hH
 obtain⟨-,hG2,-⟩:=hH
 go_wp2
 go_ret2
 exact⟨rfl,hG2⟩
theorem zKU(n:Int)(k a b:Int)(s:ByteArray)(hq:(((5:Int)==k)&&((n:Int)==a)&&((0:Int)==b)&&(E0.toList==s.toList))=false)(hk:∀w,Tabs w→CG 72 #[V k a b s] w (.iface 138 (.int .i64 n)))(w:World)(hT:Tabs w) :
  CG 25 #[V k a b s] w (.tuple #[.nilIface,.bool false]):=by
 have HK:Hid _:=hk;have HV:Hid (∀w,CG 268 #[.int .i64 n] w (V 5 n 0 E0)):=zFE n;have hm:=zDM n
 have he:∀w,(binOp .neq 31 (V 5 n 0 E0) (V k a b s)).run prog w=.ok (.bool true) w:=fun w=>by rw[neqV,hq];rfl
 clear hk hq
 go_enter func25,ntmps25
 go_wp2_with fail
 refine(HK.out _ (by exact hT.G ((G.refl w).alloc _))).mono ?_;rintro e w1 ⟨rfl,hb1⟩;have hc':=G.cells hb1 (b:=w.heap.size) (f:=fun o=>[Value.int IntKind.i64 k,Value.int IntKind.i64 a,Value.int IntKind.i64 b,Value.string s][o]?) (by simp) (by simp);have hG:G w w1:=((G.refl w).alloc _).trans hb1
 have hz:w.heap.size<w1.heap.size:=by have:=hb1.size;simp at this;omega
 clear hb1
 go_wp2
 go_region_held3 (fun W=>(∀(o:Nat),W.cell? {block:=w.heap.size,off:=o}=[Value.int IntKind.i64 k,Value.int IntKind.i64 a,Value.int IntKind.i64 b,Value.string s][o]?)∧G w W∧w.heap.size<W.heap.size) ((first|exact zAq ‹_› ‹_› ‹_›|exact zAO ‹_› ‹_› ‹_› ‹_›|exact zAO (zAq ‹_› ‹_› ‹_›).1 (zAq ‹_› ‹_› ‹_›).2.1 (zAq ‹_› ‹_› ‹_›).2.2 ‹_›)) (first|(go_at_call 268;refine(HV.out _).mono ?_;rintro e w2 ⟨rfl,hb2⟩)|fail)
 rename_i hH
 obtain⟨-,hG2,-⟩:=hH
 go_wp2
 go_ret2
 exact⟨rfl,hG2⟩
theorem zDN(n:Int)(w:World):(method 351 139 (.int .i64 n) "trellis/value.val").run prog w=.ok (273,.int .i64 n) w:=by kernel_rfl
theorem zFF(n:Int)(w:World):CG 273 #[.int .i64 n] w (V 6 n 0 E0):=by
 go_enter func273,ntmps273
 go_wp2
 exact bodyPost_ret (v:=V 6 n 0 E0) (by simp[results,results273,go_sem]) rfl ⟨rfl,by repeat(first|exact G.refl _|assumption|refine G.alloc ?_ _|refine G.drew ?_|refine G.setCell ?_ (by simp) _|refine G.trans ?_ (by assumption))⟩
theorem zH2(n:Int)(k a b:Int)(s:ByteArray)(hq:(((6:Int)==k)&&((n:Int)==a)&&((0:Int)==b)&&(E0.toList==s.toList))=true)(hk:∀w,Tabs w→CG 72 #[V k a b s] w (.iface 139 (.int .i64 n)))(w:World)(hT:Tabs w) :
  CG 25 #[V k a b s] w (.tuple #[.iface 139 (.int .i64 n),.bool true]):=by
 have HK:Hid _:=hk;have HV:Hid (∀w,CG 273 #[.int .i64 n] w (V 6 n 0 E0)):=zFF n;have hm:=zDN n
 have he:∀w,(binOp .neq 31 (V 6 n 0 E0) (V k a b s)).run prog w=.ok (.bool false) w:=fun w=>by rw[neqV,hq];rfl
 clear hk hq
 go_enter func25,ntmps25
 go_wp2_with fail
 refine(HK.out _ (by exact hT.G ((G.refl w).alloc _))).mono ?_;rintro e w1 ⟨rfl,hb1⟩;have hc':=G.cells hb1 (b:=w.heap.size) (f:=fun o=>[Value.int IntKind.i64 k,Value.int IntKind.i64 a,Value.int IntKind.i64 b,Value.string s][o]?) (by simp) (by simp);have hG:G w w1:=((G.refl w).alloc _).trans hb1
 have hz:w.heap.size<w1.heap.size:=by have:=hb1.size;simp at this;omega
 clear hb1
 go_wp2
 go_region_held3 (fun W=>(∀(o:Nat),W.cell? {block:=w.heap.size,off:=o}=[Value.int IntKind.i64 k,Value.int IntKind.i64 a,Value.int IntKind.i64 b,Value.string s][o]?)∧G w W∧w.heap.size<W.heap.size) ((first|exact zAq ‹_› ‹_› ‹_›|exact zAO ‹_› ‹_› ‹_› ‹_›|exact zAO (zAq ‹_› ‹_› ‹_›).1 (zAq ‹_› ‹_› ‹_›).2.1 (zAq ‹_› ‹_› ‹_›).2.2 ‹_›)) (first|(go_at_call 273;refine(HV.out _).mono ?_;rintro e w2 ⟨rfl,hb2⟩)|fail)
 rename_i hH
 obtain⟨-,hG2,-⟩:=hH
 go_wp2
 go_ret2
 exact⟨rfl,hG2⟩
theorem zKV(n:Int)(k a b:Int)(s:ByteArray)(hq:(((6:Int)==k)&&((n:Int)==a)&&((0:Int)==b)&&(E0.toList==s.toList))=false)(hk:∀w,Tabs w→CG 72 #[V k a b s] w (.iface 139 (.int .i64 n)))(w:World)(hT:Tabs w) :
  CG 25 #[V k a b s] w (.tuple #[.nilIface,.bool false]):=by
 have HK:Hid _:=hk;have HV:Hid (∀w,CG 273 #[.int .i64 n] w (V 6 n 0 E0)):=zFF n;have hm:=zDN n
 have he:∀w,(binOp .neq 31 (V 6 n 0 E0) (V k a b s)).run prog w=.ok (.bool true) w:=fun w=>by rw[neqV,hq];rfl
 clear hk hq
 go_enter func25,ntmps25
 go_wp2_with fail
 refine(HK.out _ (by exact hT.G ((G.refl w).alloc _))).mono ?_;rintro e w1 ⟨rfl,hb1⟩;have hc':=G.cells hb1 (b:=w.heap.size) (f:=fun o=>[Value.int IntKind.i64 k,Value.int IntKind.i64 a,Value.int IntKind.i64 b,Value.string s][o]?) (by simp) (by simp);have hG:G w w1:=((G.refl w).alloc _).trans hb1
 have hz:w.heap.size<w1.heap.size:=by have:=hb1.size;simp at this;omega
 clear hb1
 go_wp2
 go_region_held3 (fun W=>(∀(o:Nat),W.cell? {block:=w.heap.size,off:=o}=[Value.int IntKind.i64 k,Value.int IntKind.i64 a,Value.int IntKind.i64 b,Value.string s][o]?)∧G w W∧w.heap.size<W.heap.size) ((first|exact zAq ‹_› ‹_› ‹_›|exact zAO ‹_› ‹_› ‹_› ‹_›|exact zAO (zAq ‹_› ‹_› ‹_›).1 (zAq ‹_› ‹_› ‹_›).2.1 (zAq ‹_› ‹_› ‹_›).2.2 ‹_›)) (first|(go_at_call 273;refine(HV.out _).mono ?_;rintro e w2 ⟨rfl,hb2⟩)|fail)
 rename_i hH
 obtain⟨-,hG2,-⟩:=hH
 go_wp2
 go_ret2
 exact⟨rfl,hG2⟩
end
section
open Go.RowKit Go.Lib Go.Shelf
theorem zBK(n:Int)(w:World):Calls prog 111 #[.int .i64 n] w fun e w'=>e=.returned (.bool (zAD n))∧w'=w:=by
 unfold zAD
 by_cases h:-33554432≤n
 ·go_enter func111,ntmps111
  go_wp2
  all_goals (go_ret;exact⟨zCc (by simp[*]),rfl⟩)
 ·have h':decide (-33554432≤n)=false:=by simp;omega
  go_enter func111,ntmps111
  go_wp2
  all_goals (go_ret;exact⟨zCc (by simp[*]),rfl⟩)
theorem ik_0(a b:Int)(s:ByteArray)(w:World)(_:Tabs w):CG 72 #[V 0 a b s] w (.iface 110 (.agg #[])):=by
 go_enter func72,ntmps72
 go_wp2
 go_ret;exact⟨rfl,(G.refl _).alloc _⟩
theorem ik_1(a b:Int)(s:ByteArray)(w:World)(_:Tabs w):CG 72 #[V 1 a b s] w (.iface 111 (.bool (a==1))):=by
 go_enter func72,ntmps72
 go_wp2
 go_ret;exact⟨rfl,(G.refl _).alloc _⟩
theorem ik_2(a b:Int)(s:ByteArray)(w:World)(_:Tabs w):CG 72 #[V 2 a b s] w (.iface 135 (.int .i64 a)):=by
 go_enter func72,ntmps72
 go_wp2
 go_ret;exact⟨rfl,(G.refl _).alloc _⟩
theorem ik_3(a b:Int)(s:ByteArray)(hp:zAD a=true)(hq:zAD b=true)(w:World)(_:Tabs w):CG 72 #[V 3 a b s] w (.iface 136 (.complex .f64 (fl a) (fl b))):=by
 have HA:Hid _:=zBK a;have HB:Hid _:=zBK b;rw[hp] at HA;rw[hq] at HB
 go_enter func72,ntmps72
 go_wp2_with fail
 refine(HA.out _).mono ?_;rintro e w1 ⟨rfl,rfl⟩
 go_wp2_with fail
 refine(HB.out _).mono ?_;rintro e w1 ⟨rfl,rfl⟩
 go_wp2
 go_ret;exact⟨rfl,(G.refl _).alloc _⟩
theorem zX1(a b:Int)(s:ByteArray)(hp:zAD a=false)(w:World)(_:Tabs w):CG 72 #[V 3 a b s] w (.nilIface):=by
 have HA:Hid _:=zBK a;rw[hp] at HA
 go_enter func72,ntmps72
 go_wp2_with fail
 refine(HA.out _).mono ?_;rintro e w1 ⟨rfl,rfl⟩
 go_wp2
 go_ret;exact⟨rfl,(G.refl _).alloc _⟩
theorem zX0(a b:Int)(s:ByteArray)(hp:zAD a=true)(hq:zAD b=false)(w:World)(_:Tabs w):CG 72 #[V 3 a b s] w (.nilIface):=by
 have HA:Hid _:=zBK a;have HB:Hid _:=zBK b;rw[hp] at HA;rw[hq] at HB
 go_enter func72,ntmps72
 go_wp2_with fail
 refine(HA.out _).mono ?_;rintro e w1 ⟨rfl,rfl⟩
 go_wp2_with fail
 refine(HB.out _).mono ?_;rintro e w1 ⟨rfl,rfl⟩
 go_wp2
 go_ret;exact⟨rfl,(G.refl _).alloc _⟩
theorem ik_4(a b:Int)(s:ByteArray)(hs:s.size≤32)(hv:validD s.data.toList=true)(w:World)(hT:Tabs w):CG 72 #[V 4 a b s] w (.iface 137 (.string s)):=by
 have HV:Hid (∀w,Tabs w→CG 112 #[.string s] w (.bool (validD s.data.toList))):=fun w h=>zGr s (by omega) w h;rw[hv] at HV
 have h4:(s.size:Int)≤32:=by omega
 go_enter func72,ntmps72
 go_wp2_with fail
 refine(HV.out _ (by exact hT.G ((G.refl w).alloc _))).mono ?_;rintro e w1 ⟨rfl,hb1⟩;have hc':=G.cells hb1 (b:=w.heap.size) (f:=fun o=>[Value.int IntKind.i64 4,Value.int IntKind.i64 a,Value.int IntKind.i64 b,Value.string s][o]?) (by simp) (by simp)
 go_wp2
 go_ret;exact⟨rfl,((G.refl w).alloc _).trans hb1⟩
theorem zXZ(a b:Int)(s:ByteArray)(hs:s.size≤32)(hv:validD s.data.toList=false)(w:World)(hT:Tabs w):CG 72 #[V 4 a b s] w (.nilIface):=by
 have HV:Hid (∀w,Tabs w→CG 112 #[.string s] w (.bool (validD s.data.toList))):=fun w h=>zGr s (by omega) w h;rw[hv] at HV
 have h4:(s.size:Int)≤32:=by omega
 go_enter func72,ntmps72
 go_wp2_with fail
 refine(HV.out _ (by exact hT.G ((G.refl w).alloc _))).mono ?_;rintro e w1 ⟨rfl,hb1⟩;have hc':=G.cells hb1 (b:=w.heap.size) (f:=fun o=>[Value.int IntKind.i64 4,Value.int IntKind.i64 a,Value.int IntKind.i64 b,Value.string s][o]?) (by simp) (by simp)
 go_wp2
 go_ret;exact⟨rfl,((G.refl w).alloc _).trans hb1⟩
theorem zXY(a b:Int)(s:ByteArray)(hs:¬s.size≤32)(w:World)(_:Tabs w):CG 72 #[V 4 a b s] w (.nilIface):=by
 have h4:¬(s.size:Int)≤32:=by omega
 go_enter func72,ntmps72
 go_wp2
 go_ret;exact⟨rfl,(G.refl _).alloc _⟩
theorem ik_5(a b:Int)(s:ByteArray)(h:(a != 0)=true)(w:World)(_:Tabs w):CG 72 #[V 5 a b s] w (.iface 138 (.int .i64 a)):=by
 go_enter func72,ntmps72
 go_wp2
 go_ret;exact⟨rfl,(G.refl _).alloc _⟩
theorem zXX(a b:Int)(s:ByteArray)(h:(a != 0)=false)(w:World)(_:Tabs w):CG 72 #[V 5 a b s] w (.nilIface):=by
 go_enter func72,ntmps72
 go_wp2
 go_ret;exact⟨rfl,(G.refl _).alloc _⟩
theorem ik_6(a b:Int)(s:ByteArray)(h:(a != 0)=true)(w:World)(_:Tabs w):CG 72 #[V 6 a b s] w (.iface 139 (.int .i64 a)):=by
 go_enter func72,ntmps72
 go_wp2
 go_ret;exact⟨rfl,(G.refl _).alloc _⟩
theorem zXW(a b:Int)(s:ByteArray)(h:(a != 0)=false)(w:World)(_:Tabs w):CG 72 #[V 6 a b s] w (.nilIface):=by
 go_enter func72,ntmps72
 go_wp2
 go_ret;exact⟨rfl,(G.refl _).alloc _⟩
theorem zXV(k a b:Int)(s:ByteArray)(hk:k<0∨6<k)(w:World)(_:Tabs w):CG 72 #[V k a b s] w (.nilIface):=by
 have n0:(k==0)=false:=by simp;omega
 have n1:(k==1)=false:=by simp;omega
 have n2:(k==2)=false:=by simp;omega
 have n3:(k==3)=false:=by simp;omega
 have n4:(k==4)=false:=by simp;omega
 have n5:(k==5)=false:=by simp;omega
 have n6:(k==6)=false:=by simp;omega
 clear hk
 go_enter func72,ntmps72
 go_wp2
 go_ret;exact⟨rfl,(G.refl _).alloc _⟩
end
section
open Go.RowKit
theorem zB0(v:Value)(w:World):(Instr.typeAssert (.iface 110 v) 49 110 true).run prog w=.ok (.tuple #[v,.bool true]) w:=by kernel_rfl
theorem zCn(v:Value)(w:World):(Instr.typeAssert (.iface 110 v) 49 111 true).run prog w=.ok (.tuple #[.bool false,.bool false]) w:=by kernel_rfl
theorem zDB(v:Value)(w:World):(Instr.typeAssert (.iface 110 v) 49 135 true).run prog w=.ok (.tuple #[.int .i64 0,.bool false]) w:=by kernel_rfl
theorem zEW(v:Value)(w:World):(Instr.typeAssert (.iface 110 v) 49 136 true).run prog w=.ok (.tuple #[.complex .f64 0 0,.bool false]) w:=by kernel_rfl
theorem zEV(v:Value)(w:World):(Instr.typeAssert (.iface 110 v) 49 137 true).run prog w=.ok (.tuple #[.string E0,.bool false]) w:=by kernel_rfl
theorem zHb(v:Value)(w:World):(Instr.typeAssert (.iface 110 v) 49 138 true).run prog w=.ok (.tuple #[.int .i64 0,.bool false]) w:=by kernel_rfl
theorem zHc(v:Value)(w:World):(Instr.typeAssert (.iface 110 v) 49 139 true).run prog w=.ok (.tuple #[.int .i64 0,.bool false]) w:=by kernel_rfl
theorem zBG(v:Value)(w:World):(Instr.typeAssert (.iface 111 v) 49 110 true).run prog w=.ok (.tuple #[.agg #[],.bool false]) w:=by kernel_rfl
theorem zB4(v:Value)(w:World):(Instr.typeAssert (.iface 111 v) 49 111 true).run prog w=.ok (.tuple #[v,.bool true]) w:=by kernel_rfl
theorem zB3(v:Value)(w:World):(Instr.typeAssert (.iface 111 v) 49 135 true).run prog w=.ok (.tuple #[.int .i64 0,.bool false]) w:=by kernel_rfl
theorem zD1(v:Value)(w:World):(Instr.typeAssert (.iface 111 v) 49 136 true).run prog w=.ok (.tuple #[.complex .f64 0 0,.bool false]) w:=by kernel_rfl
theorem zCQ(v:Value)(w:World):(Instr.typeAssert (.iface 111 v) 49 137 true).run prog w=.ok (.tuple #[.string E0,.bool false]) w:=by kernel_rfl
theorem zGi(v:Value)(w:World):(Instr.typeAssert (.iface 111 v) 49 138 true).run prog w=.ok (.tuple #[.int .i64 0,.bool false]) w:=by kernel_rfl
theorem zGj(v:Value)(w:World):(Instr.typeAssert (.iface 111 v) 49 139 true).run prog w=.ok (.tuple #[.int .i64 0,.bool false]) w:=by kernel_rfl
theorem zCm(v:Value)(w:World):(Instr.typeAssert (.iface 135 v) 49 110 true).run prog w=.ok (.tuple #[.agg #[],.bool false]) w:=by kernel_rfl
theorem zB2(v:Value)(w:World):(Instr.typeAssert (.iface 135 v) 49 111 true).run prog w=.ok (.tuple #[.bool false,.bool false]) w:=by kernel_rfl
theorem zAr(v:Value)(w:World):(Instr.typeAssert (.iface 135 v) 49 135 true).run prog w=.ok (.tuple #[v,.bool true]) w:=by kernel_rfl
theorem zCP(v:Value)(w:World):(Instr.typeAssert (.iface 135 v) 49 136 true).run prog w=.ok (.tuple #[.complex .f64 0 0,.bool false]) w:=by kernel_rfl
theorem zA8(v:Value)(w:World):(Instr.typeAssert (.iface 135 v) 49 137 true).run prog w=.ok (.tuple #[.string E0,.bool false]) w:=by kernel_rfl
theorem zGg(v:Value)(w:World):(Instr.typeAssert (.iface 135 v) 49 138 true).run prog w=.ok (.tuple #[.int .i64 0,.bool false]) w:=by kernel_rfl
theorem zGh(v:Value)(w:World):(Instr.typeAssert (.iface 135 v) 49 139 true).run prog w=.ok (.tuple #[.int .i64 0,.bool false]) w:=by kernel_rfl
theorem zDl(v:Value)(w:World):(Instr.typeAssert (.iface 136 v) 49 110 true).run prog w=.ok (.tuple #[.agg #[],.bool false]) w:=by kernel_rfl
theorem zD2(v:Value)(w:World):(Instr.typeAssert (.iface 136 v) 49 111 true).run prog w=.ok (.tuple #[.bool false,.bool false]) w:=by kernel_rfl
theorem zAN(v:Value)(w:World):(Instr.typeAssert (.iface 136 v) 49 135 true).run prog w=.ok (.tuple #[.int .i64 0,.bool false]) w:=by kernel_rfl
theorem zC4(v:Value)(w:World):(Instr.typeAssert (.iface 136 v) 49 136 true).run prog w=.ok (.tuple #[v,.bool true]) w:=by kernel_rfl
theorem zB9(v:Value)(w:World):(Instr.typeAssert (.iface 136 v) 49 137 true).run prog w=.ok (.tuple #[.string E0,.bool false]) w:=by kernel_rfl
theorem zIj(v:Value)(w:World):(Instr.typeAssert (.iface 136 v) 49 138 true).run prog w=.ok (.tuple #[.int .i64 0,.bool false]) w:=by kernel_rfl
theorem zIk(v:Value)(w:World):(Instr.typeAssert (.iface 136 v) 49 139 true).run prog w=.ok (.tuple #[.int .i64 0,.bool false]) w:=by kernel_rfl
theorem zDk(v:Value)(w:World):(Instr.typeAssert (.iface 137 v) 49 110 true).run prog w=.ok (.tuple #[.agg #[],.bool false]) w:=by kernel_rfl
theorem zCS(v:Value)(w:World):(Instr.typeAssert (.iface 137 v) 49 111 true).run prog w=.ok (.tuple #[.bool false,.bool false]) w:=by kernel_rfl
theorem zCR(v:Value)(w:World):(Instr.typeAssert (.iface 137 v) 49 135 true).run prog w=.ok (.tuple #[.int .i64 0,.bool false]) w:=by kernel_rfl
theorem zFA(v:Value)(w:World):(Instr.typeAssert (.iface 137 v) 49 136 true).run prog w=.ok (.tuple #[.complex .f64 0 0,.bool false]) w:=by kernel_rfl
theorem zAt(v:Value)(w:World):(Instr.typeAssert (.iface 137 v) 49 137 true).run prog w=.ok (.tuple #[v,.bool true]) w:=by kernel_rfl
theorem zIh(v:Value)(w:World):(Instr.typeAssert (.iface 137 v) 49 138 true).run prog w=.ok (.tuple #[.int .i64 0,.bool false]) w:=by kernel_rfl
theorem zIi(v:Value)(w:World):(Instr.typeAssert (.iface 137 v) 49 139 true).run prog w=.ok (.tuple #[.int .i64 0,.bool false]) w:=by kernel_rfl
theorem zCT(v:Value)(w:World):(Instr.typeAssert (.iface 138 v) 49 110 true).run prog w=.ok (.tuple #[.agg #[],.bool false]) w:=by kernel_rfl
theorem zDD(v:Value)(w:World):(Instr.typeAssert (.iface 138 v) 49 111 true).run prog w=.ok (.tuple #[.bool false,.bool false]) w:=by kernel_rfl
theorem zDC(v:Value)(w:World):(Instr.typeAssert (.iface 138 v) 49 135 true).run prog w=.ok (.tuple #[.int .i64 0,.bool false]) w:=by kernel_rfl
theorem zEY(v:Value)(w:World):(Instr.typeAssert (.iface 138 v) 49 136 true).run prog w=.ok (.tuple #[.complex .f64 0 0,.bool false]) w:=by kernel_rfl
theorem zEX(v:Value)(w:World):(Instr.typeAssert (.iface 138 v) 49 137 true).run prog w=.ok (.tuple #[.string E0,.bool false]) w:=by kernel_rfl
theorem zHd(v:Value)(w:World):(Instr.typeAssert (.iface 138 v) 49 138 true).run prog w=.ok (.tuple #[v,.bool true]) w:=by kernel_rfl
theorem zHe(v:Value)(w:World):(Instr.typeAssert (.iface 138 v) 49 139 true).run prog w=.ok (.tuple #[.int .i64 0,.bool false]) w:=by kernel_rfl
theorem zCU(v:Value)(w:World):(Instr.typeAssert (.iface 139 v) 49 110 true).run prog w=.ok (.tuple #[.agg #[],.bool false]) w:=by kernel_rfl
theorem zDF(v:Value)(w:World):(Instr.typeAssert (.iface 139 v) 49 111 true).run prog w=.ok (.tuple #[.bool false,.bool false]) w:=by kernel_rfl
theorem zDE(v:Value)(w:World):(Instr.typeAssert (.iface 139 v) 49 135 true).run prog w=.ok (.tuple #[.int .i64 0,.bool false]) w:=by kernel_rfl
theorem zE0(v:Value)(w:World):(Instr.typeAssert (.iface 139 v) 49 136 true).run prog w=.ok (.tuple #[.complex .f64 0 0,.bool false]) w:=by kernel_rfl
theorem zEZ(v:Value)(w:World):(Instr.typeAssert (.iface 139 v) 49 137 true).run prog w=.ok (.tuple #[.string E0,.bool false]) w:=by kernel_rfl
theorem zHf(v:Value)(w:World):(Instr.typeAssert (.iface 139 v) 49 138 true).run prog w=.ok (.tuple #[.int .i64 0,.bool false]) w:=by kernel_rfl
theorem zHg(v:Value)(w:World):(Instr.typeAssert (.iface 139 v) 49 139 true).run prog w=.ok (.tuple #[v,.bool true]) w:=by kernel_rfl
end
end Go.Proofs.YthmdjhfbhbheeaaGreatDoor
