import Derived.Deep.QuietTactic
import Derived.BigQuiet
import Derived.Test.YthmdjhfbhbheeaaGreatDoorCpx
import Derived.Test.YthmdjhfbhbheeaaGreatDoorRefValid
import Derived.Test.YthmdjhfbhbheeaaGreatDoorShelf
namespace Go.Proofs.YthmdjhfbhbheeaaGreatDoor
open Go.Proofs.Tryz
set_option maxHeartbeats 1000000
set_option maxRecDepth 100000
section
open Go.RowKit Go.Lib Go.Shelf
def Tabs(w:World):Prop:=Lib.Utf8Tabs (Tryz.laysValid_ren.g 3) (Tryz.laysValid_ren.g 4) w
theorem Tabs.G{w w':World}(h:Tabs w)(g:G w w'):Tabs w':=Utf8Tabs_below h g
theorem valid_str(s:ByteArray)(hs:s.size≤4611686018427387904)(w:World)(hT:Tabs w):Calls prog 112 #[.string s] w fun e w'=>e=.returned (.bool (validD s.data.toList))∧G w w':=
 Any.utf8_ValidString Tryz.laysValid s w (by omega) hT
theorem G.drewM{a w:World}(h:G a w)(n:Nat):G a (w.drewN n):=⟨h.os,h.tape,h.output,h.size,h.block⟩
theorem it_nil(k a b:Int)(s:ByteArray)(hk:∀w,Tabs w→Calls prog 72 #[V k a b s] w fun e w'=>e=.returned .nilIface∧G w w')(w:World)(hT:Tabs w) :
  Calls prog 25 #[V k a b s] w fun e w'=>e=.returned (.tuple #[.nilIface,.bool false])∧G w w':=by
 have HK:Hid _:=hk
 clear hk
 go_enter func25,ntmps25
 go_wp2_with fail
 refine(HK.out _ (by exact hT.G ((G.refl w).alloc _))).mono ?_
 rintro e w1 ⟨rfl,hb1⟩
 go_wp2
 go_quiet (fail)
 go_wp2
 go_ret2
 exact⟨rfl,G.drewM (((G.refl w).alloc _).trans hb1) _⟩
theorem it_null_yes (k a b:Int)(s:ByteArray)(hq:(((0:Int)==k)&&((0:Int)==a)&&((0:Int)==b)&&(E0.toList==s.toList))=true)(hk:∀w,Tabs w→Calls prog 72 #[V k a b s] w fun e w'=>e=.returned (.iface 110 (.agg #[]))∧G w w')(w:World)(hT:Tabs w) :
  Calls prog 25 #[V k a b s] w fun e w'=>e=.returned (.tuple #[.iface 110 (.agg #[]),.bool true])∧G w w':=by
 have HK:Hid _:=hk
 have HV:Hid (∀w,Calls prog 235 #[.agg #[]] w fun e w'=>e=.returned (V 0 0 0 E0)∧G w w'):=val_null
 have hm:=m_val_null
 have he:∀w,(binOp .neq 31 (V 0 0 0 E0) (V k a b s)).run prog w=.ok (.bool false) w:=fun w=>by rw[neqV,hq];rfl
 clear hk hq
 go_enter func25,ntmps25
 go_wp2_with fail
 refine(HK.out _ (by exact hT.G ((G.refl w).alloc _))).mono ?_
 rintro e w1 ⟨rfl,hb1⟩
 have hc':=G.cells hb1 (b:=w.heap.size) (f:=fun o=>[Value.int IntKind.i64 k,Value.int IntKind.i64 a,Value.int IntKind.i64 b,Value.string s][o]?) (by simp) (by simp)
 have hG:G w w1:=((G.refl w).alloc _).trans hb1
 have hz:w.heap.size<w1.heap.size:=by have:=hb1.size;simp at this;omega
 clear hb1
 go_wp2
 go_region_held3 (fun W=>(∀(o:Nat),W.cell? {block:=w.heap.size,off:=o}=[Value.int IntKind.i64 k,Value.int IntKind.i64 a,Value.int IntKind.i64 b,Value.string s][o]?)∧G w W∧w.heap.size<W.heap.size) ((first|exact keepD ‹_› ‹_› ‹_›|exact keepG ‹_› ‹_› ‹_› ‹_›|exact keepG (keepD ‹_› ‹_› ‹_›).1 (keepD ‹_› ‹_› ‹_›).2.1 (keepD ‹_› ‹_› ‹_›).2.2 ‹_›)) (first|(go_at_call 235;refine(HV.out _).mono ?_;rintro e w2 ⟨rfl,hb2⟩)|fail)
 rename_i hH
 obtain⟨-,hG2,-⟩:=hH
 go_wp2
 go_ret2
 exact⟨rfl,hG2⟩
theorem it_null_no (k a b:Int)(s:ByteArray)(hq:(((0:Int)==k)&&((0:Int)==a)&&((0:Int)==b)&&(E0.toList==s.toList))=false)(hk:∀w,Tabs w→Calls prog 72 #[V k a b s] w fun e w'=>e=.returned (.iface 110 (.agg #[]))∧G w w')(w:World)(hT:Tabs w) :
  Calls prog 25 #[V k a b s] w fun e w'=>e=.returned (.tuple #[.nilIface,.bool false])∧G w w':=by
 have HK:Hid _:=hk
 have HV:Hid (∀w,Calls prog 235 #[.agg #[]] w fun e w'=>e=.returned (V 0 0 0 E0)∧G w w'):=val_null
 have hm:=m_val_null
 have he:∀w,(binOp .neq 31 (V 0 0 0 E0) (V k a b s)).run prog w=.ok (.bool true) w:=fun w=>by rw[neqV,hq];rfl
 clear hk hq
 go_enter func25,ntmps25
 go_wp2_with fail
 refine(HK.out _ (by exact hT.G ((G.refl w).alloc _))).mono ?_
 rintro e w1 ⟨rfl,hb1⟩
 have hc':=G.cells hb1 (b:=w.heap.size) (f:=fun o=>[Value.int IntKind.i64 k,Value.int IntKind.i64 a,Value.int IntKind.i64 b,Value.string s][o]?) (by simp) (by simp)
 have hG:G w w1:=((G.refl w).alloc _).trans hb1
 have hz:w.heap.size<w1.heap.size:=by have:=hb1.size;simp at this;omega
 clear hb1
 go_wp2
 go_region_held3 (fun W=>(∀(o:Nat),W.cell? {block:=w.heap.size,off:=o}=[Value.int IntKind.i64 k,Value.int IntKind.i64 a,Value.int IntKind.i64 b,Value.string s][o]?)∧G w W∧w.heap.size<W.heap.size) ((first|exact keepD ‹_› ‹_› ‹_›|exact keepG ‹_› ‹_› ‹_› ‹_›|exact keepG (keepD ‹_› ‹_› ‹_›).1 (keepD ‹_› ‹_› ‹_›).2.1 (keepD ‹_› ‹_› ‹_›).2.2 ‹_›)) (first|(go_at_call 235;refine(HV.out _).mono ?_;rintro e w2 ⟨rfl,hb2⟩)|fail)
 rename_i hH
 obtain⟨-,hG2,-⟩:=hH
 go_wp2
 go_ret2
 exact⟨rfl,hG2⟩
theorem it_ff_yes (k a b:Int)(s:ByteArray)(hq:(((1:Int)==k)&&((0:Int)==a)&&((0:Int)==b)&&(E0.toList==s.toList))=true)(hk:∀w,Tabs w→Calls prog 72 #[V k a b s] w fun e w'=>e=.returned (.iface 111 (.bool false))∧G w w')(w:World)(hT:Tabs w) :
  Calls prog 25 #[V k a b s] w fun e w'=>e=.returned (.tuple #[.iface 111 (.bool false),.bool true])∧G w w':=by
 have HK:Hid _:=hk
 have HV:Hid (∀w,Calls prog 240 #[.bool false] w fun e w'=>e=.returned (V 1 0 0 E0)∧G w w'):=val_ff
 have hm:=m_val_ff
 have he:∀w,(binOp .neq 31 (V 1 0 0 E0) (V k a b s)).run prog w=.ok (.bool false) w:=fun w=>by rw[neqV,hq];rfl
 clear hk hq
 go_enter func25,ntmps25
 go_wp2_with fail
 refine(HK.out _ (by exact hT.G ((G.refl w).alloc _))).mono ?_
 rintro e w1 ⟨rfl,hb1⟩
 have hc':=G.cells hb1 (b:=w.heap.size) (f:=fun o=>[Value.int IntKind.i64 k,Value.int IntKind.i64 a,Value.int IntKind.i64 b,Value.string s][o]?) (by simp) (by simp)
 have hG:G w w1:=((G.refl w).alloc _).trans hb1
 have hz:w.heap.size<w1.heap.size:=by have:=hb1.size;simp at this;omega
 clear hb1
 go_wp2
 go_region_held3 (fun W=>(∀(o:Nat),W.cell? {block:=w.heap.size,off:=o}=[Value.int IntKind.i64 k,Value.int IntKind.i64 a,Value.int IntKind.i64 b,Value.string s][o]?)∧G w W∧w.heap.size<W.heap.size) ((first|exact keepD ‹_› ‹_› ‹_›|exact keepG ‹_› ‹_› ‹_› ‹_›|exact keepG (keepD ‹_› ‹_› ‹_›).1 (keepD ‹_› ‹_› ‹_›).2.1 (keepD ‹_› ‹_› ‹_›).2.2 ‹_›)) (first|(go_at_call 240;refine(HV.out _).mono ?_;rintro e w2 ⟨rfl,hb2⟩)|fail)
 rename_i hH
 obtain⟨-,hG2,-⟩:=hH
 go_wp2
 go_ret2
 exact⟨rfl,hG2⟩
theorem it_ff_no (k a b:Int)(s:ByteArray)(hq:(((1:Int)==k)&&((0:Int)==a)&&((0:Int)==b)&&(E0.toList==s.toList))=false)(hk:∀w,Tabs w→Calls prog 72 #[V k a b s] w fun e w'=>e=.returned (.iface 111 (.bool false))∧G w w')(w:World)(hT:Tabs w) :
  Calls prog 25 #[V k a b s] w fun e w'=>e=.returned (.tuple #[.nilIface,.bool false])∧G w w':=by
 have HK:Hid _:=hk
 have HV:Hid (∀w,Calls prog 240 #[.bool false] w fun e w'=>e=.returned (V 1 0 0 E0)∧G w w'):=val_ff
 have hm:=m_val_ff
 have he:∀w,(binOp .neq 31 (V 1 0 0 E0) (V k a b s)).run prog w=.ok (.bool true) w:=fun w=>by rw[neqV,hq];rfl
 clear hk hq
 go_enter func25,ntmps25
 go_wp2_with fail
 refine(HK.out _ (by exact hT.G ((G.refl w).alloc _))).mono ?_
 rintro e w1 ⟨rfl,hb1⟩
 have hc':=G.cells hb1 (b:=w.heap.size) (f:=fun o=>[Value.int IntKind.i64 k,Value.int IntKind.i64 a,Value.int IntKind.i64 b,Value.string s][o]?) (by simp) (by simp)
 have hG:G w w1:=((G.refl w).alloc _).trans hb1
 have hz:w.heap.size<w1.heap.size:=by have:=hb1.size;simp at this;omega
 clear hb1
 go_wp2
 go_region_held3 (fun W=>(∀(o:Nat),W.cell? {block:=w.heap.size,off:=o}=[Value.int IntKind.i64 k,Value.int IntKind.i64 a,Value.int IntKind.i64 b,Value.string s][o]?)∧G w W∧w.heap.size<W.heap.size) ((first|exact keepD ‹_› ‹_› ‹_›|exact keepG ‹_› ‹_› ‹_› ‹_›|exact keepG (keepD ‹_› ‹_› ‹_›).1 (keepD ‹_› ‹_› ‹_›).2.1 (keepD ‹_› ‹_› ‹_›).2.2 ‹_›)) (first|(go_at_call 240;refine(HV.out _).mono ?_;rintro e w2 ⟨rfl,hb2⟩)|fail)
 rename_i hH
 obtain⟨-,hG2,-⟩:=hH
 go_wp2
 go_ret2
 exact⟨rfl,hG2⟩
theorem it_tt_yes (k a b:Int)(s:ByteArray)(hq:(((1:Int)==k)&&((1:Int)==a)&&((0:Int)==b)&&(E0.toList==s.toList))=true)(hk:∀w,Tabs w→Calls prog 72 #[V k a b s] w fun e w'=>e=.returned (.iface 111 (.bool true))∧G w w')(w:World)(hT:Tabs w) :
  Calls prog 25 #[V k a b s] w fun e w'=>e=.returned (.tuple #[.iface 111 (.bool true),.bool true])∧G w w':=by
 have HK:Hid _:=hk
 have HV:Hid (∀w,Calls prog 240 #[.bool true] w fun e w'=>e=.returned (V 1 1 0 E0)∧G w w'):=val_tt
 have hm:=m_val_tt
 have he:∀w,(binOp .neq 31 (V 1 1 0 E0) (V k a b s)).run prog w=.ok (.bool false) w:=fun w=>by rw[neqV,hq];rfl
 clear hk hq
 go_enter func25,ntmps25
 go_wp2_with fail
 refine(HK.out _ (by exact hT.G ((G.refl w).alloc _))).mono ?_
 rintro e w1 ⟨rfl,hb1⟩
 have hc':=G.cells hb1 (b:=w.heap.size) (f:=fun o=>[Value.int IntKind.i64 k,Value.int IntKind.i64 a,Value.int IntKind.i64 b,Value.string s][o]?) (by simp) (by simp)
 have hG:G w w1:=((G.refl w).alloc _).trans hb1
 have hz:w.heap.size<w1.heap.size:=by have:=hb1.size;simp at this;omega
 clear hb1
 go_wp2
 go_region_held3 (fun W=>(∀(o:Nat),W.cell? {block:=w.heap.size,off:=o}=[Value.int IntKind.i64 k,Value.int IntKind.i64 a,Value.int IntKind.i64 b,Value.string s][o]?)∧G w W∧w.heap.size<W.heap.size) ((first|exact keepD ‹_› ‹_› ‹_›|exact keepG ‹_› ‹_› ‹_› ‹_›|exact keepG (keepD ‹_› ‹_› ‹_›).1 (keepD ‹_› ‹_› ‹_›).2.1 (keepD ‹_› ‹_› ‹_›).2.2 ‹_›)) (first|(go_at_call 240;refine(HV.out _).mono ?_;rintro e w2 ⟨rfl,hb2⟩)|fail)
 rename_i hH
 obtain⟨-,hG2,-⟩:=hH
 go_wp2
 go_ret2
 exact⟨rfl,hG2⟩
theorem it_tt_no (k a b:Int)(s:ByteArray)(hq:(((1:Int)==k)&&((1:Int)==a)&&((0:Int)==b)&&(E0.toList==s.toList))=false)(hk:∀w,Tabs w→Calls prog 72 #[V k a b s] w fun e w'=>e=.returned (.iface 111 (.bool true))∧G w w')(w:World)(hT:Tabs w) :
  Calls prog 25 #[V k a b s] w fun e w'=>e=.returned (.tuple #[.nilIface,.bool false])∧G w w':=by
 have HK:Hid _:=hk
 have HV:Hid (∀w,Calls prog 240 #[.bool true] w fun e w'=>e=.returned (V 1 1 0 E0)∧G w w'):=val_tt
 have hm:=m_val_tt
 have he:∀w,(binOp .neq 31 (V 1 1 0 E0) (V k a b s)).run prog w=.ok (.bool true) w:=fun w=>by rw[neqV,hq];rfl
 clear hk hq
 go_enter func25,ntmps25
 go_wp2_with fail
 refine(HK.out _ (by exact hT.G ((G.refl w).alloc _))).mono ?_
 rintro e w1 ⟨rfl,hb1⟩
 have hc':=G.cells hb1 (b:=w.heap.size) (f:=fun o=>[Value.int IntKind.i64 k,Value.int IntKind.i64 a,Value.int IntKind.i64 b,Value.string s][o]?) (by simp) (by simp)
 have hG:G w w1:=((G.refl w).alloc _).trans hb1
 have hz:w.heap.size<w1.heap.size:=by have:=hb1.size;simp at this;omega
 clear hb1
 go_wp2
 go_region_held3 (fun W=>(∀(o:Nat),W.cell? {block:=w.heap.size,off:=o}=[Value.int IntKind.i64 k,Value.int IntKind.i64 a,Value.int IntKind.i64 b,Value.string s][o]?)∧G w W∧w.heap.size<W.heap.size) ((first|exact keepD ‹_› ‹_› ‹_›|exact keepG ‹_› ‹_› ‹_› ‹_›|exact keepG (keepD ‹_› ‹_› ‹_›).1 (keepD ‹_› ‹_› ‹_›).2.1 (keepD ‹_› ‹_› ‹_›).2.2 ‹_›)) (first|(go_at_call 240;refine(HV.out _).mono ?_;rintro e w2 ⟨rfl,hb2⟩)|fail)
 rename_i hH
 obtain⟨-,hG2,-⟩:=hH
 go_wp2
 go_ret2
 exact⟨rfl,hG2⟩
theorem it_whole_yes(n:Int)(k a b:Int)(s:ByteArray)(hq:(((2:Int)==k)&&((n:Int)==a)&&((0:Int)==b)&&(E0.toList==s.toList))=true)(hk:∀w,Tabs w→Calls prog 72 #[V k a b s] w fun e w'=>e=.returned (.iface 135 (.int .i64 n))∧G w w')(w:World)(hT:Tabs w) :
  Calls prog 25 #[V k a b s] w fun e w'=>e=.returned (.tuple #[.iface 135 (.int .i64 n),.bool true])∧G w w':=by
 have HK:Hid _:=hk
 have HV:Hid (∀w,Calls prog 247 #[.int .i64 n] w fun e w'=>e=.returned (V 2 n 0 E0)∧G w w'):=val_whole n
 have hm:=m_val_whole n
 have he:∀w,(binOp .neq 31 (V 2 n 0 E0) (V k a b s)).run prog w=.ok (.bool false) w:=fun w=>by rw[neqV,hq];rfl
 clear hk hq
 go_enter func25,ntmps25
 go_wp2_with fail
 refine(HK.out _ (by exact hT.G ((G.refl w).alloc _))).mono ?_
 rintro e w1 ⟨rfl,hb1⟩
 have hc':=G.cells hb1 (b:=w.heap.size) (f:=fun o=>[Value.int IntKind.i64 k,Value.int IntKind.i64 a,Value.int IntKind.i64 b,Value.string s][o]?) (by simp) (by simp)
 have hG:G w w1:=((G.refl w).alloc _).trans hb1
 have hz:w.heap.size<w1.heap.size:=by have:=hb1.size;simp at this;omega
 clear hb1
 go_wp2
 go_region_held3 (fun W=>(∀(o:Nat),W.cell? {block:=w.heap.size,off:=o}=[Value.int IntKind.i64 k,Value.int IntKind.i64 a,Value.int IntKind.i64 b,Value.string s][o]?)∧G w W∧w.heap.size<W.heap.size) ((first|exact keepD ‹_› ‹_› ‹_›|exact keepG ‹_› ‹_› ‹_› ‹_›|exact keepG (keepD ‹_› ‹_› ‹_›).1 (keepD ‹_› ‹_› ‹_›).2.1 (keepD ‹_› ‹_› ‹_›).2.2 ‹_›)) (first|(go_at_call 247;refine(HV.out _).mono ?_;rintro e w2 ⟨rfl,hb2⟩)|fail)
 rename_i hH
 obtain⟨-,hG2,-⟩:=hH
 go_wp2
 go_ret2
 exact⟨rfl,hG2⟩
theorem it_whole_no(n:Int)(k a b:Int)(s:ByteArray)(hq:(((2:Int)==k)&&((n:Int)==a)&&((0:Int)==b)&&(E0.toList==s.toList))=false)(hk:∀w,Tabs w→Calls prog 72 #[V k a b s] w fun e w'=>e=.returned (.iface 135 (.int .i64 n))∧G w w')(w:World)(hT:Tabs w) :
  Calls prog 25 #[V k a b s] w fun e w'=>e=.returned (.tuple #[.nilIface,.bool false])∧G w w':=by
 have HK:Hid _:=hk
 have HV:Hid (∀w,Calls prog 247 #[.int .i64 n] w fun e w'=>e=.returned (V 2 n 0 E0)∧G w w'):=val_whole n
 have hm:=m_val_whole n
 have he:∀w,(binOp .neq 31 (V 2 n 0 E0) (V k a b s)).run prog w=.ok (.bool true) w:=fun w=>by rw[neqV,hq];rfl
 clear hk hq
 go_enter func25,ntmps25
 go_wp2_with fail
 refine(HK.out _ (by exact hT.G ((G.refl w).alloc _))).mono ?_
 rintro e w1 ⟨rfl,hb1⟩
 have hc':=G.cells hb1 (b:=w.heap.size) (f:=fun o=>[Value.int IntKind.i64 k,Value.int IntKind.i64 a,Value.int IntKind.i64 b,Value.string s][o]?) (by simp) (by simp)
 have hG:G w w1:=((G.refl w).alloc _).trans hb1
 have hz:w.heap.size<w1.heap.size:=by have:=hb1.size;simp at this;omega
 clear hb1
 go_wp2
 go_region_held3 (fun W=>(∀(o:Nat),W.cell? {block:=w.heap.size,off:=o}=[Value.int IntKind.i64 k,Value.int IntKind.i64 a,Value.int IntKind.i64 b,Value.string s][o]?)∧G w W∧w.heap.size<W.heap.size) ((first|exact keepD ‹_› ‹_› ‹_›|exact keepG ‹_› ‹_› ‹_› ‹_›|exact keepG (keepD ‹_› ‹_› ‹_›).1 (keepD ‹_› ‹_› ‹_›).2.1 (keepD ‹_› ‹_› ‹_›).2.2 ‹_›)) (first|(go_at_call 247;refine(HV.out _).mono ?_;rintro e w2 ⟨rfl,hb2⟩)|fail)
 rename_i hH
 obtain⟨-,hG2,-⟩:=hH
 go_wp2
 go_ret2
 exact⟨rfl,hG2⟩
theorem it_cpx_yes(x y:Nat)(c d:Int)(hx:Fl x c)(hy:Fl y d)(hc:c.natAbs<2^53)(hd:d.natAbs<2^53)(k a b:Int)(s:ByteArray)(hq:(((3:Int)==k)&&((c:Int)==a)&&((d:Int)==b)&&(E0.toList==s.toList))=true)(hk:∀w,Tabs w→Calls prog 72 #[V k a b s] w fun e w'=>e=.returned (.iface 136 (.complex .f64 x y))∧G w w')(w:World)(hT:Tabs w) :
  Calls prog 25 #[V k a b s] w fun e w'=>e=.returned (.tuple #[.iface 136 (.complex .f64 x y),.bool true])∧G w w':=by
 have HK:Hid _:=hk
 have HV:Hid (∀w,Calls prog 255 #[.complex .f64 x y] w fun e w'=>e=.returned (V 3 c d E0)∧G w w'):=val_cpx x y c d hx hy hc hd
 have hm:=m_val_cpx x y
 have he:∀w,(binOp .neq 31 (V 3 c d E0) (V k a b s)).run prog w=.ok (.bool false) w:=fun w=>by rw[neqV,hq];rfl
 clear hk hq hx hy hc hd
 go_enter func25,ntmps25
 go_wp2_with fail
 refine(HK.out _ (by exact hT.G ((G.refl w).alloc _))).mono ?_
 rintro e w1 ⟨rfl,hb1⟩
 have hc':=G.cells hb1 (b:=w.heap.size) (f:=fun o=>[Value.int IntKind.i64 k,Value.int IntKind.i64 a,Value.int IntKind.i64 b,Value.string s][o]?) (by simp) (by simp)
 have hG:G w w1:=((G.refl w).alloc _).trans hb1
 have hz:w.heap.size<w1.heap.size:=by have:=hb1.size;simp at this;omega
 clear hb1
 go_wp2
 go_region_held3 (fun W=>(∀(o:Nat),W.cell? {block:=w.heap.size,off:=o}=[Value.int IntKind.i64 k,Value.int IntKind.i64 a,Value.int IntKind.i64 b,Value.string s][o]?)∧G w W∧w.heap.size<W.heap.size) ((first|exact keepD ‹_› ‹_› ‹_›|exact keepG ‹_› ‹_› ‹_› ‹_›|exact keepG (keepD ‹_› ‹_› ‹_›).1 (keepD ‹_› ‹_› ‹_›).2.1 (keepD ‹_› ‹_› ‹_›).2.2 ‹_›)) (first|(go_at_call 255;refine(HV.out _).mono ?_;rintro e w2 ⟨rfl,hb2⟩)|fail)
 rename_i hH
 obtain⟨-,hG2,-⟩:=hH
 go_wp2
 go_ret2
 exact⟨rfl,hG2⟩
theorem it_cpx_no(x y:Nat)(c d:Int)(hx:Fl x c)(hy:Fl y d)(hc:c.natAbs<2^53)(hd:d.natAbs<2^53)(k a b:Int)(s:ByteArray)(hq:(((3:Int)==k)&&((c:Int)==a)&&((d:Int)==b)&&(E0.toList==s.toList))=false)(hk:∀w,Tabs w→Calls prog 72 #[V k a b s] w fun e w'=>e=.returned (.iface 136 (.complex .f64 x y))∧G w w')(w:World)(hT:Tabs w) :
  Calls prog 25 #[V k a b s] w fun e w'=>e=.returned (.tuple #[.nilIface,.bool false])∧G w w':=by
 have HK:Hid _:=hk
 have HV:Hid (∀w,Calls prog 255 #[.complex .f64 x y] w fun e w'=>e=.returned (V 3 c d E0)∧G w w'):=val_cpx x y c d hx hy hc hd
 have hm:=m_val_cpx x y
 have he:∀w,(binOp .neq 31 (V 3 c d E0) (V k a b s)).run prog w=.ok (.bool true) w:=fun w=>by rw[neqV,hq];rfl
 clear hk hq hx hy hc hd
 go_enter func25,ntmps25
 go_wp2_with fail
 refine(HK.out _ (by exact hT.G ((G.refl w).alloc _))).mono ?_
 rintro e w1 ⟨rfl,hb1⟩
 have hc':=G.cells hb1 (b:=w.heap.size) (f:=fun o=>[Value.int IntKind.i64 k,Value.int IntKind.i64 a,Value.int IntKind.i64 b,Value.string s][o]?) (by simp) (by simp)
 have hG:G w w1:=((G.refl w).alloc _).trans hb1
 have hz:w.heap.size<w1.heap.size:=by have:=hb1.size;simp at this;omega
 clear hb1
 go_wp2
 go_region_held3 (fun W=>(∀(o:Nat),W.cell? {block:=w.heap.size,off:=o}=[Value.int IntKind.i64 k,Value.int IntKind.i64 a,Value.int IntKind.i64 b,Value.string s][o]?)∧G w W∧w.heap.size<W.heap.size) ((first|exact keepD ‹_› ‹_› ‹_›|exact keepG ‹_› ‹_› ‹_› ‹_›|exact keepG (keepD ‹_› ‹_› ‹_›).1 (keepD ‹_› ‹_› ‹_›).2.1 (keepD ‹_› ‹_› ‹_›).2.2 ‹_›)) (first|(go_at_call 255;refine(HV.out _).mono ?_;rintro e w2 ⟨rfl,hb2⟩)|fail)
 rename_i hH
 obtain⟨-,hG2,-⟩:=hH
 go_wp2
 go_ret2
 exact⟨rfl,hG2⟩
theorem m_val_str(t:ByteArray)(w:World):(method 351 137 (.string t) "trellis/value.val").run prog w=.ok (260,.string t) w:=by kernel_rfl
theorem val_str(t:ByteArray)(w:World):Calls prog 260 #[.string t] w fun e w'=>e=.returned (V 4 0 0 t)∧G w w':=by
 go_enter func260,ntmps260
 go_wp2
 exact bodyPost_ret (v:=V 4 0 0 t) (by simp[results,results260,go_sem]) rfl ⟨rfl,by repeat(first|exact G.refl _|assumption|refine G.alloc ?_ _|refine G.drew ?_|refine G.setCell ?_ (by simp) _|refine G.trans ?_ (by assumption))⟩
theorem it_str_yes(t:ByteArray)(k a b:Int)(s:ByteArray)(hq:(((4:Int)==k)&&((0:Int)==a)&&((0:Int)==b)&&(t.toList==s.toList))=true)(hk:∀w,Tabs w→Calls prog 72 #[V k a b s] w fun e w'=>e=.returned (.iface 137 (.string t))∧G w w')(w:World)(hT:Tabs w) :
  Calls prog 25 #[V k a b s] w fun e w'=>e=.returned (.tuple #[.iface 137 (.string t),.bool true])∧G w w':=by
 have HK:Hid _:=hk
 have HV:Hid (∀w,Calls prog 260 #[.string t] w fun e w'=>e=.returned (V 4 0 0 t)∧G w w'):=val_str t
 have hm:=m_val_str t
 have he:∀w,(binOp .neq 31 (V 4 0 0 t) (V k a b s)).run prog w=.ok (.bool false) w:=fun w=>by rw[neqV,hq];rfl
 clear hk hq
 go_enter func25,ntmps25
 go_wp2_with fail
 refine(HK.out _ (by exact hT.G ((G.refl w).alloc _))).mono ?_
 rintro e w1 ⟨rfl,hb1⟩
 have hc':=G.cells hb1 (b:=w.heap.size) (f:=fun o=>[Value.int IntKind.i64 k,Value.int IntKind.i64 a,Value.int IntKind.i64 b,Value.string s][o]?) (by simp) (by simp)
 have hG:G w w1:=((G.refl w).alloc _).trans hb1
 have hz:w.heap.size<w1.heap.size:=by have:=hb1.size;simp at this;omega
 clear hb1
 go_wp2
 go_region_held3 (fun W=>(∀(o:Nat),W.cell? {block:=w.heap.size,off:=o}=[Value.int IntKind.i64 k,Value.int IntKind.i64 a,Value.int IntKind.i64 b,Value.string s][o]?)∧G w W∧w.heap.size<W.heap.size) ((first|exact keepD ‹_› ‹_› ‹_›|exact keepG ‹_› ‹_› ‹_› ‹_›|exact keepG (keepD ‹_› ‹_› ‹_›).1 (keepD ‹_› ‹_› ‹_›).2.1 (keepD ‹_› ‹_› ‹_›).2.2 ‹_›)) (first|(go_at_call 260;refine(HV.out _).mono ?_;rintro e w2 ⟨rfl,hb2⟩)|fail)
 rename_i hH
 obtain⟨-,hG2,-⟩:=hH
 go_wp2
 go_ret2
 exact⟨rfl,hG2⟩
theorem it_str_no(t:ByteArray)(k a b:Int)(s:ByteArray)(hq:(((4:Int)==k)&&((0:Int)==a)&&((0:Int)==b)&&(t.toList==s.toList))=false)(hk:∀w,Tabs w→Calls prog 72 #[V k a b s] w fun e w'=>e=.returned (.iface 137 (.string t))∧G w w')(w:World)(hT:Tabs w) :
  Calls prog 25 #[V k a b s] w fun e w'=>e=.returned (.tuple #[.nilIface,.bool false])∧G w w':=by
 have HK:Hid _:=hk
 have HV:Hid (∀w,Calls prog 260 #[.string t] w fun e w'=>e=.returned (V 4 0 0 t)∧G w w'):=val_str t
 have hm:=m_val_str t
 have he:∀w,(binOp .neq 31 (V 4 0 0 t) (V k a b s)).run prog w=.ok (.bool true) w:=fun w=>by rw[neqV,hq];rfl
 clear hk hq
 go_enter func25,ntmps25
 go_wp2_with fail
 refine(HK.out _ (by exact hT.G ((G.refl w).alloc _))).mono ?_
 rintro e w1 ⟨rfl,hb1⟩
 have hc':=G.cells hb1 (b:=w.heap.size) (f:=fun o=>[Value.int IntKind.i64 k,Value.int IntKind.i64 a,Value.int IntKind.i64 b,Value.string s][o]?) (by simp) (by simp)
 have hG:G w w1:=((G.refl w).alloc _).trans hb1
 have hz:w.heap.size<w1.heap.size:=by have:=hb1.size;simp at this;omega
 clear hb1
 go_wp2
 go_region_held3 (fun W=>(∀(o:Nat),W.cell? {block:=w.heap.size,off:=o}=[Value.int IntKind.i64 k,Value.int IntKind.i64 a,Value.int IntKind.i64 b,Value.string s][o]?)∧G w W∧w.heap.size<W.heap.size) ((first|exact keepD ‹_› ‹_› ‹_›|exact keepG ‹_› ‹_› ‹_› ‹_›|exact keepG (keepD ‹_› ‹_› ‹_›).1 (keepD ‹_› ‹_› ‹_›).2.1 (keepD ‹_› ‹_› ‹_›).2.2 ‹_›)) (first|(go_at_call 260;refine(HV.out _).mono ?_;rintro e w2 ⟨rfl,hb2⟩)|fail)
 rename_i hH
 obtain⟨-,hG2,-⟩:=hH
 go_wp2
 go_ret2
 exact⟨rfl,hG2⟩
theorem m_val_node(n:Int)(w:World):(method 351 138 (.int .i64 n) "trellis/value.val").run prog w=.ok (268,.int .i64 n) w:=by kernel_rfl
theorem val_node(n:Int)(w:World):Calls prog 268 #[.int .i64 n] w fun e w'=>e=.returned (V 5 n 0 E0)∧G w w':=by
 go_enter func268,ntmps268
 go_wp2
 exact bodyPost_ret (v:=V 5 n 0 E0) (by simp[results,results268,go_sem]) rfl ⟨rfl,by repeat(first|exact G.refl _|assumption|refine G.alloc ?_ _|refine G.drew ?_|refine G.setCell ?_ (by simp) _|refine G.trans ?_ (by assumption))⟩
theorem it_node_yes(n:Int)(k a b:Int)(s:ByteArray)(hq:(((5:Int)==k)&&((n:Int)==a)&&((0:Int)==b)&&(E0.toList==s.toList))=true)(hk:∀w,Tabs w→Calls prog 72 #[V k a b s] w fun e w'=>e=.returned (.iface 138 (.int .i64 n))∧G w w')(w:World)(hT:Tabs w) :
  Calls prog 25 #[V k a b s] w fun e w'=>e=.returned (.tuple #[.iface 138 (.int .i64 n),.bool true])∧G w w':=by
 have HK:Hid _:=hk
 have HV:Hid (∀w,Calls prog 268 #[.int .i64 n] w fun e w'=>e=.returned (V 5 n 0 E0)∧G w w'):=val_node n
 have hm:=m_val_node n
 have he:∀w,(binOp .neq 31 (V 5 n 0 E0) (V k a b s)).run prog w=.ok (.bool false) w:=fun w=>by rw[neqV,hq];rfl
 clear hk hq
 go_enter func25,ntmps25
 go_wp2_with fail
 refine(HK.out _ (by exact hT.G ((G.refl w).alloc _))).mono ?_
 rintro e w1 ⟨rfl,hb1⟩
 have hc':=G.cells hb1 (b:=w.heap.size) (f:=fun o=>[Value.int IntKind.i64 k,Value.int IntKind.i64 a,Value.int IntKind.i64 b,Value.string s][o]?) (by simp) (by simp)
 have hG:G w w1:=((G.refl w).alloc _).trans hb1
 have hz:w.heap.size<w1.heap.size:=by have:=hb1.size;simp at this;omega
 clear hb1
 go_wp2
 go_region_held3 (fun W=>(∀(o:Nat),W.cell? {block:=w.heap.size,off:=o}=[Value.int IntKind.i64 k,Value.int IntKind.i64 a,Value.int IntKind.i64 b,Value.string s][o]?)∧G w W∧w.heap.size<W.heap.size) ((first|exact keepD ‹_› ‹_› ‹_›|exact keepG ‹_› ‹_› ‹_› ‹_›|exact keepG (keepD ‹_› ‹_› ‹_›).1 (keepD ‹_› ‹_› ‹_›).2.1 (keepD ‹_› ‹_› ‹_›).2.2 ‹_›)) (first|(go_at_call 268;refine(HV.out _).mono ?_;rintro e w2 ⟨rfl,hb2⟩)|fail)
 rename_i hH
 obtain⟨-,hG2,-⟩:=hH
 go_wp2
 go_ret2
 exact⟨rfl,hG2⟩
theorem it_node_no(n:Int)(k a b:Int)(s:ByteArray)(hq:(((5:Int)==k)&&((n:Int)==a)&&((0:Int)==b)&&(E0.toList==s.toList))=false)(hk:∀w,Tabs w→Calls prog 72 #[V k a b s] w fun e w'=>e=.returned (.iface 138 (.int .i64 n))∧G w w')(w:World)(hT:Tabs w) :
  Calls prog 25 #[V k a b s] w fun e w'=>e=.returned (.tuple #[.nilIface,.bool false])∧G w w':=by
 have HK:Hid _:=hk
 have HV:Hid (∀w,Calls prog 268 #[.int .i64 n] w fun e w'=>e=.returned (V 5 n 0 E0)∧G w w'):=val_node n
 have hm:=m_val_node n
 have he:∀w,(binOp .neq 31 (V 5 n 0 E0) (V k a b s)).run prog w=.ok (.bool true) w:=fun w=>by rw[neqV,hq];rfl
 clear hk hq
 go_enter func25,ntmps25
 go_wp2_with fail
 refine(HK.out _ (by exact hT.G ((G.refl w).alloc _))).mono ?_
 rintro e w1 ⟨rfl,hb1⟩
 have hc':=G.cells hb1 (b:=w.heap.size) (f:=fun o=>[Value.int IntKind.i64 k,Value.int IntKind.i64 a,Value.int IntKind.i64 b,Value.string s][o]?) (by simp) (by simp)
 have hG:G w w1:=((G.refl w).alloc _).trans hb1
 have hz:w.heap.size<w1.heap.size:=by have:=hb1.size;simp at this;omega
 clear hb1
 go_wp2
 go_region_held3 (fun W=>(∀(o:Nat),W.cell? {block:=w.heap.size,off:=o}=[Value.int IntKind.i64 k,Value.int IntKind.i64 a,Value.int IntKind.i64 b,Value.string s][o]?)∧G w W∧w.heap.size<W.heap.size) ((first|exact keepD ‹_› ‹_› ‹_›|exact keepG ‹_› ‹_› ‹_› ‹_›|exact keepG (keepD ‹_› ‹_› ‹_›).1 (keepD ‹_› ‹_› ‹_›).2.1 (keepD ‹_› ‹_› ‹_›).2.2 ‹_›)) (first|(go_at_call 268;refine(HV.out _).mono ?_;rintro e w2 ⟨rfl,hb2⟩)|fail)
 rename_i hH
 obtain⟨-,hG2,-⟩:=hH
 go_wp2
 go_ret2
 exact⟨rfl,hG2⟩
theorem m_val_edge(n:Int)(w:World):(method 351 139 (.int .i64 n) "trellis/value.val").run prog w=.ok (273,.int .i64 n) w:=by kernel_rfl
theorem val_edge(n:Int)(w:World):Calls prog 273 #[.int .i64 n] w fun e w'=>e=.returned (V 6 n 0 E0)∧G w w':=by
 go_enter func273,ntmps273
 go_wp2
 exact bodyPost_ret (v:=V 6 n 0 E0) (by simp[results,results273,go_sem]) rfl ⟨rfl,by repeat(first|exact G.refl _|assumption|refine G.alloc ?_ _|refine G.drew ?_|refine G.setCell ?_ (by simp) _|refine G.trans ?_ (by assumption))⟩
theorem it_edge_yes(n:Int)(k a b:Int)(s:ByteArray)(hq:(((6:Int)==k)&&((n:Int)==a)&&((0:Int)==b)&&(E0.toList==s.toList))=true)(hk:∀w,Tabs w→Calls prog 72 #[V k a b s] w fun e w'=>e=.returned (.iface 139 (.int .i64 n))∧G w w')(w:World)(hT:Tabs w) :
  Calls prog 25 #[V k a b s] w fun e w'=>e=.returned (.tuple #[.iface 139 (.int .i64 n),.bool true])∧G w w':=by
 have HK:Hid _:=hk
 have HV:Hid (∀w,Calls prog 273 #[.int .i64 n] w fun e w'=>e=.returned (V 6 n 0 E0)∧G w w'):=val_edge n
 have hm:=m_val_edge n
 have he:∀w,(binOp .neq 31 (V 6 n 0 E0) (V k a b s)).run prog w=.ok (.bool false) w:=fun w=>by rw[neqV,hq];rfl
 clear hk hq
 go_enter func25,ntmps25
 go_wp2_with fail
 refine(HK.out _ (by exact hT.G ((G.refl w).alloc _))).mono ?_
 rintro e w1 ⟨rfl,hb1⟩
 have hc':=G.cells hb1 (b:=w.heap.size) (f:=fun o=>[Value.int IntKind.i64 k,Value.int IntKind.i64 a,Value.int IntKind.i64 b,Value.string s][o]?) (by simp) (by simp)
 have hG:G w w1:=((G.refl w).alloc _).trans hb1
 have hz:w.heap.size<w1.heap.size:=by have:=hb1.size;simp at this;omega
 clear hb1
 go_wp2
 go_region_held3 (fun W=>(∀(o:Nat),W.cell? {block:=w.heap.size,off:=o}=[Value.int IntKind.i64 k,Value.int IntKind.i64 a,Value.int IntKind.i64 b,Value.string s][o]?)∧G w W∧w.heap.size<W.heap.size) ((first|exact keepD ‹_› ‹_› ‹_›|exact keepG ‹_› ‹_› ‹_› ‹_›|exact keepG (keepD ‹_› ‹_› ‹_›).1 (keepD ‹_› ‹_› ‹_›).2.1 (keepD ‹_› ‹_› ‹_›).2.2 ‹_›)) (first|(go_at_call 273;refine(HV.out _).mono ?_;rintro e w2 ⟨rfl,hb2⟩)|fail)
 rename_i hH
 obtain⟨-,hG2,-⟩:=hH
 go_wp2
 go_ret2
 exact⟨rfl,hG2⟩
theorem it_edge_no(n:Int)(k a b:Int)(s:ByteArray)(hq:(((6:Int)==k)&&((n:Int)==a)&&((0:Int)==b)&&(E0.toList==s.toList))=false)(hk:∀w,Tabs w→Calls prog 72 #[V k a b s] w fun e w'=>e=.returned (.iface 139 (.int .i64 n))∧G w w')(w:World)(hT:Tabs w) :
  Calls prog 25 #[V k a b s] w fun e w'=>e=.returned (.tuple #[.nilIface,.bool false])∧G w w':=by
 have HK:Hid _:=hk
 have HV:Hid (∀w,Calls prog 273 #[.int .i64 n] w fun e w'=>e=.returned (V 6 n 0 E0)∧G w w'):=val_edge n
 have hm:=m_val_edge n
 have he:∀w,(binOp .neq 31 (V 6 n 0 E0) (V k a b s)).run prog w=.ok (.bool true) w:=fun w=>by rw[neqV,hq];rfl
 clear hk hq
 go_enter func25,ntmps25
 go_wp2_with fail
 refine(HK.out _ (by exact hT.G ((G.refl w).alloc _))).mono ?_
 rintro e w1 ⟨rfl,hb1⟩
 have hc':=G.cells hb1 (b:=w.heap.size) (f:=fun o=>[Value.int IntKind.i64 k,Value.int IntKind.i64 a,Value.int IntKind.i64 b,Value.string s][o]?) (by simp) (by simp)
 have hG:G w w1:=((G.refl w).alloc _).trans hb1
 have hz:w.heap.size<w1.heap.size:=by have:=hb1.size;simp at this;omega
 clear hb1
 go_wp2
 go_region_held3 (fun W=>(∀(o:Nat),W.cell? {block:=w.heap.size,off:=o}=[Value.int IntKind.i64 k,Value.int IntKind.i64 a,Value.int IntKind.i64 b,Value.string s][o]?)∧G w W∧w.heap.size<W.heap.size) ((first|exact keepD ‹_› ‹_› ‹_›|exact keepG ‹_› ‹_› ‹_› ‹_›|exact keepG (keepD ‹_› ‹_› ‹_›).1 (keepD ‹_› ‹_› ‹_›).2.1 (keepD ‹_› ‹_› ‹_›).2.2 ‹_›)) (first|(go_at_call 273;refine(HV.out _).mono ?_;rintro e w2 ⟨rfl,hb2⟩)|fail)
 rename_i hH
 obtain⟨-,hG2,-⟩:=hH
 go_wp2
 go_ret2
 exact⟨rfl,hG2⟩
end
section
open Go.RowKit Go.Lib Go.Shelf
theorem isPart_any(n:Int)(w:World):Calls prog 111 #[.int .i64 n] w fun e w'=>e=.returned (.bool (partB n))∧w'=w:=by
 unfold partB
 by_cases h:-33554432≤n
 ·go_enter func111,ntmps111
  go_wp2
  all_goals (go_ret;exact⟨ret_b (by simp[*]),rfl⟩)
 ·have h':decide (-33554432≤n)=false:=by simp;omega
  go_enter func111,ntmps111
  go_wp2
  all_goals (go_ret;exact⟨ret_b (by simp[*]),rfl⟩)
theorem ik_0(a b:Int)(s:ByteArray)(w:World)(_:Tabs w):Calls prog 72 #[V 0 a b s] w fun e w'=>e=.returned (.iface 110 (.agg #[]))∧G w w':=by
 go_enter func72,ntmps72
 go_wp2
 go_ret
 exact⟨rfl,(G.refl _).alloc _⟩
theorem ik_1(a b:Int)(s:ByteArray)(w:World)(_:Tabs w):Calls prog 72 #[V 1 a b s] w fun e w'=>e=.returned (.iface 111 (.bool (a==1)))∧G w w':=by
 go_enter func72,ntmps72
 go_wp2
 go_ret
 exact⟨rfl,(G.refl _).alloc _⟩
theorem ik_2(a b:Int)(s:ByteArray)(w:World)(_:Tabs w):Calls prog 72 #[V 2 a b s] w fun e w'=>e=.returned (.iface 135 (.int .i64 a))∧G w w':=by
 go_enter func72,ntmps72
 go_wp2
 go_ret
 exact⟨rfl,(G.refl _).alloc _⟩
theorem ik_3(a b:Int)(s:ByteArray)(hp:partB a=true)(hq:partB b=true)(w:World)(_:Tabs w):Calls prog 72 #[V 3 a b s] w fun e w'=>e=.returned (.iface 136 (.complex .f64 (fl a) (fl b)))∧G w w':=by
 have HA:Hid _:=isPart_any a;have HB:Hid _:=isPart_any b
 rw[hp] at HA
 rw[hq] at HB
 go_enter func72,ntmps72
 go_wp2_with fail
 refine(HA.out _).mono ?_
 rintro e w1 ⟨rfl,rfl⟩
 go_wp2_with fail
 refine(HB.out _).mono ?_
 rintro e w1 ⟨rfl,rfl⟩
 go_wp2
 go_ret
 exact⟨rfl,(G.refl _).alloc _⟩
theorem ik_3a(a b:Int)(s:ByteArray)(hp:partB a=false)(w:World)(_:Tabs w):Calls prog 72 #[V 3 a b s] w fun e w'=>e=.returned (.nilIface)∧G w w':=by
 have HA:Hid _:=isPart_any a
 rw[hp] at HA
 go_enter func72,ntmps72
 go_wp2_with fail
 refine(HA.out _).mono ?_
 rintro e w1 ⟨rfl,rfl⟩
 go_wp2
 go_ret
 exact⟨rfl,(G.refl _).alloc _⟩
theorem ik_3b(a b:Int)(s:ByteArray)(hp:partB a=true)(hq:partB b=false)(w:World)(_:Tabs w):Calls prog 72 #[V 3 a b s] w fun e w'=>e=.returned (.nilIface)∧G w w':=by
 have HA:Hid _:=isPart_any a;have HB:Hid _:=isPart_any b
 rw[hp] at HA
 rw[hq] at HB
 go_enter func72,ntmps72
 go_wp2_with fail
 refine(HA.out _).mono ?_
 rintro e w1 ⟨rfl,rfl⟩
 go_wp2_with fail
 refine(HB.out _).mono ?_
 rintro e w1 ⟨rfl,rfl⟩
 go_wp2
 go_ret
 exact⟨rfl,(G.refl _).alloc _⟩
theorem ik_4(a b:Int)(s:ByteArray)(hs:s.size≤32)(hv:validD s.data.toList=true)(w:World)(hT:Tabs w):Calls prog 72 #[V 4 a b s] w fun e w'=>e=.returned (.iface 137 (.string s))∧G w w':=by
 have HV:Hid (∀w,Tabs w→Calls prog 112 #[.string s] w fun e w'=>e=.returned (.bool (validD s.data.toList))∧G w w'):=fun w h=>valid_str s (by omega) w h
 rw[hv] at HV
 have h4:(s.size:Int)≤32:=by omega
 go_enter func72,ntmps72
 go_wp2_with fail
 refine(HV.out _ (by exact hT.G ((G.refl w).alloc _))).mono ?_
 rintro e w1 ⟨rfl,hb1⟩
 have hc':=G.cells hb1 (b:=w.heap.size) (f:=fun o=>[Value.int IntKind.i64 4,Value.int IntKind.i64 a,Value.int IntKind.i64 b,Value.string s][o]?) (by simp) (by simp)
 go_wp2
 go_ret
 exact⟨rfl,((G.refl w).alloc _).trans hb1⟩
theorem ik_4a(a b:Int)(s:ByteArray)(hs:s.size≤32)(hv:validD s.data.toList=false)(w:World)(hT:Tabs w):Calls prog 72 #[V 4 a b s] w fun e w'=>e=.returned (.nilIface)∧G w w':=by
 have HV:Hid (∀w,Tabs w→Calls prog 112 #[.string s] w fun e w'=>e=.returned (.bool (validD s.data.toList))∧G w w'):=fun w h=>valid_str s (by omega) w h
 rw[hv] at HV
 have h4:(s.size:Int)≤32:=by omega
 go_enter func72,ntmps72
 go_wp2_with fail
 refine(HV.out _ (by exact hT.G ((G.refl w).alloc _))).mono ?_
 rintro e w1 ⟨rfl,hb1⟩
 have hc':=G.cells hb1 (b:=w.heap.size) (f:=fun o=>[Value.int IntKind.i64 4,Value.int IntKind.i64 a,Value.int IntKind.i64 b,Value.string s][o]?) (by simp) (by simp)
 go_wp2
 go_ret
 exact⟨rfl,((G.refl w).alloc _).trans hb1⟩
theorem ik_4b(a b:Int)(s:ByteArray)(hs:¬s.size≤32)(w:World)(_:Tabs w):Calls prog 72 #[V 4 a b s] w fun e w'=>e=.returned (.nilIface)∧G w w':=by
 have h4:¬(s.size:Int)≤32:=by omega
 go_enter func72,ntmps72
 go_wp2
 go_ret
 exact⟨rfl,(G.refl _).alloc _⟩
theorem ik_5(a b:Int)(s:ByteArray)(h:(a != 0)=true)(w:World)(_:Tabs w):Calls prog 72 #[V 5 a b s] w fun e w'=>e=.returned (.iface 138 (.int .i64 a))∧G w w':=by
 go_enter func72,ntmps72
 go_wp2
 go_ret
 exact⟨rfl,(G.refl _).alloc _⟩
theorem ik_5a(a b:Int)(s:ByteArray)(h:(a != 0)=false)(w:World)(_:Tabs w):Calls prog 72 #[V 5 a b s] w fun e w'=>e=.returned (.nilIface)∧G w w':=by
 go_enter func72,ntmps72
 go_wp2
 go_ret
 exact⟨rfl,(G.refl _).alloc _⟩
theorem ik_6(a b:Int)(s:ByteArray)(h:(a != 0)=true)(w:World)(_:Tabs w):Calls prog 72 #[V 6 a b s] w fun e w'=>e=.returned (.iface 139 (.int .i64 a))∧G w w':=by
 go_enter func72,ntmps72
 go_wp2
 go_ret
 exact⟨rfl,(G.refl _).alloc _⟩
theorem ik_6a(a b:Int)(s:ByteArray)(h:(a != 0)=false)(w:World)(_:Tabs w):Calls prog 72 #[V 6 a b s] w fun e w'=>e=.returned (.nilIface)∧G w w':=by
 go_enter func72,ntmps72
 go_wp2
 go_ret
 exact⟨rfl,(G.refl _).alloc _⟩
theorem ik_no(k a b:Int)(s:ByteArray)(hk:k<0∨6<k)(w:World)(_:Tabs w):Calls prog 72 #[V k a b s] w fun e w'=>e=.returned (.nilIface)∧G w w':=by
 have n0:(k==0)=false:=by simp;omega
 have n1:(k==1)=false:=by simp;omega
 have n2:(k==2)=false:=by simp;omega
 have n3:(k==3)=false:=by simp;omega
 have n4:(k==4)=false:=by simp;omega
 have n5:(k==5)=false:=by simp;omega
 have n6:(k==6)=false:=by simp;omega
 clear hk
 go_enter func72,ntmps72
 go_wp2
 go_ret
 exact⟨rfl,(G.refl _).alloc _⟩
end
section
open Go.RowKit
theorem as_null_null(v:Value)(w:World):(Instr.typeAssert (.iface 110 v) 49 110 true).run prog w=.ok (.tuple #[v,.bool true]) w:=by kernel_rfl
theorem as_null_truth(v:Value)(w:World):(Instr.typeAssert (.iface 110 v) 49 111 true).run prog w=.ok (.tuple #[.bool false,.bool false]) w:=by kernel_rfl
theorem as_null_whole(v:Value)(w:World):(Instr.typeAssert (.iface 110 v) 49 135 true).run prog w=.ok (.tuple #[.int .i64 0,.bool false]) w:=by kernel_rfl
theorem as_null_cpx(v:Value)(w:World):(Instr.typeAssert (.iface 110 v) 49 136 true).run prog w=.ok (.tuple #[.complex .f64 0 0,.bool false]) w:=by kernel_rfl
theorem as_null_str(v:Value)(w:World):(Instr.typeAssert (.iface 110 v) 49 137 true).run prog w=.ok (.tuple #[.string E0,.bool false]) w:=by kernel_rfl
theorem as_null_node(v:Value)(w:World):(Instr.typeAssert (.iface 110 v) 49 138 true).run prog w=.ok (.tuple #[.int .i64 0,.bool false]) w:=by kernel_rfl
theorem as_null_edge(v:Value)(w:World):(Instr.typeAssert (.iface 110 v) 49 139 true).run prog w=.ok (.tuple #[.int .i64 0,.bool false]) w:=by kernel_rfl
theorem as_truth_null(v:Value)(w:World):(Instr.typeAssert (.iface 111 v) 49 110 true).run prog w=.ok (.tuple #[.agg #[],.bool false]) w:=by kernel_rfl
theorem as_truth_truth(v:Value)(w:World):(Instr.typeAssert (.iface 111 v) 49 111 true).run prog w=.ok (.tuple #[v,.bool true]) w:=by kernel_rfl
theorem as_truth_whole(v:Value)(w:World):(Instr.typeAssert (.iface 111 v) 49 135 true).run prog w=.ok (.tuple #[.int .i64 0,.bool false]) w:=by kernel_rfl
theorem as_truth_cpx(v:Value)(w:World):(Instr.typeAssert (.iface 111 v) 49 136 true).run prog w=.ok (.tuple #[.complex .f64 0 0,.bool false]) w:=by kernel_rfl
theorem as_truth_str(v:Value)(w:World):(Instr.typeAssert (.iface 111 v) 49 137 true).run prog w=.ok (.tuple #[.string E0,.bool false]) w:=by kernel_rfl
theorem as_truth_node(v:Value)(w:World):(Instr.typeAssert (.iface 111 v) 49 138 true).run prog w=.ok (.tuple #[.int .i64 0,.bool false]) w:=by kernel_rfl
theorem as_truth_edge(v:Value)(w:World):(Instr.typeAssert (.iface 111 v) 49 139 true).run prog w=.ok (.tuple #[.int .i64 0,.bool false]) w:=by kernel_rfl
theorem as_whole_null(v:Value)(w:World):(Instr.typeAssert (.iface 135 v) 49 110 true).run prog w=.ok (.tuple #[.agg #[],.bool false]) w:=by kernel_rfl
theorem as_whole_truth(v:Value)(w:World):(Instr.typeAssert (.iface 135 v) 49 111 true).run prog w=.ok (.tuple #[.bool false,.bool false]) w:=by kernel_rfl
theorem as_whole_whole(v:Value)(w:World):(Instr.typeAssert (.iface 135 v) 49 135 true).run prog w=.ok (.tuple #[v,.bool true]) w:=by kernel_rfl
theorem as_whole_cpx(v:Value)(w:World):(Instr.typeAssert (.iface 135 v) 49 136 true).run prog w=.ok (.tuple #[.complex .f64 0 0,.bool false]) w:=by kernel_rfl
theorem as_whole_str(v:Value)(w:World):(Instr.typeAssert (.iface 135 v) 49 137 true).run prog w=.ok (.tuple #[.string E0,.bool false]) w:=by kernel_rfl
theorem as_whole_node(v:Value)(w:World):(Instr.typeAssert (.iface 135 v) 49 138 true).run prog w=.ok (.tuple #[.int .i64 0,.bool false]) w:=by kernel_rfl
theorem as_whole_edge(v:Value)(w:World):(Instr.typeAssert (.iface 135 v) 49 139 true).run prog w=.ok (.tuple #[.int .i64 0,.bool false]) w:=by kernel_rfl
theorem as_cpx_null(v:Value)(w:World):(Instr.typeAssert (.iface 136 v) 49 110 true).run prog w=.ok (.tuple #[.agg #[],.bool false]) w:=by kernel_rfl
theorem as_cpx_truth(v:Value)(w:World):(Instr.typeAssert (.iface 136 v) 49 111 true).run prog w=.ok (.tuple #[.bool false,.bool false]) w:=by kernel_rfl
theorem as_cpx_whole(v:Value)(w:World):(Instr.typeAssert (.iface 136 v) 49 135 true).run prog w=.ok (.tuple #[.int .i64 0,.bool false]) w:=by kernel_rfl
theorem as_cpx_cpx(v:Value)(w:World):(Instr.typeAssert (.iface 136 v) 49 136 true).run prog w=.ok (.tuple #[v,.bool true]) w:=by kernel_rfl
theorem as_cpx_str(v:Value)(w:World):(Instr.typeAssert (.iface 136 v) 49 137 true).run prog w=.ok (.tuple #[.string E0,.bool false]) w:=by kernel_rfl
theorem as_cpx_node(v:Value)(w:World):(Instr.typeAssert (.iface 136 v) 49 138 true).run prog w=.ok (.tuple #[.int .i64 0,.bool false]) w:=by kernel_rfl
theorem as_cpx_edge(v:Value)(w:World):(Instr.typeAssert (.iface 136 v) 49 139 true).run prog w=.ok (.tuple #[.int .i64 0,.bool false]) w:=by kernel_rfl
theorem as_str_null(v:Value)(w:World):(Instr.typeAssert (.iface 137 v) 49 110 true).run prog w=.ok (.tuple #[.agg #[],.bool false]) w:=by kernel_rfl
theorem as_str_truth(v:Value)(w:World):(Instr.typeAssert (.iface 137 v) 49 111 true).run prog w=.ok (.tuple #[.bool false,.bool false]) w:=by kernel_rfl
theorem as_str_whole(v:Value)(w:World):(Instr.typeAssert (.iface 137 v) 49 135 true).run prog w=.ok (.tuple #[.int .i64 0,.bool false]) w:=by kernel_rfl
theorem as_str_cpx(v:Value)(w:World):(Instr.typeAssert (.iface 137 v) 49 136 true).run prog w=.ok (.tuple #[.complex .f64 0 0,.bool false]) w:=by kernel_rfl
theorem as_str_str(v:Value)(w:World):(Instr.typeAssert (.iface 137 v) 49 137 true).run prog w=.ok (.tuple #[v,.bool true]) w:=by kernel_rfl
theorem as_str_node(v:Value)(w:World):(Instr.typeAssert (.iface 137 v) 49 138 true).run prog w=.ok (.tuple #[.int .i64 0,.bool false]) w:=by kernel_rfl
theorem as_str_edge(v:Value)(w:World):(Instr.typeAssert (.iface 137 v) 49 139 true).run prog w=.ok (.tuple #[.int .i64 0,.bool false]) w:=by kernel_rfl
theorem as_node_null(v:Value)(w:World):(Instr.typeAssert (.iface 138 v) 49 110 true).run prog w=.ok (.tuple #[.agg #[],.bool false]) w:=by kernel_rfl
theorem as_node_truth(v:Value)(w:World):(Instr.typeAssert (.iface 138 v) 49 111 true).run prog w=.ok (.tuple #[.bool false,.bool false]) w:=by kernel_rfl
theorem as_node_whole(v:Value)(w:World):(Instr.typeAssert (.iface 138 v) 49 135 true).run prog w=.ok (.tuple #[.int .i64 0,.bool false]) w:=by kernel_rfl
theorem as_node_cpx(v:Value)(w:World):(Instr.typeAssert (.iface 138 v) 49 136 true).run prog w=.ok (.tuple #[.complex .f64 0 0,.bool false]) w:=by kernel_rfl
theorem as_node_str(v:Value)(w:World):(Instr.typeAssert (.iface 138 v) 49 137 true).run prog w=.ok (.tuple #[.string E0,.bool false]) w:=by kernel_rfl
theorem as_node_node(v:Value)(w:World):(Instr.typeAssert (.iface 138 v) 49 138 true).run prog w=.ok (.tuple #[v,.bool true]) w:=by kernel_rfl
theorem as_node_edge(v:Value)(w:World):(Instr.typeAssert (.iface 138 v) 49 139 true).run prog w=.ok (.tuple #[.int .i64 0,.bool false]) w:=by kernel_rfl
theorem as_edge_null(v:Value)(w:World):(Instr.typeAssert (.iface 139 v) 49 110 true).run prog w=.ok (.tuple #[.agg #[],.bool false]) w:=by kernel_rfl
theorem as_edge_truth(v:Value)(w:World):(Instr.typeAssert (.iface 139 v) 49 111 true).run prog w=.ok (.tuple #[.bool false,.bool false]) w:=by kernel_rfl
theorem as_edge_whole(v:Value)(w:World):(Instr.typeAssert (.iface 139 v) 49 135 true).run prog w=.ok (.tuple #[.int .i64 0,.bool false]) w:=by kernel_rfl
theorem as_edge_cpx(v:Value)(w:World):(Instr.typeAssert (.iface 139 v) 49 136 true).run prog w=.ok (.tuple #[.complex .f64 0 0,.bool false]) w:=by kernel_rfl
theorem as_edge_str(v:Value)(w:World):(Instr.typeAssert (.iface 139 v) 49 137 true).run prog w=.ok (.tuple #[.string E0,.bool false]) w:=by kernel_rfl
theorem as_edge_node(v:Value)(w:World):(Instr.typeAssert (.iface 139 v) 49 138 true).run prog w=.ok (.tuple #[.int .i64 0,.bool false]) w:=by kernel_rfl
theorem as_edge_edge(v:Value)(w:World):(Instr.typeAssert (.iface 139 v) 49 139 true).run prog w=.ok (.tuple #[v,.bool true]) w:=by kernel_rfl
end
end Go.Proofs.YthmdjhfbhbheeaaGreatDoor
