import Derived.Deep.MidRow
import Derived.Test.YthmdjhfbhbheeaaGreatDoorItemKinds
namespace Go.Proofs.YthmdjhfbhbheeaaGreatDoor
open Go.Proofs.Tryz
set_option maxHeartbeats 2000000
set_option maxRecDepth 100000
section
open Go.RowKit
theorem as_null_null(v:Value)(w:World):(Instr.typeAssert (.iface 110 v) 49 110 true).run prog w=.ok (.tuple #[v,.bool true]) w:=by kernel_rfl
theorem as_null_truth(v:Value)(w:World):(Instr.typeAssert (.iface 110 v) 49 111 true).run prog w=.ok (.tuple #[.bool false,.bool false]) w:=by kernel_rfl
theorem as_null_whole(v:Value)(w:World):(Instr.typeAssert (.iface 110 v) 49 135 true).run prog w=.ok (.tuple #[.int .i64 0,.bool false]) w:=by kernel_rfl
theorem as_null_cpx(v:Value)(w:World):(Instr.typeAssert (.iface 110 v) 49 136 true).run prog w=.ok (.tuple #[.complex .f64 0 0,.bool false]) w:=by kernel_rfl
theorem as_null_str(v:Value)(w:World):(Instr.typeAssert (.iface 110 v) 49 137 true).run prog w=.ok (.tuple #[.string E0,.bool false]) w:=by kernel_rfl
theorem as_null_node(v:Value)(w:World):(Instr.typeAssert (.iface 110 v) 49 138 true).run prog w=.ok (.tuple #[.int .i64 0,.bool false]) w:=by kernel_rfl
theorem as_null_edge(v:Value)(w:World):(Instr.typeAssert (.iface 110 v) 49 139 true).run prog w=.ok (.tuple #[.int .i64 0,.bool false]) w:=by kernel_rfl
theorem as_truth_null(v:Value)(w:World):(Instr.typeAssert (.iface 111 v) 49 110 true).run prog w=.ok (.tuple #[.agg #[],.bool false]) w:=by kernel_rfl
theorem as_truth_truth(v:Value)(w:World):(Instr.typeAssert (.iface 111 v) 49 111 true).run prog w=.ok (.tuple #[v,.bool true]) w:=by kernel_rfl
theorem as_truth_whole(v:Value)(w:World):(Instr.typeAssert (.iface 111 v) 49 135 true).run prog w=.ok (.tuple #[.int .i64 0,.bool false]) w:=by kernel_rfl
theorem as_truth_cpx(v:Value)(w:World):(Instr.typeAssert (.iface 111 v) 49 136 true).run prog w=.ok (.tuple #[.complex .f64 0 0,.bool false]) w:=by kernel_rfl
theorem as_truth_str(v:Value)(w:World):(Instr.typeAssert (.iface 111 v) 49 137 true).run prog w=.ok (.tuple #[.string E0,.bool false]) w:=by kernel_rfl
theorem as_truth_node(v:Value)(w:World):(Instr.typeAssert (.iface 111 v) 49 138 true).run prog w=.ok (.tuple #[.int .i64 0,.bool false]) w:=by kernel_rfl
theorem as_truth_edge(v:Value)(w:World):(Instr.typeAssert (.iface 111 v) 49 139 true).run prog w=.ok (.tuple #[.int .i64 0,.bool false]) w:=by kernel_rfl
theorem as_whole_null(v:Value)(w:World):(Instr.typeAssert (.iface 135 v) 49 110 true).run prog w=.ok (.tuple #[.agg #[],.bool false]) w:=by kernel_rfl
theorem as_whole_truth(v:Value)(w:World):(Instr.typeAssert (.iface 135 v) 49 111 true).run prog w=.ok (.tuple #[.bool false,.bool false]) w:=by kernel_rfl
theorem as_whole_whole(v:Value)(w:World):(Instr.typeAssert (.iface 135 v) 49 135 true).run prog w=.ok (.tuple #[v,.bool true]) w:=by kernel_rfl
theorem as_whole_cpx(v:Value)(w:World):(Instr.typeAssert (.iface 135 v) 49 136 true).run prog w=.ok (.tuple #[.complex .f64 0 0,.bool false]) w:=by kernel_rfl
theorem as_whole_str(v:Value)(w:World):(Instr.typeAssert (.iface 135 v) 49 137 true).run prog w=.ok (.tuple #[.string E0,.bool false]) w:=by kernel_rfl
theorem as_whole_node(v:Value)(w:World):(Instr.typeAssert (.iface 135 v) 49 138 true).run prog w=.ok (.tuple #[.int .i64 0,.bool false]) w:=by kernel_rfl
theorem as_whole_edge(v:Value)(w:World):(Instr.typeAssert (.iface 135 v) 49 139 true).run prog w=.ok (.tuple #[.int .i64 0,.bool false]) w:=by kernel_rfl
theorem as_cpx_null(v:Value)(w:World):(Instr.typeAssert (.iface 136 v) 49 110 true).run prog w=.ok (.tuple #[.agg #[],.bool false]) w:=by kernel_rfl
theorem as_cpx_truth(v:Value)(w:World):(Instr.typeAssert (.iface 136 v) 49 111 true).run prog w=.ok (.tuple #[.bool false,.bool false]) w:=by kernel_rfl
theorem as_cpx_whole(v:Value)(w:World):(Instr.typeAssert (.iface 136 v) 49 135 true).run prog w=.ok (.tuple #[.int .i64 0,.bool false]) w:=by kernel_rfl
theorem as_cpx_cpx(v:Value)(w:World):(Instr.typeAssert (.iface 136 v) 49 136 true).run prog w=.ok (.tuple #[v,.bool true]) w:=by kernel_rfl
theorem as_cpx_str(v:Value)(w:World):(Instr.typeAssert (.iface 136 v) 49 137 true).run prog w=.ok (.tuple #[.string E0,.bool false]) w:=by kernel_rfl
theorem as_cpx_node(v:Value)(w:World):(Instr.typeAssert (.iface 136 v) 49 138 true).run prog w=.ok (.tuple #[.int .i64 0,.bool false]) w:=by kernel_rfl
theorem as_cpx_edge(v:Value)(w:World):(Instr.typeAssert (.iface 136 v) 49 139 true).run prog w=.ok (.tuple #[.int .i64 0,.bool false]) w:=by kernel_rfl
theorem as_str_null(v:Value)(w:World):(Instr.typeAssert (.iface 137 v) 49 110 true).run prog w=.ok (.tuple #[.agg #[],.bool false]) w:=by kernel_rfl
theorem as_str_truth(v:Value)(w:World):(Instr.typeAssert (.iface 137 v) 49 111 true).run prog w=.ok (.tuple #[.bool false,.bool false]) w:=by kernel_rfl
theorem as_str_whole(v:Value)(w:World):(Instr.typeAssert (.iface 137 v) 49 135 true).run prog w=.ok (.tuple #[.int .i64 0,.bool false]) w:=by kernel_rfl
theorem as_str_cpx(v:Value)(w:World):(Instr.typeAssert (.iface 137 v) 49 136 true).run prog w=.ok (.tuple #[.complex .f64 0 0,.bool false]) w:=by kernel_rfl
theorem as_str_str(v:Value)(w:World):(Instr.typeAssert (.iface 137 v) 49 137 true).run prog w=.ok (.tuple #[v,.bool true]) w:=by kernel_rfl
theorem as_str_node(v:Value)(w:World):(Instr.typeAssert (.iface 137 v) 49 138 true).run prog w=.ok (.tuple #[.int .i64 0,.bool false]) w:=by kernel_rfl
theorem as_str_edge(v:Value)(w:World):(Instr.typeAssert (.iface 137 v) 49 139 true).run prog w=.ok (.tuple #[.int .i64 0,.bool false]) w:=by kernel_rfl
theorem as_node_null(v:Value)(w:World):(Instr.typeAssert (.iface 138 v) 49 110 true).run prog w=.ok (.tuple #[.agg #[],.bool false]) w:=by kernel_rfl
theorem as_node_truth(v:Value)(w:World):(Instr.typeAssert (.iface 138 v) 49 111 true).run prog w=.ok (.tuple #[.bool false,.bool false]) w:=by kernel_rfl
theorem as_node_whole(v:Value)(w:World):(Instr.typeAssert (.iface 138 v) 49 135 true).run prog w=.ok (.tuple #[.int .i64 0,.bool false]) w:=by kernel_rfl
theorem as_node_cpx(v:Value)(w:World):(Instr.typeAssert (.iface 138 v) 49 136 true).run prog w=.ok (.tuple #[.complex .f64 0 0,.bool false]) w:=by kernel_rfl
theorem as_node_str(v:Value)(w:World):(Instr.typeAssert (.iface 138 v) 49 137 true).run prog w=.ok (.tuple #[.string E0,.bool false]) w:=by kernel_rfl
theorem as_node_node(v:Value)(w:World):(Instr.typeAssert (.iface 138 v) 49 138 true).run prog w=.ok (.tuple #[v,.bool true]) w:=by kernel_rfl
theorem as_node_edge(v:Value)(w:World):(Instr.typeAssert (.iface 138 v) 49 139 true).run prog w=.ok (.tuple #[.int .i64 0,.bool false]) w:=by kernel_rfl
theorem as_edge_null(v:Value)(w:World):(Instr.typeAssert (.iface 139 v) 49 110 true).run prog w=.ok (.tuple #[.agg #[],.bool false]) w:=by kernel_rfl
theorem as_edge_truth(v:Value)(w:World):(Instr.typeAssert (.iface 139 v) 49 111 true).run prog w=.ok (.tuple #[.bool false,.bool false]) w:=by kernel_rfl
theorem as_edge_whole(v:Value)(w:World):(Instr.typeAssert (.iface 139 v) 49 135 true).run prog w=.ok (.tuple #[.int .i64 0,.bool false]) w:=by kernel_rfl
theorem as_edge_cpx(v:Value)(w:World):(Instr.typeAssert (.iface 139 v) 49 136 true).run prog w=.ok (.tuple #[.complex .f64 0 0,.bool false]) w:=by kernel_rfl
theorem as_edge_str(v:Value)(w:World):(Instr.typeAssert (.iface 139 v) 49 137 true).run prog w=.ok (.tuple #[.string E0,.bool false]) w:=by kernel_rfl
theorem as_edge_node(v:Value)(w:World):(Instr.typeAssert (.iface 139 v) 49 138 true).run prog w=.ok (.tuple #[.int .i64 0,.bool false]) w:=by kernel_rfl
theorem as_edge_edge(v:Value)(w:World):(Instr.typeAssert (.iface 139 v) 49 139 true).run prog w=.ok (.tuple #[v,.bool true]) w:=by kernel_rfl
end
section
open Go.RowKit Go.Lib Go.Shelf
def itemV(k a b:Int)(s:ByteArray):Value:=
 if okV k a b s=false then .nilIface
 else if k=0 then .iface 110 (.agg #[])
 else if k=1 then .iface 111 (.bool (a==1))
 else if k=2 then .iface 135 (.int .i64 a)
 else if k=3 then .iface 136 (.complex .f64 (fl a) (fl b))
 else if k=4 then .iface 137 (.string s)
 else if k=5 then .iface 138 (.int .i64 a)
 else .iface 139 (.int .i64 a)
theorem empty_list(s:ByteArray):(E0.toList==s.toList)=s.toList.isEmpty:=by
 have:E0.toList=[]:=by simp[ByteArray.toList_eq]
 rw[this]
 cases s.toList<;>rfl
theorem beq_flip(a b:Int):(a==b)=(b==a):=by
 rw[Bool.eq_iff_iff,beq_iff_eq,beq_iff_eq]
 exact⟨Eq.symm,Eq.symm⟩
def ItemOf(k a b:Int)(s:ByteArray):Prop:=∀w,Tabs w→Calls prog 25 #[V k a b s] w fun e w'=>e=.returned (.tuple #[itemV k a b s,.bool (okV k a b s)])∧G w w'
theorem ItemOf.yes{k a b:Int}{s:ByteArray}{x:Value}(ho:okV k a b s=true)(hx:itemV k a b s=x)(h:∀w,Tabs w→Calls prog 25 #[V k a b s] w fun e w'=>e=.returned (.tuple #[x,.bool true])∧G w w'):ItemOf k a b s:=by
 intro w hT;rw[ho,hx];exact h w hT
theorem ItemOf.no{k a b:Int}{s:ByteArray}(ho:okV k a b s=false)(h:∀w,Tabs w→Calls prog 25 #[V k a b s] w fun e w'=>e=.returned (.tuple #[.nilIface,.bool false])∧G w w'):ItemOf k a b s:=by
 intro w hT
 have:itemV k a b s=.nilIface:=by unfold itemV;rw[if_pos ho]
 rw[ho,this];exact h w hT
theorem partB_iff(n:Int):partB n=true↔-33554432≤n∧n≤33554432:=by unfold partB;simp
theorem itemOf_any(k a b:Int)(s:ByteArray):ItemOf k a b s:=by
 by_cases hk:k<0∨6<k
 ·refine ItemOf.no ?_ (it_nil k a b s (ik_no k a b s hk))
  unfold okV
  rw[if_neg (by omega),if_neg (by omega),if_neg (by omega),if_neg (by omega),if_neg (by omega),if_neg (by omega)]
 have:k=0∨k=1∨k=2∨k=3∨k=4∨k=5∨k=6:=by omega
 rcases this with rfl|rfl|rfl|rfl|rfl|rfl|rfl
 ·have e:((((0:Int)==0)&&((0:Int)==a)&&((0:Int)==b)&&(E0.toList==s.toList)))=okV 0 a b s:=by
   rw[empty_list,beq_flip 0 a,beq_flip 0 b];simp[okV]
  cases h:okV 0 a b s
  ·exact ItemOf.no h (it_null_no 0 a b s (e.trans h) (ik_0 a b s))
  ·exact ItemOf.yes h (by simp[itemV,h]) (it_null_yes 0 a b s (e.trans h) (ik_0 a b s))
 ·by_cases h1:a=1
  ·subst h1
   have e:((((1:Int)==1)&&((1:Int)==1)&&((0:Int)==b)&&(E0.toList==s.toList)))=okV 1 1 b s:=by
    rw[empty_list,beq_flip 0 b];simp[okV]
   have hk1:∀w,Tabs w→Calls prog 72 #[V 1 1 b s] w fun e w'=>e=.returned (.iface 111 (.bool true))∧G w w':=ik_1 1 b s
   cases h:okV 1 1 b s
   ·exact ItemOf.no h (it_tt_no 1 1 b s (e.trans h) hk1)
   ·exact ItemOf.yes h (by simp[itemV,h]) (it_tt_yes 1 1 b s (e.trans h) hk1)
  ·have f1:(a==1)=false:=by simpa using h1
   have e:((((1:Int)==1)&&((0:Int)==a)&&((0:Int)==b)&&(E0.toList==s.toList)))=okV 1 a b s:=by
    rw[empty_list,beq_flip 0 a,beq_flip 0 b];simp[okV,f1]
   have hk1:∀w,Tabs w→Calls prog 72 #[V 1 a b s] w fun e w'=>e=.returned (.iface 111 (.bool false))∧G w w':=by
    have:=ik_1 a b s
    rw[f1] at this;exact this
   cases h:okV 1 a b s
   ·exact ItemOf.no h (it_ff_no 1 a b s (e.trans h) hk1)
   ·exact ItemOf.yes h (by simp[itemV,h,h1]) (it_ff_yes 1 a b s (e.trans h) hk1)
 ·have e:((((2:Int)==2)&&((a:Int)==a)&&((0:Int)==b)&&(E0.toList==s.toList)))=okV 2 a b s:=by
   rw[empty_list,beq_flip 0 b];simp[okV]
  cases h:okV 2 a b s
  ·exact ItemOf.no h (it_whole_no a 2 a b s (e.trans h) (ik_2 a b s))
  ·exact ItemOf.yes h (by simp[itemV,h]) (it_whole_yes a 2 a b s (e.trans h) (ik_2 a b s))
 ·cases hp:partB a
  ·exact ItemOf.no (by simp[okV,hp]) (it_nil 3 a b s (ik_3a a b s hp))
  ·cases hq:partB b
   ·exact ItemOf.no (by simp[okV,hq]) (it_nil 3 a b s (ik_3b a b s hp hq))
   ·have pa:=(partB_iff a).1 hp;have pb:=(partB_iff b).1 hq
    have e:((((3:Int)==3)&&((a:Int)==a)&&((b:Int)==b)&&(E0.toList==s.toList)))=okV 3 a b s:=by
     rw[empty_list];simp[okV,hp,hq]
    cases h:okV 3 a b s
    ·exact ItemOf.no h (it_cpx_no (fl a) (fl b) a b (Fl.ofInt a (by omega)) (Fl.ofInt b (by omega)) (by omega) (by omega) 3 a b s (e.trans h) (ik_3 a b s hp hq))
    ·exact ItemOf.yes h (by simp[itemV,h]) (it_cpx_yes (fl a) (fl b) a b (Fl.ofInt a (by omega)) (Fl.ofInt b (by omega)) (by omega) (by omega) 3 a b s (e.trans h) (ik_3 a b s hp hq))
 ·by_cases hs:s.size≤32
  ·cases hv:validD s.data.toList
   ·exact ItemOf.no (by simp[okV,hv]) (it_nil 4 a b s (ik_4a a b s hs hv))
   ·have e:((((4:Int)==4)&&((0:Int)==a)&&((0:Int)==b)&&(s.toList==s.toList)))=okV 4 a b s:=by
     rw[beq_flip 0 a,beq_flip 0 b];simp[okV,hs,hv]
    cases h:okV 4 a b s
    ·exact ItemOf.no h (it_str_no s 4 a b s (e.trans h) (ik_4 a b s hs hv))
    ·exact ItemOf.yes h (by simp[itemV,h]) (it_str_yes s 4 a b s (e.trans h) (ik_4 a b s hs hv))
  ·exact ItemOf.no (by simp[okV,hs]) (it_nil 4 a b s (ik_4b a b s hs))
 ·cases hz:(a != 0)
  ·exact ItemOf.no (by simp[okV,hz]) (it_nil 5 a b s (ik_5a a b s hz))
  ·have e:((((5:Int)==5)&&((a:Int)==a)&&((0:Int)==b)&&(E0.toList==s.toList)))=okV 5 a b s:=by
    rw[empty_list,beq_flip 0 b];simp[okV,hz]
   cases h:okV 5 a b s
   ·exact ItemOf.no h (it_node_no a 5 a b s (e.trans h) (ik_5 a b s hz))
   ·exact ItemOf.yes h (by simp[itemV,h]) (it_node_yes a 5 a b s (e.trans h) (ik_5 a b s hz))
 ·cases hz:(a != 0)
  ·exact ItemOf.no (by simp[okV,hz]) (it_nil 6 a b s (ik_6a a b s hz))
  ·have e:((((6:Int)==6)&&((a:Int)==a)&&((0:Int)==b)&&(E0.toList==s.toList)))=okV 6 a b s:=by
    rw[empty_list,beq_flip 0 b];simp[okV,hz]
   cases h:okV 6 a b s
   ·exact ItemOf.no h (it_edge_no a 6 a b s (e.trans h) (ik_6 a b s hz))
   ·exact ItemOf.yes h (by simp[itemV,h]) (it_edge_yes a 6 a b s (e.trans h) (ik_6 a b s hz))
theorem Valid_any(k a b:Int)(s:ByteArray)(w:World)(hT:Tabs w):Calls prog 30 #[V k a b s] w fun e w'=>e=.returned (.bool (okV k a b s))∧G w w':=by
 have HI:Hid (∀w,Tabs w→Calls prog 25 #[V k a b s] w fun e w'=>e=.returned (.tuple #[itemV k a b s,.bool (okV k a b s)])∧G w w'):=itemOf_any k a b s
 generalize itemV k a b s=x at HI
 generalize okV k a b s=q at HI⊢
 go_enter func30,ntmps30
 go_wp2_with fail
 refine(HI.out _ (by exact hT.G ((G.refl w).alloc _))).mono ?_
 rintro e w1 ⟨rfl,hb1⟩
 go_wp2
 go_ret
 exact⟨rfl,((G.refl w).alloc _).trans hb1⟩
end
section
open Go.RowKit Go.PlainAid Go.Lib Go.Shelf
attribute [local go_sem] as_null_null as_null_truth as_null_whole as_null_cpx as_null_str as_null_node as_null_edge as_truth_null as_truth_truth as_truth_whole as_truth_cpx as_truth_str as_truth_node as_truth_edge as_whole_null as_whole_truth as_whole_whole as_whole_cpx as_whole_str as_whole_node as_whole_edge as_cpx_null as_cpx_truth as_cpx_whole as_cpx_cpx as_cpx_str as_cpx_node as_cpx_edge as_str_null as_str_truth as_str_whole as_str_cpx as_str_str as_str_node as_str_edge as_node_null as_node_truth as_node_whole as_node_cpx as_node_str as_node_node as_node_edge as_edge_null as_edge_truth as_edge_whole as_edge_cpx as_edge_str as_edge_node as_edge_edge
theorem stx_null(u:Value)(w:World):Calls prog 75 #[.iface 110 u] w fun e w'=>e=.returned (.bool false)∧G w w':=by
 go_enter func75,ntmps75
 go_wp2
 go_ret
 exact⟨rfl,by repeat(first|exact G.refl _|refine G.alloc ?_ _|refine G.setCell ?_ (by simp) _)⟩
theorem stx_truth(u:Value)(w:World):Calls prog 75 #[.iface 111 u] w fun e w'=>e=.returned (.bool true)∧G w w':=by
 go_enter func75,ntmps75
 go_wp2
 go_ret
 exact⟨rfl,by repeat(first|exact G.refl _|refine G.alloc ?_ _|refine G.setCell ?_ (by simp) _)⟩
theorem stx_whole(u:Value)(w:World):Calls prog 75 #[.iface 135 u] w fun e w'=>e=.returned (.bool true)∧G w w':=by
 go_enter func75,ntmps75
 go_wp2
 go_ret
 exact⟨rfl,by repeat(first|exact G.refl _|refine G.alloc ?_ _|refine G.setCell ?_ (by simp) _)⟩
theorem stx_cpx(u:Value)(w:World):Calls prog 75 #[.iface 136 u] w fun e w'=>e=.returned (.bool true)∧G w w':=by
 go_enter func75,ntmps75
 go_wp2
 go_ret
 exact⟨rfl,by repeat(first|exact G.refl _|refine G.alloc ?_ _|refine G.setCell ?_ (by simp) _)⟩
theorem stx_str(u:Value)(w:World):Calls prog 75 #[.iface 137 u] w fun e w'=>e=.returned (.bool true)∧G w w':=by
 go_enter func75,ntmps75
 go_wp2
 go_ret
 exact⟨rfl,by repeat(first|exact G.refl _|refine G.alloc ?_ _|refine G.setCell ?_ (by simp) _)⟩
theorem stx_node(u:Value)(w:World):Calls prog 75 #[.iface 138 u] w fun e w'=>e=.returned (.bool false)∧G w w':=by
 go_enter func75,ntmps75
 go_wp2
 go_ret
 exact⟨rfl,by repeat(first|exact G.refl _|refine G.alloc ?_ _|refine G.setCell ?_ (by simp) _)⟩
theorem stx_edge(u:Value)(w:World):Calls prog 75 #[.iface 139 u] w fun e w'=>e=.returned (.bool false)∧G w w':=by
 go_enter func75,ntmps75
 go_wp2
 go_ret
 exact⟨rfl,by repeat(first|exact G.refl _|refine G.alloc ?_ _|refine G.setCell ?_ (by simp) _)⟩
def stoV(k a b:Int)(s:ByteArray):Bool:=okV k a b s&&(decide (1≤k)&&decide (k≤4))
theorem okV_kind(k a b:Int)(s:ByteArray)(h:okV k a b s=true):0≤k∧k≤6:=by
 by_cases hk:0≤k∧k≤6
 ·exact hk
 ·exfalso
  unfold okV at h
  rw[if_neg (by omega),if_neg (by omega),if_neg (by omega),if_neg (by omega),if_neg (by omega),if_neg (by omega)] at h
  exact Bool.noConfusion h
theorem stx_any(k a b:Int)(s:ByteArray)(h:okV k a b s=true)(w:World):Calls prog 75 #[itemV k a b s] w fun e w'=>e=.returned (.bool (stoV k a b s))∧G w w':=by
 have hk:=okV_kind k a b s h
 have:k=0∨k=1∨k=2∨k=3∨k=4∨k=5∨k=6:=by omega
 unfold itemV stoV
 rw[h]
 rcases this with rfl|rfl|rfl|rfl|rfl|rfl|rfl
 ·exact stx_null _ w
 ·exact stx_truth _ w
 ·exact stx_whole _ w
 ·exact stx_cpx _ w
 ·exact stx_str _ w
 ·exact stx_node _ w
 ·exact stx_edge _ w
theorem Storable_any(k a b:Int)(s:ByteArray)(w:World)(hT:Tabs w):Calls prog 31 #[V k a b s] w fun e w'=>e=.returned (.bool (stoV k a b s))∧G w w':=by
 have HI:Hid (∀w,Tabs w→Calls prog 25 #[V k a b s] w fun e w'=>e=.returned (.tuple #[itemV k a b s,.bool (okV k a b s)])∧G w w'):=itemOf_any k a b s
 have HS:Hid (okV k a b s=true→∀w,Calls prog 75 #[itemV k a b s] w fun e w'=>e=.returned (.bool (stoV k a b s))∧G w w'):=fun h=>stx_any k a b s h
 have HN:Hid (okV k a b s=false→stoV k a b s=false):=fun h=>by unfold stoV;rw[h];rfl
 generalize itemV k a b s=x at HI HS
 generalize okV k a b s=q at HI HS HN
 generalize stoV k a b s=t at HS HN⊢
 go_enter func31,ntmps31
 go_wp2_with fail
 refine(HI.out _ (by exact hT.G ((G.refl w).alloc _))).mono ?_
 rintro e w1 ⟨rfl,hb1⟩
 cases q
 ·have h:=HN.out rfl
  subst h
  go_wp2
  go_ret
  exact⟨rfl,((G.refl w).alloc _).trans hb1⟩
 ·go_wp2_with fail
  refine(HS.out (by first|rfl|trivial) _).mono ?_
  rintro e w2 ⟨rfl,hb2⟩
  go_wp2
  go_ret
  exact⟨rfl,(((G.refl w).alloc _).trans hb1).trans hb2⟩
theorem rst_any(k a b:Int)(s:ByteArray)(hs:s.size≤4611686018427387904)(w:World):Calls prog 32 #[V k a b s] w fun e w'=>e=.returned (.bool (stoV k a b s))∧G w w':=by
 have HI:Hid (∀w,Calls prog 26 #[V k a b s] w fun e w'=>e=.returned (.bool (okV k a b s))∧G w w'):=rv_any k a b s hs
 unfold stoV
 generalize okV k a b s=q at HI⊢
 go_enter func32,ntmps32
 go_wp2_with fail
 refine(HI.out _).mono ?_
 rintro e w1 ⟨rfl,hb1⟩
 have hc':=G.cells hb1 (b:=w.heap.size) (f:=fun o=>[Value.int IntKind.i64 k,Value.int IntKind.i64 a,Value.int IntKind.i64 b,Value.string s][o]?) (by simp) (by simp)
 cases q
 ·go_wp2
  go_ret
  exact⟨ret_b (by simp),((G.refl w).alloc _).trans hb1⟩
 ·by_cases h1:1≤k
  ·go_wp2
   all_goals (go_ret;exact⟨ret_b (by simp[*]),((G.refl w).alloc _).trans hb1⟩)
  ·have h':decide (1≤k)=false:=by simp;omega
   go_wp2
   all_goals (go_ret;exact⟨ret_b (by simp[*]),((G.refl w).alloc _).trans hb1⟩)
def chP(x:Int):Prop:=(97≤x∧x≤122)∨(48≤x∧x≤57)
def NameP(s:ByteArray):Prop:=1≤s.size∧s.size≤8∧97≤bt s 0∧∀j,j<s.size→chP (bt s j)
noncomputable def nameB(s:ByteArray):Bool:=@decide (NameP s) (Classical.propDecidable _)
theorem nameB_yes{s:ByteArray}(h:NameP s):Ending.returned (.bool true)=.returned (.bool (nameB s)):=by
 have:nameB s=true:=@decide_eq_true _ (Classical.propDecidable _) h
 rw[this]
theorem nameB_no{s:ByteArray}(h:¬NameP s):Ending.returned (.bool false)=.returned (.bool (nameB s)):=by
 have:nameB s=false:=@decide_eq_false _ (Classical.propDecidable _) h
 rw[this]
theorem nameB_true{s:ByteArray}(h:nameB s=true):NameP s:=@of_decide_eq_true _ (Classical.propDecidable _) h
theorem nameB_iff(s:ByteArray):nameB s=true↔NameP s:=⟨nameB_true,@decide_eq_true _ (Classical.propDecidable _)⟩
theorem rnm_any(s:ByteArray)(w:World):Calls prog 34 #[.string s] w fun e w'=>e=.returned (.bool (nameB s))∧w'=w:=by
 have hb:=get_bt s
 by_cases h:1≤s.size∧s.size≤8∧97≤bt s 0
 ·obtain⟨h1,h2,h3⟩:=h
  have h0:=bt_le s 0
  go_enter func34,ntmps34
  go_wp2
  go_loop [3] (fun i=>∃n:Nat,n≤s.size∧i=.int .i64 n∧∀j,j<n→chP (bt s j)) (fun i=>s.size-(RowKit.intOf i).toNat)
  case atStart=>exact⟨0,Nat.zero_le _,rfl,fun j hj=>absurd hj (Nat.not_lt_zero j)⟩
  case round=>
   obtain⟨n,hn,rfl,hv⟩:=hrel
   have HV:Hid (∀j,j<n→chP (bt s j)):=hv
   clear hv
   by_cases hlt:n<s.size
   ·have hI:(n:Int)<(s.size:Int):=by omega
    have x0:=bt_nonneg s n
    have x1:=bt_le s n
    by_cases hc:chP (bt s n)
    ·have HC:Hid (chP (bt s n)):=hc
     rcases hc with ⟨c1,c2⟩|⟨c1,c2⟩
     all_goals
      go_wp2
      go_round
      case rel=>exact⟨n+1,by omega,by go_num,fun j hj=>by
       rcases Nat.lt_succ_iff_lt_or_eq.1 hj with h|h
       ·exact HV.out j h
       ·rw[h];exact HC.out⟩
      case measure=>simp[RowKit.intOf];omega
    ·have HC:Hid (¬chP (bt s n)):=hc
     unfold chP at hc
     by_cases c1:97≤bt s n
     ·have c2:¬bt s n≤122:=by omega
      have c3:48≤bt s n:=by omega
      have c4:¬bt s n≤57:=by omega
      go_wp2
      go_ret
      exact⟨nameB_no (fun h=>HC.out (h.2.2.2 n hlt)),rfl⟩
     ·by_cases c2:48≤bt s n
      ·have c3:¬bt s n≤57:=by omega
       go_wp2
       go_ret
       exact⟨nameB_no (fun h=>HC.out (h.2.2.2 n hlt)),rfl⟩
      ·go_wp2
       go_ret
       exact⟨nameB_no (fun h=>HC.out (h.2.2.2 n hlt)),rfl⟩
   ·have hI:¬(n:Int)<(s.size:Int):=by omega
    go_wp2
    go_ret
    exact⟨nameB_yes ⟨h1,h2,h3,fun j hj=>HV.out j (by omega)⟩,rfl⟩
 ·have HN:Hid (¬NameP s):=fun hh=>h ⟨hh.1,hh.2.1,hh.2.2.1⟩
  by_cases h1:1≤s.size
  ·by_cases h2:s.size≤8
   ·have h3:¬97≤bt s 0:=fun h3=>h ⟨h1,h2,h3⟩
    clear h
    have x0:=bt_nonneg s 0
    go_enter func34,ntmps34
    go_wp2
    go_ret
    exact⟨nameB_no HN.out,rfl⟩
   ·clear h
    go_enter func34,ntmps34
    go_wp2
    go_ret
    exact⟨nameB_no HN.out,rfl⟩
  ·clear h
   go_enter func34,ntmps34
   go_wp2
   go_ret
   exact⟨nameB_no HN.out,rfl⟩
theorem isLetter_yes(n:Int)(h1:97≤n)(h2:n≤122)(w:World):Calls prog 76 #[.int .u8 n] w fun e w'=>e=.returned (.bool true)∧w'=w:=by
 go_enter func76,ntmps76
 go_wp2
 go_ret
 exact⟨rfl,rfl⟩
theorem isLetter_no(n:Int)(h0:0≤n)(h255:n≤255)(h:n<97∨122<n)(w:World):Calls prog 76 #[.int .u8 n] w fun e w'=>e=.returned (.bool false)∧w'=w:=by
 by_cases h1:97≤n
 ·have h2:¬n≤122:=by omega
  clear h
  go_enter func76,ntmps76
  go_wp2
  go_ret
  exact⟨rfl,rfl⟩
 ·clear h
  go_enter func76,ntmps76
  go_wp2
  go_ret
  exact⟨rfl,rfl⟩
theorem isDigit_yes(n:Int)(h1:48≤n)(h2:n≤57)(w:World):Calls prog 77 #[.int .u8 n] w fun e w'=>e=.returned (.bool true)∧w'=w:=by
 go_enter func77,ntmps77
 go_wp2
 go_ret
 exact⟨rfl,rfl⟩
theorem isDigit_no(n:Int)(h0:0≤n)(h255:n≤255)(h:n<48∨57<n)(w:World):Calls prog 77 #[.int .u8 n] w fun e w'=>e=.returned (.bool false)∧w'=w:=by
 by_cases h1:48≤n
 ·have h2:¬n≤57:=by omega
  clear h
  go_enter func77,ntmps77
  go_wp2
  go_ret
  exact⟨rfl,rfl⟩
 ·clear h
  go_enter func77,ntmps77
  go_wp2
  go_ret
  exact⟨rfl,rfl⟩
theorem Name_any(s:ByteArray)(w:World):Calls prog 33 #[.string s] w fun e w'=>e=.returned (.bool (nameB s))∧w'=w:=by
 have hb:=get_bt s
 by_cases h:1≤s.size∧s.size≤8
 ·obtain⟨h1,h2⟩:=h
  have h0:=bt_nonneg s 0
  have h00:=bt_le s 0
  by_cases h3:97≤bt s 0∧bt s 0≤122
  ·have HL:Hid _:=isLetter_yes (bt s 0) h3.1 h3.2
   obtain⟨h3,_⟩:=h3
   go_enter func33,ntmps33
   go_wp2_with fail
   refine(HL.out _).mono ?_
   rintro e w1 ⟨rfl,rfl⟩
   go_wp2
   go_loop [3,20] (fun _ i=>∃n:Nat,n≤s.size∧i=.int .i64 n∧∀j,j<n→chP (bt s j)) (fun _ i=>s.size-(RowKit.intOf i).toNat)
   case atStart=>exact⟨0,Nat.zero_le _,rfl,fun j hj=>absurd hj (Nat.not_lt_zero j)⟩
   case round=>
    obtain⟨n,hn,rfl,hv⟩:=hrel
    have HV:Hid (∀j,j<n→chP (bt s j)):=hv
    clear hv
    by_cases hlt:n<s.size
    ·have hI:(n:Int)<(s.size:Int):=by omega
     have x0:=bt_nonneg s n
     have x1:=bt_le s n
     by_cases c1:97≤bt s n∧bt s n≤122
     ·have HC:Hid (chP (bt s n)):=Or.inl c1
      have HX:Hid _:=isLetter_yes (bt s n) c1.1 c1.2
      clear c1
      go_wp2_with fail
      refine(HX.out _).mono ?_
      rintro e w1 ⟨rfl,rfl⟩
      go_wp2
      go_round
      case rel=>exact⟨n+1,by omega,by go_num,fun j hj=>by
       rcases Nat.lt_succ_iff_lt_or_eq.1 hj with h|h
       ·exact HV.out j h
       ·rw[h];exact HC.out⟩
      case measure=>simp[RowKit.intOf];omega
     ·have HX:Hid _:=isLetter_no (bt s n) x0 x1 (by omega)
      by_cases c2:48≤bt s n∧bt s n≤57
      ·have HC:Hid (chP (bt s n)):=Or.inr c2
       have HY:Hid _:=isDigit_yes (bt s n) c2.1 c2.2
       clear c1 c2
       go_wp2_with fail
       refine(HX.out _).mono ?_
       rintro e w1 ⟨rfl,rfl⟩
       go_wp2_with fail
       refine(HY.out _).mono ?_
       rintro e w1 ⟨rfl,rfl⟩
       go_wp2
       go_round
       case rel=>exact⟨n+1,by omega,by go_num,fun j hj=>by
        rcases Nat.lt_succ_iff_lt_or_eq.1 hj with h|h
        ·exact HV.out j h
        ·rw[h];exact HC.out⟩
       case measure=>simp[RowKit.intOf];omega
      ·have HC:Hid (¬chP (bt s n)):=fun h=>h.elim c1 c2
       have HY:Hid _:=isDigit_no (bt s n) x0 x1 (by omega)
       clear c1 c2
       go_wp2_with fail
       refine(HX.out _).mono ?_
       rintro e w1 ⟨rfl,rfl⟩
       go_wp2_with fail
       refine(HY.out _).mono ?_
       rintro e w1 ⟨rfl,rfl⟩
       go_wp2
       go_ret
       exact⟨nameB_no (fun h=>HC.out (h.2.2.2 n hlt)),rfl⟩
    ·have hI:¬(n:Int)<(s.size:Int):=by omega
     go_wp2
     go_ret
     exact⟨nameB_yes ⟨h1,h2,h3,fun j hj=>HV.out j (by omega)⟩,rfl⟩
  ·have HL:Hid _:=isLetter_no (bt s 0) h0 h00 (by omega)
   have HN:Hid (¬NameP s):=fun hh=>by
    have:=hh.2.2.2 0 (by omega)
    have:=hh.2.2.1
    unfold chP at *
    omega
   clear h3
   go_enter func33,ntmps33
   go_wp2_with fail
   refine(HL.out _).mono ?_
   rintro e w1 ⟨rfl,rfl⟩
   go_wp2
   go_ret
   exact⟨nameB_no HN.out,rfl⟩
 ·have HN:Hid (¬NameP s):=fun hh=>h ⟨hh.1,hh.2.1⟩
  by_cases h1:1≤s.size
  ·have h2:¬s.size≤8:=fun h2=>h ⟨h1,h2⟩
   clear h
   go_enter func33,ntmps33
   go_wp2
   go_ret
   exact⟨nameB_no HN.out,rfl⟩
  ·clear h
   go_enter func33,ntmps33
   go_wp2
   go_ret
   exact⟨nameB_no HN.out,rfl⟩
end
section
open Go.RowKit Go.PlainAid Go.Lib Go.Shelf
structure Ent where
 kind:Int
 op:Int
 k:Int
 a:Int
 b:Int
 s:ByteArray
 k':Int
 a':Int
 b':Int
 s':ByteArray
 vs:Value
 st:ByteArray
 tt:ByteArray
 bb:Value
 n:Int
 x:Int
 y:Int
 o1:Int
 o2:Int
abbrev Ent.L(e:Ent):List Value:=[I e.kind,I e.op,I e.k,I e.a,I e.b,.string e.s,I e.k',I e.a',I e.b',.string e.s',e.vs,.string e.st,.string e.tt,e.bb,I e.n,I e.x,I e.y,I e.o1,I e.o2]
abbrev Ent.V(e:Ent):Value:=.agg #[I e.kind,I e.op,I e.k,I e.a,I e.b,.string e.s,I e.k',I e.a',I e.b',.string e.s',e.vs,.string e.st,.string e.tt,e.bb,I e.n,I e.x,I e.y,I e.o1,I e.o2]
theorem keepC{w W W':World}{b:Nat}{f:Nat→Option Value}(hb:G W W')(h:(∀o,W.cell? ⟨b,o,none⟩=f o)∧G w W∧b<W.heap.size):(∀o,W'.cell? ⟨b,o,none⟩=f o)∧G w W'∧b<W'.heap.size:=keepG h.1 h.2.1 h.2.2 hb
theorem neq_same(q:Bool)(w:World):(binOp .neq 4 (.bool q) (.bool q)).run prog w=.ok (.bool false) w:=by
 cases q<;>simp[go_sem]
theorem eql_same(q:Bool)(w:World):(binOp .eql 4 (.bool q) (.bool q)).run prog w=.ok (.bool true) w:=by
 cases q<;>simp[go_sem]
theorem forms_any(e:Ent)(hs:e.s.size≤4611686018427387904)(w:World)(hT:Tabs w):Calls prog 13 #[e.V] w fun r w'=>r=.returned (.bool true)∧G w w':=by
 obtain⟨kind,op,k,a,b,s,k',a',b',s',vs,st,tt,bb,n,x,y,o1,o2⟩:=e
 have H1:Hid _:=Valid_any k a b s
 have H2:Hid _:=rv_any k a b s hs
 have H3:Hid _:=Storable_any k a b s
 have H4:Hid _:=rst_any k a b s hs
 have H5:Hid _:=Name_any st
 have H6:Hid _:=rnm_any st
 generalize okV k a b s=q1 at H1 H2
 generalize stoV k a b s=q2 at H3 H4
 generalize nameB st=q3 at H5 H6
 have n1:=neq_same q1
 have n2:=neq_same q2
 have n3:=eql_same q3
 have hc0:∀o,(w.alloc (.cells #[I kind,I op,I k,I a,I b,.string s,I k',I a',I b',.string s',vs,.string st,.string tt,bb,I n,I x,I y,I o1,I o2] 35)).cell? {block:=w.heap.size,off:=o}=[I kind,I op,I k,I a,I b,.string s,I k',I a',I b',.string s',vs,.string st,.string tt,bb,I n,I x,I y,I o1,I o2][o]?:=fun o=>by simp
 have hg0:G w (w.alloc (.cells #[I kind,I op,I k,I a,I b,.string s,I k',I a',I b',.string s',vs,.string st,.string tt,bb,I n,I x,I y,I o1,I o2] 35)):=(G.refl w).alloc _
 have hz0:w.heap.size<(w.alloc (.cells #[I kind,I op,I k,I a,I b,.string s,I k',I a',I b',.string s',vs,.string st,.string tt,bb,I n,I x,I y,I o1,I o2] 35)).heap.size:=by simp
 go_enter func13,ntmps13
 go_wp2
 generalize w.alloc (.cells #[I kind,I op,I k,I a,I b,.string s,I k',I a',I b',.string s',vs,.string st,.string tt,bb,I n,I x,I y,I o1,I o2] 35)=w1 at hc0 hg0 hz0⊢
 go_region_held3 (fun W=>(∀(o:Nat),W.cell? {block:=w.heap.size,off:=o}=[I kind,I op,I k,I a,I b,.string s,I k',I a',I b',.string s',vs,.string st,.string tt,bb,I n,I x,I y,I o1,I o2][o]?)∧G w W∧w.heap.size<W.heap.size) ((first|exact keepC ‹_› ‹_›|exact keepD ‹_› ‹_› ‹_›|exact keepG ‹_› ‹_› ‹_› ‹_›|exact keepG (keepD ‹_› ‹_› ‹_›).1 (keepD ‹_› ‹_› ‹_›).2.1 (keepD ‹_› ‹_› ‹_›).2.2 ‹_›)) (first|(go_at_call 30;refine(H1.out _ (hT.G (by first|assumption|exact G.drew (by assumption)|exact And.left (And.right (by assumption))|exact G.drew (And.left (And.right (by assumption)))))).mono ?_;rintro e w2 ⟨rfl,hb2⟩)|(go_at_call 26;refine(H2.out _).mono ?_;rintro e w2 ⟨rfl,hb2⟩)|(go_at_call 31;refine(H3.out _ (hT.G (by first|assumption|exact G.drew (by assumption)|exact And.left (And.right (by assumption))|exact G.drew (And.left (And.right (by assumption)))))).mono ?_;rintro e w2 ⟨rfl,hb2⟩)|(go_at_call 32;refine(H4.out _).mono ?_;rintro e w2 ⟨rfl,hb2⟩)|fail)
 rename_i hH
 obtain⟨hc2,hg2,hz2⟩:=hH
 go_wp2
 go_region_held3 (fun W=>(∀(o:Nat),W.cell? {block:=w.heap.size,off:=o}=[I kind,I op,I k,I a,I b,.string s,I k',I a',I b',.string s',vs,.string st,.string tt,bb,I n,I x,I y,I o1,I o2][o]?)∧G w W∧w.heap.size<W.heap.size) ((first|exact keepC ‹_› ‹_›|exact keepD ‹_› ‹_› ‹_›|exact keepG ‹_› ‹_› ‹_› ‹_›|exact keepG (keepD ‹_› ‹_› ‹_›).1 (keepD ‹_› ‹_› ‹_›).2.1 (keepD ‹_› ‹_› ‹_›).2.2 ‹_›)) (first|(go_at_call 33;refine(H5.out _).mono ?_;rintro e w2 ⟨rfl,rfl⟩)|(go_at_call 34;refine(H6.out _).mono ?_;rintro e w2 ⟨rfl,rfl⟩)|fail)
 rename_i hH
 obtain⟨hc3,hg3,hz3⟩:=hH
 go_wp2
 go_ret
 exact⟨rfl,hg3⟩
end
section
open Go.RowKit Go.PlainAid Go.Lib Go.Shelf
theorem plays_1(e:Ent)(hk:e.kind=1)(hs:e.s.size≤4611686018427387904)(w:World)(hT:Tabs w):Calls prog 7 #[e.V] w fun r w'=>r=.returned (.bool true)∧G w w':=by
 have H1:Hid _:=forms_any e hs
 obtain⟨kind,op,k,a,b,s,k',a',b',s',vs,st,tt,bb,n,x,y,o1,o2⟩:=e
 simp only at hk
 subst hk
 have hr:(w.alloc (.cells #[I 1,I op,I k,I a,I b,.string s,I k',I a',I b',.string s',vs,.string st,.string tt,bb,I n,I x,I y,I o1,I o2] 35)).rangeAt w.heap.size 0 [I 1,I op,I k,I a,I b,.string s,I k',I a',I b',.string s',vs,.string st,.string tt,bb,I n,I x,I y,I o1,I o2]:=fun j v hv=>by rw[Nat.zero_add];simpa using hv
 go_enter func7,ntmps7
 go_wp2_with (first|(refine wpList_load_mid rfl 35 _ rfl w.heap.size 0 rfl [I 1,I op,I k,I a,I b,.string s,I k',I a',I b',.string s',vs,.string st,.string tt,bb,I n,I x,I y,I o1,I o2] _ hr underlying35 rfl (by kernel_rfl) ?_)|(go_at_call 13;refine(H1.out _ (hT.G ((G.refl w).alloc _))).mono ?_;rintro e w1 ⟨rfl,hb1⟩))
 go_wp2
 go_ret
 exact⟨rfl,((G.refl w).alloc _).trans hb1⟩
def Ents(W:World)(b off n:Nat)(E:Nat→Ent):Prop:=∀i,i<n→W.rangeAt b (off+i*19) (E i).L
theorem cell_lt{W:World}{b o:Nat}{v:Value}(h:W.cell? ⟨b,o,none⟩=some v):b<W.heap.size:=by
 rcases Nat.lt_or_ge b W.heap.size with h1|h1
 ·exact h1
 ·exfalso
  have:W.heap[b]?=none:=Array.getElem?_eq_none h1
  unfold World.cell? at h
  simp only[this] at h
  cases h
theorem rangeAt_G{W w:World}{b o:Nat}{cs:List Value}(h:W.rangeAt b o cs)(g:G W w):w.rangeAt b o cs:=
 fun j v hv=>(Below.cell g (p:=⟨b,o+j,none⟩) (cell_lt (h j v hv))).trans (h j v hv)
theorem upto_some(lo hi:Int)(b off n cap:Nat)(hn:n≤140737488351232)(E:Nat→Ent)(w:World)(hE:Ents w b off n E)
  (hP:∀i,i<n→lo≤(E i).kind→(E i).kind≤hi→∀w',G w w'→Calls prog 7 #[(E i).V] w' fun r w''=>r=.returned (.bool true)∧G w' w'') :
  Calls prog 6 #[.slice (some ⟨b,off,none⟩) n cap,.int .i64 lo,.int .i64 hi] w fun r w'=>r=.returned (.bool true)∧G w w':=by
 have HP:Hid _:=hP
 have HE:Hid (Ents w b off n E):=hE
 clear hP hE
 go_enter func6,ntmps6
 go_wp2
 go_loopw [7,8] (fun i _ W=>∃m:Nat,m≤n∧i=.int .i64 m∧G w W) (fun i _ _=>n-(RowKit.intOf i).toNat)
 case atStart=>exact⟨0,by omega,rfl,G.refl _⟩
 case round=>
  obtain⟨m,hm,rfl,hG⟩:=hrel
  have HG:Hid (G w wr):=hG
  clear hG
  by_cases hlt:m<n
  ·have hx:Hid (wr.rangeAt b (off+m*19) (E m).L):=rangeAt_G (HE.out m hlt) HG.out
   have h0:wr.cell? ⟨b,off+m*19,none⟩=some (I (E m).kind):=hx.out 0 _ rfl
   have HQ:Hid _:=HP.out m hlt
   generalize E m=e at hx h0 HQ
   by_cases h1:lo≤e.kind
   ·by_cases h2:e.kind≤hi
    ·have HR:Hid _:=HQ.out h1 h2
     go_wp2_with (first|(refine wpList_load_mid rfl 35 _ rfl b (off+m*19) rfl e.L _ hx.out underlying35 rfl (by kernel_rfl) ?_)|(go_at_call 7;refine(HR.out _ HG.out).mono ?_;rintro e w1 ⟨rfl,hb1⟩))
     go_roundw
     case rel=>exact⟨m+1,by omega,by go_num,HG.out.trans hb1⟩
     case measure=>simp[RowKit.intOf];omega
    ·go_wp2
     go_roundw
     case rel=>exact⟨m+1,by omega,by go_num,HG.out⟩
     case measure=>simp[RowKit.intOf];omega
   ·go_wp2
    go_roundw
    case rel=>exact⟨m+1,by omega,by go_num,HG.out⟩
    case measure=>simp[RowKit.intOf];omega
  ·go_wp2
   go_ret
   exact⟨rfl,HG.out⟩
theorem upto_nil(lo hi:Int)(w:World) :
  Calls prog 6 #[.slice none 0 0,.int .i64 lo,.int .i64 hi] w fun r w'=>r=.returned (.bool true)∧G w w':=by
 go_enter func6,ntmps6
 go_wp2
 refine wp_loop_rounds 1 ?_
 rw[rounds_succ]
 go_wp2
 go_ret
 exact⟨rfl,G.refl _⟩
end
end Go.Proofs.YthmdjhfbhbheeaaGreatDoor
