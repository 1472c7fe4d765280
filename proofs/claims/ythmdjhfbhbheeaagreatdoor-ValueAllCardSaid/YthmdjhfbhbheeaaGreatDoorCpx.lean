import Derived.Test.YthmdjhfbhbheeaaGreatDoorFl
namespace Go.Proofs.YthmdjhfbhbheeaaGreatDoor
open Go.Proofs.Tryz
set_option maxHeartbeats 1000000
set_option maxRecDepth 100000
section
open Go.RowKit
abbrev fl(n:Int):Nat:=floatOfInt .f64 n
theorem f64bits(b:Nat)(w:World):(callFunc 167 #[.float .f64 b]).run prog w=.ok (.value (.int .u64 b)) w:=by kernel_rfl
theorem f64from(n:Int)(w:World):(callFunc 166 #[.int .u64 n]).run prog w=.ok (.value (.float .f64 n.toNat)) w:=by kernel_rfl
theorem q_trunc1:(f168.name==     "runtime.NumGoroutine")=false:=by kernel_rfl
theorem q_trunc2:Tryz.f168.body.isNone=true:=by kernel_rfl
theorem q_trunc3:Extern.findNext Tryz.f168=none:=by kernel_rfl
theorem q_trunc4:Extern.find Tryz.f168=some (Extern.MathFloor.toIntegral "math.archTrunc" .zero):=by kernel_rfl
theorem run_trunc(x:Nat)(w:World){s:Bool}{m:Nat}{p:Int}(h:Ieee.double.read x=.number s m p):(callFunc 168 #[.float .f64 x]).run prog w=.ok (.value (.float .f64 (Ieee.double.write ((Ieee.double.read x).integral .zero)))) w:=by
 rw[run_callFunc_extern func168 q_trunc1 q_trunc2 q_trunc3 q_trunc4]
 have e:∀D:Ieee.Datum,FloatKind.f64.decode x=D→(∃s m p,D=.number s m p)→(Extern.MathFloor.toIntegral "math.archTrunc" .zero #[.float .f64 x]).run prog w=.ok (.float .f64 (Ieee.double.write (D.integral .zero))) w:=by
  intro D hD hN
  obtain⟨s,m,p,rfl⟩:=hN
  delta Extern.MathFloor.toIntegral
  show Sem.run _ (Extern.MathFloor.toIntegral.match_1 (motive:=fun _=>Sem Value) (FloatKind.f64.decode x) _ _) w=_
  rw[hD]
  rfl
 rw[e _ rfl ⟨s,m,p,h⟩]
 rfl
theorem q_floor1:(f193.name==     "runtime.NumGoroutine")=false:=by kernel_rfl
theorem q_floor2:Tryz.f193.body.isNone=true:=by kernel_rfl
theorem q_floor3:Extern.findNext Tryz.f193=none:=by kernel_rfl
theorem q_floor4:Extern.find Tryz.f193=some (Extern.MathFloor.toIntegral "math.archFloor" .down):=by kernel_rfl
theorem run_floor(x:Nat)(w:World){s:Bool}{m:Nat}{p:Int}(h:Ieee.double.read x=.number s m p):(callFunc 193 #[.float .f64 x]).run prog w=.ok (.value (.float .f64 (Ieee.double.write ((Ieee.double.read x).integral .down)))) w:=by
 rw[run_callFunc_extern func193 q_floor1 q_floor2 q_floor3 q_floor4]
 have e:∀D:Ieee.Datum,FloatKind.f64.decode x=D→(∃s m p,D=.number s m p)→(Extern.MathFloor.toIntegral "math.archFloor" .down #[.float .f64 x]).run prog w=.ok (.float .f64 (Ieee.double.write (D.integral .down))) w:=by
  intro D hD hN
  obtain⟨s,m,p,rfl⟩:=hN
  delta Extern.MathFloor.toIntegral
  show Sem.run _ (Extern.MathFloor.toIntegral.match_1 (motive:=fun _=>Sem Value) (FloatKind.f64.decode x) _ _) w=_
  rw[hD]
  rfl
 rw[e _ rfl ⟨s,m,p,h⟩]
 rfl
theorem nan_fl(x:Nat)(a:Int)(h:Fl x a)(w:World):Calls prog 144 #[.float .f64 x] w fun e w'=>e=.returned (.bool false)∧w'=w:=by
 have ho:FloatKind.f64.format.order x x=some .eq:=by have:=h.order h;simpa [FloatKind.format,compare,compareOfLessAndEq] using this
 clear h
 go_enter func144,ntmps144
 go_wp2
 go_ret
 exact⟨by simp,rfl⟩
def strike(x:Nat):Nat:=x%9223372036854775808
theorem abs_fl(x:Nat)(a:Int)(h:Fl x a)(w:World):Calls prog 145 #[.float .f64 x] w fun e w'=>e=.returned (.float .f64 (strike x))∧w'=w:=by
 have h1:=f64bits x
 have h2:=f64from (strike x:Int)
 have h3:bits .andNot .u64 (x:Int) 9223372036854775808=(strike x:Int):=bits_strike x h.1
 clear h
 rw[Int.toNat_natCast] at h2
 go_enter func145,ntmps145
 go_wp2
 go_ret
 exact⟨rfl,rfl⟩
theorem trunc_fl(x:Nat)(a:Int)(h:Fl x a)(ha:a.natAbs<2^53)(w:World):Calls prog 146 #[.float .f64 x] w fun e w'=>(∃r,e=.returned (.float .f64 r)∧Fl r a)∧w'=w:=by
 obtain⟨hr,s,m,p,hd⟩:=h.integral ha .zero
 have ht:=fun w=>run_trunc x w hd
 generalize Ieee.double.write ((Ieee.double.read x).integral .zero)=r at hr ht
 clear hd h ha
 have HR:Hid _:=hr
 clear hr
 go_enter func146,ntmps146
 go_wp2
 go_ret
 exact⟨⟨r,rfl,HR.out⟩,rfl⟩
end
section
open Go.RowKit
theorem ord_le{x:Nat}{a:Int}(h:Fl x a)(ha:a.natAbs≤33554432):(FloatKind.f64.format.order (strike x) 4719772409484279808==some .gt)=false:=by
 have:=h.abs.order Fl.most
 have e:FloatKind.f64.format.order (strike x) 4719772409484279808=some (compare (a.natAbs:Int) 33554432):=this
 rw[e]
 simp only[compare,compareOfLessAndEq]
 by_cases c:(a.natAbs:Int)<33554432
 ·simp[c]
 ·have:(a.natAbs:Int)=33554432:=by omega
  simp[this]
theorem ord_gt{x:Nat}{a:Int}(h:Fl x a)(ha:33554432<a.natAbs):(FloatKind.f64.format.order (strike x) 4719772409484279808==some .gt)=true:=by
 have:=h.abs.order Fl.most
 have e:FloatKind.f64.format.order (strike x) 4719772409484279808=some (compare (a.natAbs:Int) 33554432):=this
 rw[e]
 simp only[compare,compareOfLessAndEq]
 have c1:¬(a.natAbs:Int)<33554432:=by omega
 have c2:¬(a.natAbs:Int)=33554432:=by omega
 simp[c1,c2]
theorem ord_same{r x:Nat}{a:Int}(hr:Fl r a)(hx:Fl x a):(FloatKind.f64.format.order r x != some .eq)=false:=by
 have e:FloatKind.f64.format.order r x=some (compare a a):=hr.order hx
 rw[e]
 simp[compare,compareOfLessAndEq]
theorem fit_ok(x y:Nat)(a b:Int)(hx:Fl x a)(hy:Fl y b)(ha:a.natAbs≤33554432)(hb:b.natAbs≤33554432)(w:World) :
  Calls prog 106 #[.complex .f64 x y] w fun e w'=>e=.returned (.tuple #[.iface 136 (.complex .f64 x y),.int .i64 0])∧w'=w:=by
 have o1:=ord_le hx ha
 have o2:=ord_le hy hb
 have HA:Hid (a.natAbs≤33554432):=ha;have HB:Hid (b.natAbs≤33554432):=hb
 clear ha hb
 go_enter func106,ntmps106
 go_wp2_with fail
 refine(nan_fl x a hx _).mono ?_
 rintro e w1 ⟨rfl,rfl⟩
 go_wp2_with fail
 refine(nan_fl y b hy _).mono ?_
 rintro e w1 ⟨rfl,rfl⟩
 go_wp2_with fail
 refine(abs_fl x a hx _).mono ?_
 rintro e w1 ⟨rfl,rfl⟩
 go_wp2_with fail
 refine(abs_fl y b hy _).mono ?_
 rintro e w1 ⟨rfl,rfl⟩
 go_wp2_with fail
 refine(trunc_fl x a hx (Nat.lt_of_le_of_lt HA.out (by decide)) _).mono ?_
 rintro e w1 ⟨⟨r,rfl,hr⟩,rfl⟩
 have o3:=ord_same hr hx
 go_wp2_with fail
 refine(trunc_fl y b hy (Nat.lt_of_le_of_lt HB.out (by decide)) _).mono ?_
 rintro e w1 ⟨⟨q,rfl,hq⟩,rfl⟩
 have o4:=ord_same hq hy
 go_wp2
 go_ret2
 exact⟨rfl,rfl⟩
theorem isPart_yes(n:Int)(h1:-33554432≤n)(h2:n≤33554432)(w:World):Calls prog 111 #[.int .i64 n] w fun e w'=>e=.returned (.bool true)∧w'=w:=by
 go_enter func111,ntmps111
 go_wp2
 go_ret
 exact⟨rfl,rfl⟩
theorem cv_float(t:TypeId)(x:Nat)(a:Int)(h:Fl x a)(ha:a.natAbs<2^53)(ht:(prog.underlying t).isSome=true)(w:World):(convert t 2 (.float .f64 x)).run prog w=.ok (.int .i64 a) w:=
 run_convert_float_int w t 2 .f64 .i64 x a ht underlying2 (h.toInt ha)
theorem parts_fl(x y:Nat)(a b:Int)(hx:Fl x a)(hy:Fl y b)(ha:a.natAbs<2^53)(hb:b.natAbs<2^53)(w:World) :
  Calls prog 150 #[.complex .f64 x y] w fun e w'=>e=.returned (.tuple #[.int .i64 a,.int .i64 b])∧w'=w:=by
 have c1:=fun w=>cv_float 84 x a hx ha (by kernel_rfl) w
 have c2:=fun w=>cv_float 84 y b hy hb (by kernel_rfl) w
 clear hx hy ha hb
 go_enter func150,ntmps150
 go_wp2
 go_ret2
 exact⟨rfl,rfl⟩
theorem val_cpx(x y:Nat)(a b:Int)(hx:Fl x a)(hy:Fl y b)(ha:a.natAbs<2^53)(hb:b.natAbs<2^53)(w:World) :
  Calls prog 255 #[.complex .f64 x y] w fun e w'=>e=.returned (V 3 a b E0)∧G w w':=by
 go_enter func255,ntmps255
 go_wp2_with fail
 refine(parts_fl x y a b hx hy ha hb _).mono ?_
 rintro e w1 ⟨rfl,rfl⟩
 go_wp2
 exact bodyPost_ret (v:=V 3 a b E0) (by simp[results,results255,go_sem]) rfl ⟨rfl,by repeat(first|exact G.refl _|assumption|refine G.alloc ?_ _|refine G.drew ?_|refine G.setCell ?_ (by simp) _|refine G.trans ?_ (by assumption))⟩
theorem m_val_cpx(x y:Nat)(w:World):(method 351 136 (.complex .f64 x y) "trellis/value.val").run prog w=.ok (255,.complex .f64 x y) w:=by kernel_rfl
theorem m_num_cpx(x y:Nat)(w:World):(method 351 136 (.complex .f64 x y) "trellis/value.number").run prog w=.ok (253,.complex .f64 x y) w:=by kernel_rfl
theorem m_num_whole(n:Int)(w:World):(method 351 135 (.int .i64 n) "trellis/value.number").run prog w=.ok (245,.int .i64 n) w:=by kernel_rfl
theorem answer_cpx(x y:Nat)(a b:Int)(hx:Fl x a)(hy:Fl y b)(ha:a.natAbs<2^53)(hb:b.natAbs<2^53)(w:World) :
  Calls prog 35 #[.iface 136 (.complex .f64 x y),.int .i64 0] w fun e w'=>e=.returned (.tuple #[V 3 a b E0,.int .i64 0])∧G w w':=by
 have hm:=m_val_cpx x y
 have HV:Hid (∀w,Calls prog 255 #[.complex .f64 x y] w fun e w'=>e=.returned (V 3 a b E0)∧G w w'):=fun w=>val_cpx x y a b hx hy ha hb w
 clear hx hy ha hb
 go_enter func35,ntmps35
 go_wp2_with (go_at_call 255;refine(HV.out _).mono ?_;rintro e w2 ⟨rfl,hb2⟩;obtain⟨hc2,hf2⟩:=hb2.rules;have hz2:w.heap.size<w2.heap.size:=by have:=hb2.size;simp at this;omega)
 exact bodyPost_ret (v:=.tuple #[V 3 a b E0,.int .i64 0]) (by simp[results,results35,go_sem,hc2]) rfl ⟨rfl,by repeat(first|exact G.refl _|assumption|refine G.alloc ?_ _|refine G.drew ?_|refine G.setCell ?_ (by simp) _|refine G.trans ?_ (by assumption))⟩
theorem num_cpx(x y:Nat)(w:World):Calls prog 253 #[.complex .f64 x y] w fun e w'=>e=.returned (.tuple #[.complex .f64 x y,.int .i64 0])∧w'=w:=by
 go_enter func253,ntmps253
 go_wp2
 go_ret2
 exact⟨rfl,rfl⟩
theorem num_whole(n:Int)(h1:-33554432≤n)(h2:n≤33554432)(w:World):Calls prog 245 #[.int .i64 n] w fun e w'=>e=.returned (.tuple #[.complex .f64 (fl n) 0,.int .i64 0])∧w'=w:=by
 go_enter func245,ntmps245
 go_wp2_with fail
 refine(isPart_yes n h1 h2 _).mono ?_
 rintro e w1 ⟨rfl,rfl⟩
 go_wp2
 go_ret2
 exact⟨rfl,rfl⟩
theorem conj_any(x y:Nat)(w:World):Calls prog 171 #[.complex .f64 x y] w fun e w'=>e=.returned (.complex .f64 x (Op.negFloat .f64 y))∧w'=w:=by
 have hn:Op.unary .neg (.float .f64 y)=pure (.float .f64 (Op.negFloat .f64 y)):=rfl
 go_enter func171,ntmps171
 go_wp2
 go_ret
 exact⟨rfl,rfl⟩
theorem norm_fl(x y:Nat)(a b:Int)(hx:Fl x a)(hy:Fl y b)(ha:(a*a).natAbs<2^53)(hb:(b*b).natAbs<2^53)(hs:(a*a+b*b).natAbs<2^53)(w:World) :
  Calls prog 172 #[.complex .f64 x y] w fun e w'=>(∃r,e=.returned (.float .f64 r)∧Fl r (a*a+b*b))∧w'=w:=by
 obtain⟨p,hp,fp⟩:=hx.mul hx ha
 obtain⟨q,hq,fq⟩:=hy.mul hy hb
 obtain⟨r,hr,fr⟩:=fp.add fq hs
 have e1:=fun w=>run_float_arith (P:=prog) w .mul 84 .f64 x x p hp
 have e2:=fun w=>run_float_arith (P:=prog) w .mul 84 .f64 y y q hq
 have e3:=fun w=>run_float_arith (P:=prog) w .add 84 .f64 p q r hr
 have HR:Hid _:=fr
 clear hp hq hr fp fq fr ha hb hs hx hy
 go_enter func172,ntmps172
 go_wp2
 go_ret
 exact⟨⟨r,rfl,HR.out⟩,rfl⟩
end
end Go.Proofs.YthmdjhfbhbheeaaGreatDoor
