import Derived.Test.YthmdjhfbhbheeaaGreatDoorDbl
namespace Go.Proofs.YthmdjhfbhbheeaaGreatDoor
open Go.Proofs.Tryz
set_option maxHeartbeats 1000000
set_option maxRecDepth 100000
section
open Go.RowKit
abbrev ordD(x y:Nat):Option Ordering:=FloatKind.f64.format.order x y
theorem zMC(x:Nat)(ho:ordD x x=none)(w:World):Calls prog 144 #[.float .f64 x] w fun e w'=>e=.returned (.bool true)∧w'=w:=by
 go_enter func144,ntmps144
 go_wp2
 go_ret;exact⟨by simp,rfl⟩
theorem zCH(x:Nat)(ho:ordD x x=some .eq)(w:World):Calls prog 144 #[.float .f64 x] w fun e w'=>e=.returned (.bool false)∧w'=w:=by
 go_enter func144,ntmps144
 go_wp2
 go_ret;exact⟨by simp,rfl⟩
theorem zCo(x:Nat)(h:x<2^64)(w:World):Calls prog 145 #[.float .f64 x] w fun e w'=>e=.returned (.float .f64 (strike x))∧w'=w:=by
 have h1:=zH9 x;have h2:=zH8 (strike x:Int);have h3:bits .andNot .u64 (x:Int) 9223372036854775808=(strike x:Int):=zDj x h;clear h;rw[Int.toNat_natCast] at h2
 go_enter func145,ntmps145
 go_wp2
 go_ret;exact⟨rfl,rfl⟩
theorem zCu(x:Nat)(h:∃s m p,Ieee.double.read x=.number s m p)(w:World):Calls prog 146 #[.float .f64 x] w fun e w'=>e=.returned (.float .f64 (tr x))∧w'=w:=by
 obtain⟨s,m,p,hd⟩:=h;have ht:∀w,_:=fun w=>zEr x w hd;have e:Ieee.double.write ((Ieee.double.read x).integral .zero)=tr x:=rfl;rw[e] at ht;clear hd e
 go_enter func146,ntmps146
 go_wp2
 go_ret;exact⟨rfl,rfl⟩
theorem zX5(x y:Nat)(hx:x<2^64)(hy:y<2^64)(qx:ordD x x=none)(w:World):Calls prog 106 #[.complex .f64 x y] w fun e w'=>e=.returned (.tuple #[.nilIface,.int .i64 13])∧w'=w:=by
 have QX:Hid _:=qx;clear qx;have HX:Hid _:=hx;have HY:Hid _:=hy;clear hx hy
 go_enter func106,ntmps106
 go_wp2_with fail
 refine(zMC x QX.out _).mono ?_;rintro e w1 ⟨rfl,rfl⟩
 go_wp2
 go_ret2
 exact⟨rfl,rfl⟩
theorem zWA(x y:Nat)(hx:x<2^64)(hy:y<2^64)(qx:ordD x x=some .eq)(qy:ordD y y=none)(w:World):Calls prog 106 #[.complex .f64 x y] w fun e w'=>e=.returned (.tuple #[.nilIface,.int .i64 13])∧w'=w:=by
 have QX:Hid _:=qx;clear qx;have QY:Hid _:=qy;clear qy;have HX:Hid _:=hx;have HY:Hid _:=hy;clear hx hy
 go_enter func106,ntmps106
 go_wp2_with fail
 refine(zCH x QX.out _).mono ?_;rintro e w1 ⟨rfl,rfl⟩
 go_wp2_with fail
 refine(zMC y QY.out _).mono ?_;rintro e w1 ⟨rfl,rfl⟩
 go_wp2
 go_ret2
 exact⟨rfl,rfl⟩
theorem zX9(x y:Nat)(hx:x<2^64)(hy:y<2^64)(qx:ordD x x=some .eq)(qy:ordD y y=some .eq)(bigx:bigB x=true)(w:World):Calls prog 106 #[.complex .f64 x y] w fun e w'=>e=.returned (.tuple #[.nilIface,.int .i64 11])∧w'=w:=by
 have QX:Hid _:=qx;clear qx;have QY:Hid _:=qy;clear qy;have HX:Hid _:=hx;have HY:Hid _:=hy;clear hx hy;have obx:(ordD (strike x) 4719772409484279808==some .gt)=_:=bigx;clear bigx
 go_enter func106,ntmps106
 go_wp2_with fail
 refine(zCH x QX.out _).mono ?_;rintro e w1 ⟨rfl,rfl⟩
 go_wp2_with fail
 refine(zCH y QY.out _).mono ?_;rintro e w1 ⟨rfl,rfl⟩
 go_wp2_with fail
 refine(zCo x HX.out _).mono ?_;rintro e w1 ⟨rfl,rfl⟩
 go_wp2
 go_ret2
 exact⟨rfl,rfl⟩
theorem zX8(x y:Nat)(hx:x<2^64)(hy:y<2^64)(qx:ordD x x=some .eq)(qy:ordD y y=some .eq)(bigx:bigB x=false)(bigy:bigB y=true)(w:World):Calls prog 106 #[.complex .f64 x y] w fun e w'=>e=.returned (.tuple #[.nilIface,.int .i64 11])∧w'=w:=by
 have QX:Hid _:=qx;clear qx;have QY:Hid _:=qy;clear qy;have HX:Hid _:=hx;have HY:Hid _:=hy;clear hx hy;have obx:(ordD (strike x) 4719772409484279808==some .gt)=_:=bigx;clear bigx;have oby:(ordD (strike y) 4719772409484279808==some .gt)=_:=bigy;clear bigy
 go_enter func106,ntmps106
 go_wp2_with fail
 refine(zCH x QX.out _).mono ?_;rintro e w1 ⟨rfl,rfl⟩
 go_wp2_with fail
 refine(zCH y QY.out _).mono ?_;rintro e w1 ⟨rfl,rfl⟩
 go_wp2_with fail
 refine(zCo x HX.out _).mono ?_;rintro e w1 ⟨rfl,rfl⟩
 go_wp2_with fail
 refine(zCo y HY.out _).mono ?_;rintro e w1 ⟨rfl,rfl⟩
 go_wp2
 go_ret2
 exact⟨rfl,rfl⟩
theorem zX7(x y:Nat)(hx:x<2^64)(hy:y<2^64)(qx:ordD x x=some .eq)(qy:ordD y y=some .eq)(bigx:bigB x=false)(bigy:bigB y=false)(rx:∃s m p,Ieee.double.read x=.number s m p)(fx:frB x=true)(w:World):Calls prog 106 #[.complex .f64 x y] w fun e w'=>e=.returned (.tuple #[.nilIface,.int .i64 13])∧w'=w:=by
 have QX:Hid _:=qx;clear qx;have QY:Hid _:=qy;clear qy;have RX:Hid _:=rx;clear rx;have HX:Hid _:=hx;have HY:Hid _:=hy;clear hx hy;have obx:(ordD (strike x) 4719772409484279808==some .gt)=_:=bigx;clear bigx;have oby:(ordD (strike y) 4719772409484279808==some .gt)=_:=bigy;clear bigy;have ofx:(ordD (tr x) x != some .eq)=_:=fx;clear fx
 go_enter func106,ntmps106
 go_wp2_with fail
 refine(zCH x QX.out _).mono ?_;rintro e w1 ⟨rfl,rfl⟩
 go_wp2_with fail
 refine(zCH y QY.out _).mono ?_;rintro e w1 ⟨rfl,rfl⟩
 go_wp2_with fail
 refine(zCo x HX.out _).mono ?_;rintro e w1 ⟨rfl,rfl⟩
 go_wp2_with fail
 refine(zCo y HY.out _).mono ?_;rintro e w1 ⟨rfl,rfl⟩
 go_wp2_with fail
 refine(zCu x RX.out _).mono ?_;rintro e w1 ⟨rfl,rfl⟩
 go_wp2
 go_ret2
 exact⟨rfl,rfl⟩
theorem zX6(x y:Nat)(hx:x<2^64)(hy:y<2^64)(qx:ordD x x=some .eq)(qy:ordD y y=some .eq)(bigx:bigB x=false)(bigy:bigB y=false)(rx:∃s m p,Ieee.double.read x=.number s m p)(fx:frB x=false)(ry:∃s m p,Ieee.double.read y=.number s m p)(fy:frB y=true)(w:World):Calls prog 106 #[.complex .f64 x y] w fun e w'=>e=.returned (.tuple #[.nilIface,.int .i64 13])∧w'=w:=by
 have QX:Hid _:=qx;clear qx;have QY:Hid _:=qy;clear qy;have RX:Hid _:=rx;clear rx;have RY:Hid _:=ry;clear ry;have HX:Hid _:=hx;have HY:Hid _:=hy;clear hx hy;have obx:(ordD (strike x) 4719772409484279808==some .gt)=_:=bigx;clear bigx;have oby:(ordD (strike y) 4719772409484279808==some .gt)=_:=bigy;clear bigy;have ofx:(ordD (tr x) x != some .eq)=_:=fx;clear fx;have ofy:(ordD (tr y) y != some .eq)=_:=fy;clear fy
 go_enter func106,ntmps106
 go_wp2_with fail
 refine(zCH x QX.out _).mono ?_;rintro e w1 ⟨rfl,rfl⟩
 go_wp2_with fail
 refine(zCH y QY.out _).mono ?_;rintro e w1 ⟨rfl,rfl⟩
 go_wp2_with fail
 refine(zCo x HX.out _).mono ?_;rintro e w1 ⟨rfl,rfl⟩
 go_wp2_with fail
 refine(zCo y HY.out _).mono ?_;rintro e w1 ⟨rfl,rfl⟩
 go_wp2_with fail
 refine(zCu x RX.out _).mono ?_;rintro e w1 ⟨rfl,rfl⟩
 go_wp2_with fail
 refine(zCu y RY.out _).mono ?_;rintro e w1 ⟨rfl,rfl⟩
 go_wp2
 go_ret2
 exact⟨rfl,rfl⟩
theorem zX4(x y:Nat)(hx:x<2^64)(hy:y<2^64)(qx:ordD x x=some .eq)(qy:ordD y y=some .eq)(bigx:bigB x=false)(bigy:bigB y=false)(rx:∃s m p,Ieee.double.read x=.number s m p)(fx:frB x=false)(ry:∃s m p,Ieee.double.read y=.number s m p)(fy:frB y=false)(w:World):Calls prog 106 #[.complex .f64 x y] w fun e w'=>e=.returned (.tuple #[.iface 136 (.complex .f64 x y),.int .i64 0])∧w'=w:=by
 have QX:Hid _:=qx;clear qx;have QY:Hid _:=qy;clear qy;have RX:Hid _:=rx;clear rx;have RY:Hid _:=ry;clear ry;have HX:Hid _:=hx;have HY:Hid _:=hy;clear hx hy;have obx:(ordD (strike x) 4719772409484279808==some .gt)=_:=bigx;clear bigx;have oby:(ordD (strike y) 4719772409484279808==some .gt)=_:=bigy;clear bigy;have ofx:(ordD (tr x) x != some .eq)=_:=fx;clear fx;have ofy:(ordD (tr y) y != some .eq)=_:=fy;clear fy
 go_enter func106,ntmps106
 go_wp2_with fail
 refine(zCH x QX.out _).mono ?_;rintro e w1 ⟨rfl,rfl⟩
 go_wp2_with fail
 refine(zCH y QY.out _).mono ?_;rintro e w1 ⟨rfl,rfl⟩
 go_wp2_with fail
 refine(zCo x HX.out _).mono ?_;rintro e w1 ⟨rfl,rfl⟩
 go_wp2_with fail
 refine(zCo y HY.out _).mono ?_;rintro e w1 ⟨rfl,rfl⟩
 go_wp2_with fail
 refine(zCu x RX.out _).mono ?_;rintro e w1 ⟨rfl,rfl⟩
 go_wp2_with fail
 refine(zCu y RY.out _).mono ?_;rintro e w1 ⟨rfl,rfl⟩
 go_wp2
 go_ret2
 exact⟨rfl,rfl⟩
theorem zD0(t:TypeId)(x:Nat)(a:Int)(h:floatToIntVal .f64 x .i64=some a)(ht:(prog.underlying t).isSome=true)(w:World):(convert t 2 (.float .f64 x)).run prog w=.ok (.int .i64 a) w:=
 run_convert_float_int w t 2 .f64 .i64 x a ht underlying2 h
theorem zTd(x y:Nat)(a b:Int)(hx:floatToIntVal .f64 x .i64=some a)(hy:floatToIntVal .f64 y .i64=some b)(w:World) :
  Calls prog 150 #[.complex .f64 x y] w fun e w'=>e=.returned (.tuple #[.int .i64 a,.int .i64 b])∧w'=w:=by
 have c1:=fun w=>zD0 84 x a hx (by kernel_rfl) w;have c2:=fun w=>zD0 84 y b hy (by kernel_rfl) w;clear hx hy
 go_enter func150,ntmps150
 go_wp2
 go_ret2
 exact⟨rfl,rfl⟩
theorem zXg(x y:Nat)(a b:Int)(hx:floatToIntVal .f64 x .i64=some a)(hy:floatToIntVal .f64 y .i64=some b)(w:World) :
  CG 255 #[.complex .f64 x y] w (V 3 a b E0):=by
 go_enter func255,ntmps255
 go_wp2_with fail
 refine(zTd x y a b hx hy _).mono ?_;rintro e w1 ⟨rfl,rfl⟩
 go_wp2
 exact bodyPost_ret (v:=V 3 a b E0) (by simp[results,results255,go_sem]) rfl ⟨rfl,by repeat(first|exact G.refl _|assumption|refine G.alloc ?_ _|refine G.drew ?_|refine G.setCell ?_ (by simp) _|refine G.trans ?_ (by assumption))⟩
theorem zQR(x y:Nat)(a b:Int)(hx:floatToIntVal .f64 x .i64=some a)(hy:floatToIntVal .f64 y .i64=some b)(w:World) :
  CG 35 #[.iface 136 (.complex .f64 x y),.int .i64 0] w (.tuple #[V 3 a b E0,.int .i64 0]):=by
 have hm:=zCI x y;have HV:Hid (∀w,CG 255 #[.complex .f64 x y] w (V 3 a b E0)):=fun w=>zXg x y a b hx hy w;clear hx hy
 go_enter func35,ntmps35
 go_wp2_with (go_at_call 255;refine(HV.out _).mono ?_;rintro e w2 ⟨rfl,hb2⟩;obtain⟨hc2,hf2⟩:=hb2.rules;have hz2:w.heap.size<w2.heap.size:=by have:=hb2.size;simp at this;omega)
 exact bodyPost_ret (v:=.tuple #[V 3 a b E0,.int .i64 0]) (by simp[results,results35,go_sem,hc2]) rfl ⟨rfl,by repeat(first|exact G.refl _|assumption|refine G.alloc ?_ _|refine G.drew ?_|refine G.setCell ?_ (by simp) _|refine G.trans ?_ (by assumption))⟩
theorem zBT(x:Value)(c:Int)(h:(c != 0)=true)(w:World):CG 35 #[x,.int .i64 c] w (.tuple #[V0,.int .i64 c]):=by
 go_enter func35,ntmps35
 go_wp2
 exact bodyPost_ret (v:=.tuple #[V0,.int .i64 c]) (by simp[results,results35,go_sem]) rfl ⟨rfl,by repeat(first|exact G.refl _|assumption|refine G.alloc ?_ _|refine G.drew ?_|refine G.setCell ?_ (by simp) _|refine G.trans ?_ (by assumption))⟩
theorem zGU(x y:Nat)(q:Value)(c:Int)(k a b c':Int)(h1:∀w,Calls prog 106 #[.complex .f64 x y] w fun e w'=>e=.returned (.tuple #[q,.int .i64 c])∧w'=w)
  (h2:∀w,CG 35 #[q,.int .i64 c] w (.tuple #[V k a b E0,.int .i64 c'])) (w:World):CG 64 #[.complex .f64 x y] w (.tuple #[V k a b E0,.int .i64 c']):=by
 have H1:Hid _:=h1;have H2:Hid _:=h2;clear h1 h2
 go_enter func64,ntmps64
 go_wp2_with fail
 refine(H1.out _).mono ?_;rintro e w1 ⟨rfl,rfl⟩
 go_wp2_with fail
 refine(H2.out _).mono ?_;rintro e w2 ⟨rfl,hb2⟩;obtain⟨hc2,hf2⟩:=hb2.rules;have hz2:=hb2.size
 go_wp2
 exact bodyPost_ret (v:=.tuple #[V k a b E0,.int .i64 c']) (by simp[results,results64,go_sem,hc2]) rfl ⟨rfl,by repeat(first|exact G.refl _|assumption|refine G.alloc ?_ _|refine G.drew ?_|refine G.setCell ?_ (by simp) _|refine G.trans ?_ (by assumption))⟩
end
section
open Go.RowKit
theorem zLG(a b:Int)(w:World):CG 80 #[.int .i64 a,.int .i64 b] w (V 3 a b E0):=by
 go_enter func80,ntmps80
 go_wp2
 exact bodyPost_ret (v:=V 3 a b E0) (by simp[results,results80,go_sem]) rfl ⟨rfl,by repeat(first|exact G.refl _|assumption|refine G.alloc ?_ _|refine G.drew ?_|refine G.setCell ?_ (by simp) _|refine G.trans ?_ (by assumption))⟩
theorem zVf(x y:Nat)(qx:ordD x x=none)(w:World):CG 65 #[.float .f64 x,.float .f64 y] w (.tuple #[V0,.int .i64 13]):=by
 go_enter func65,ntmps65
 go_wp2
 exact bodyPost_ret (v:=.tuple #[V0,.int .i64 13]) (by simp[results,results65,go_sem]) rfl ⟨rfl,by repeat(first|exact G.refl _|assumption|refine G.alloc ?_ _|refine G.drew ?_|refine G.setCell ?_ (by simp) _|refine G.trans ?_ (by assumption))⟩
theorem zQ4(x y:Nat)(qx:ordD x x=some .eq)(qy:ordD y y=none)(w:World):CG 65 #[.float .f64 x,.float .f64 y] w (.tuple #[V0,.int .i64 13]):=by
 go_enter func65,ntmps65
 go_wp2
 exact bodyPost_ret (v:=.tuple #[V0,.int .i64 13]) (by simp[results,results65,go_sem]) rfl ⟨rfl,by repeat(first|exact G.refl _|assumption|refine G.alloc ?_ _|refine G.drew ?_|refine G.setCell ?_ (by simp) _|refine G.trans ?_ (by assumption))⟩
theorem zVl(x y:Nat)(qx:ordD x x=some .eq)(qy:ordD y y=some .eq)(lx:(ordD x 13943144446339055616==some .lt)=true)(w:World):CG 65 #[.float .f64 x,.float .f64 y] w (.tuple #[V0,.int .i64 11]):=by
 go_enter func65,ntmps65
 go_wp2
 exact bodyPost_ret (v:=.tuple #[V0,.int .i64 11]) (by simp[results,results65,go_sem]) rfl ⟨rfl,by repeat(first|exact G.refl _|assumption|refine G.alloc ?_ _|refine G.drew ?_|refine G.setCell ?_ (by simp) _|refine G.trans ?_ (by assumption))⟩
theorem zVk(x y:Nat)(qx:ordD x x=some .eq)(qy:ordD y y=some .eq)(lx:(ordD x 13943144446339055616==some .lt)=false)(gx:(ordD x 4719772409484279808==some .gt)=true)(w:World):CG 65 #[.float .f64 x,.float .f64 y] w (.tuple #[V0,.int .i64 11]):=by
 go_enter func65,ntmps65
 go_wp2
 exact bodyPost_ret (v:=.tuple #[V0,.int .i64 11]) (by simp[results,results65,go_sem]) rfl ⟨rfl,by repeat(first|exact G.refl _|assumption|refine G.alloc ?_ _|refine G.drew ?_|refine G.setCell ?_ (by simp) _|refine G.trans ?_ (by assumption))⟩
theorem zVj(x y:Nat)(qx:ordD x x=some .eq)(qy:ordD y y=some .eq)(lx:(ordD x 13943144446339055616==some .lt)=false)(gx:(ordD x 4719772409484279808==some .gt)=false)(ly:(ordD y 13943144446339055616==some .lt)=true)(w:World):CG 65 #[.float .f64 x,.float .f64 y] w (.tuple #[V0,.int .i64 11]):=by
 go_enter func65,ntmps65
 go_wp2
 exact bodyPost_ret (v:=.tuple #[V0,.int .i64 11]) (by simp[results,results65,go_sem]) rfl ⟨rfl,by repeat(first|exact G.refl _|assumption|refine G.alloc ?_ _|refine G.drew ?_|refine G.setCell ?_ (by simp) _|refine G.trans ?_ (by assumption))⟩
theorem zVi(x y:Nat)(qx:ordD x x=some .eq)(qy:ordD y y=some .eq)(lx:(ordD x 13943144446339055616==some .lt)=false)(gx:(ordD x 4719772409484279808==some .gt)=false)(ly:(ordD y 13943144446339055616==some .lt)=false)(gy:(ordD y 4719772409484279808==some .gt)=true)(w:World):CG 65 #[.float .f64 x,.float .f64 y] w (.tuple #[V0,.int .i64 11]):=by
 go_enter func65,ntmps65
 go_wp2
 exact bodyPost_ret (v:=.tuple #[V0,.int .i64 11]) (by simp[results,results65,go_sem]) rfl ⟨rfl,by repeat(first|exact G.refl _|assumption|refine G.alloc ?_ _|refine G.drew ?_|refine G.setCell ?_ (by simp) _|refine G.trans ?_ (by assumption))⟩
theorem zVh(x y:Nat)(qx:ordD x x=some .eq)(qy:ordD y y=some .eq)(lx:(ordD x 13943144446339055616==some .lt)=false)(gx:(ordD x 4719772409484279808==some .gt)=false)(ly:(ordD y 13943144446339055616==some .lt)=false)(gy:(ordD y 4719772409484279808==some .gt)=false)(n m:Int)(ix:floatToIntVal .f64 x .i64=some n)(iy:floatToIntVal .f64 y .i64=some m)(dx:(ordD (floatOfInt .f64 n) x != some .eq)=true)(w:World):CG 65 #[.float .f64 x,.float .f64 y] w (.tuple #[V0,.int .i64 13]):=by
 have c1:=fun w=>zD0 84 x n ix (by kernel_rfl) w;have c2:=fun w=>zD0 84 y m iy (by kernel_rfl) w;clear ix iy
 go_enter func65,ntmps65
 go_wp2
 exact bodyPost_ret (v:=.tuple #[V0,.int .i64 13]) (by simp[results,results65,go_sem]) rfl ⟨rfl,by repeat(first|exact G.refl _|assumption|refine G.alloc ?_ _|refine G.drew ?_|refine G.setCell ?_ (by simp) _|refine G.trans ?_ (by assumption))⟩
theorem zVg(x y:Nat)(qx:ordD x x=some .eq)(qy:ordD y y=some .eq)(lx:(ordD x 13943144446339055616==some .lt)=false)(gx:(ordD x 4719772409484279808==some .gt)=false)(ly:(ordD y 13943144446339055616==some .lt)=false)(gy:(ordD y 4719772409484279808==some .gt)=false)(n m:Int)(ix:floatToIntVal .f64 x .i64=some n)(iy:floatToIntVal .f64 y .i64=some m)(dx:(ordD (floatOfInt .f64 n) x != some .eq)=false)(dy:(ordD (floatOfInt .f64 m) y != some .eq)=true)(w:World):CG 65 #[.float .f64 x,.float .f64 y] w (.tuple #[V0,.int .i64 13]):=by
 have c1:=fun w=>zD0 84 x n ix (by kernel_rfl) w;have c2:=fun w=>zD0 84 y m iy (by kernel_rfl) w;clear ix iy
 go_enter func65,ntmps65
 go_wp2
 exact bodyPost_ret (v:=.tuple #[V0,.int .i64 13]) (by simp[results,results65,go_sem]) rfl ⟨rfl,by repeat(first|exact G.refl _|assumption|refine G.alloc ?_ _|refine G.drew ?_|refine G.setCell ?_ (by simp) _|refine G.trans ?_ (by assumption))⟩
theorem zVe(x y:Nat)(qx:ordD x x=some .eq)(qy:ordD y y=some .eq)(lx:(ordD x 13943144446339055616==some .lt)=false)(gx:(ordD x 4719772409484279808==some .gt)=false)(ly:(ordD y 13943144446339055616==some .lt)=false)(gy:(ordD y 4719772409484279808==some .gt)=false)(n m:Int)(ix:floatToIntVal .f64 x .i64=some n)(iy:floatToIntVal .f64 y .i64=some m)(dx:(ordD (floatOfInt .f64 n) x != some .eq)=false)(dy:(ordD (floatOfInt .f64 m) y != some .eq)=false)(w:World):CG 65 #[.float .f64 x,.float .f64 y] w (.tuple #[V 3 n m E0,.int .i64 0]):=by
 have c1:=fun w=>zD0 84 x n ix (by kernel_rfl) w;have c2:=fun w=>zD0 84 y m iy (by kernel_rfl) w;clear ix iy
 go_enter func65,ntmps65
 go_wp2_with fail
 refine(zLG n m _).mono ?_;rintro e w1 ⟨rfl,hb1⟩;obtain⟨hc1,hf1⟩:=hb1.rules
 have hz1:w.heap.size<w1.heap.size:=by have:=hb1.size;simp at this;omega
 go_wp2
 exact bodyPost_ret (v:=.tuple #[V 3 n m E0,.int .i64 0]) (by simp[results,results65,go_sem,hc1]) rfl ⟨rfl,by repeat(first|exact G.refl _|assumption|refine G.alloc ?_ _|refine G.drew ?_|refine G.setCell ?_ (by simp) _|refine G.trans ?_ (by assumption))⟩
theorem zTS(x y:Nat)(hx:x<2^64)(hy:y<2^64):∃(k a b c:Int),
  (∀w,CG 64 #[.complex .f64 x y] w (.tuple #[V k a b E0,.int .i64 c]))∧
  (∀w,CG 65 #[.float .f64 x,.float .f64 y] w (.tuple #[V k a b E0,.int .i64 c])):=by
 rcases zG0 x hx with h|⟨q1,b1,l1⟩|⟨q1,b1,l1,g1,r1,n,hn,i1,t1,d1⟩
 ·exact⟨0,0,0,13,zGU x y _ 13 0 0 0 13 (zX5 x y hx hy h) (zBT _ 13 (by decide)),zVf x y h⟩
 all_goals rcases zG0 y hy with h'|⟨q2,b2,l2⟩|⟨q2,b2,l2,g2,r2,m,hm,i2,t2,d2⟩
 ·exact⟨0,0,0,13,zGU x y _ 13 0 0 0 13 (zWA x y hx hy q1 h') (zBT _ 13 (by decide)),zQ4 x y q1 h'⟩
 iterate 2
  ·refine⟨0,0,0,11,zGU x y _ 11 0 0 0 11 (zX9 x y hx hy q1 q2 b1) (zBT _ 11 (by decide)),?_⟩
   rcases l1 with l1|⟨l1,g1⟩
   ·exact zVl x y q1 q2 l1
   ·exact zVk x y q1 q2 l1 g1
 ·exact⟨0,0,0,13,zGU x y _ 13 0 0 0 13 (zWA x y hx hy q1 h') (zBT _ 13 (by decide)),zQ4 x y q1 h'⟩
 ·refine⟨0,0,0,11,zGU x y _ 11 0 0 0 11 (zX8 x y hx hy q1 q2 b1 b2) (zBT _ 11 (by decide)),?_⟩
  rcases l2 with l2|⟨l2,g2⟩
  ·exact zVj x y q1 q2 l1 g1 l2
  ·exact zVi x y q1 q2 l1 g1 l2 g2
 ·cases e1:frB x
  ·cases e2:frB y
   ·exact⟨3,n,m,0,zGU x y _ 0 3 n m 0 (zX4 x y hx hy q1 q2 b1 b2 r1 e1 r2 e2) (zQR x y n m i1 i2),zVe x y q1 q2 l1 g1 l2 g2 n m i1 i2 (d1.trans e1) (d2.trans e2)⟩
   ·exact⟨0,0,0,13,zGU x y _ 13 0 0 0 13 (zX6 x y hx hy q1 q2 b1 b2 r1 e1 r2 e2) (zBT _ 13 (by decide)),zVg x y q1 q2 l1 g1 l2 g2 n m i1 i2 (d1.trans e1) (d2.trans e2)⟩
  ·exact⟨0,0,0,13,zGU x y _ 13 0 0 0 13 (zX7 x y hx hy q1 q2 b1 b2 r1 e1) (zBT _ 13 (by decide)),zVh x y q1 q2 l1 g1 l2 g2 n m i1 i2 (d1.trans e1)⟩
end
section
open Go.RowKit Ieee
def nanW(w:World):Nat:=(Question.nanBits .f64 0 0).cut (w.tape w.drawn (.nanBits .f64 0 0))
theorem zTq(w:World):nanW w<2^64:=by
 unfold nanW;simp only[Question.cut];omega
theorem zR0(w:World):(binOp .quo 84 (.float .f64 0) (.float .f64 0)).run prog w=.ok (.float .f64 (nanW w)) w.drew:=by
 have h:FloatKind.f64.format.div 0 0=none:=by decide +kernel
 simp[binOp,Op.floatArith,h,Question.forced,nanW]
theorem zGn(s:Bool)(r:Nat)(h:r≤9218868437227405312)(t:Bool)(f:Nat):double.read (double.word s r)≠.nan t f:=by
 intro he;have hw:=(zB7 s r (by omega)).2;unfold Format.read at he
 dsimp only at he
 rw[d_sw,zF9,hw] at he
 split at he
 ·cases he
 ·split at he
  ·cases he
  ·split at he
   ·cases he
   ·omega
theorem zF0(n:Int)(t:Bool)(f:Nat):double.read (floatOfInt .f64 n)≠.nan t f:=by
 show double.read (double.nearest (decide (n<0)) n.natAbs 0)≠_;unfold Format.nearest
 split
 ·exact zGn _ _ (by omega) t f
 ·dsimp only
  rw[zF9];exact zGn _ _ (Nat.min_le_right _ _) t f
theorem zMg(n:Int)(y:Nat)(s:Bool)(m:Nat)(p:Int)(hy:double.read y=.number s m p)(hm:m≠0):∃r,floatBits .quo .f64 (floatOfInt .f64 n) y=some r:=by
 show∃r,((double.read (floatOfInt .f64 n)).quotient (double.fractionBits+2) (double.read y)).map double.write=some r
 rw[hy]
 cases h:double.read (floatOfInt .f64 n)with
 | nan t f=>exact absurd h (zF0 n t f)
 | infinity t=>exact⟨_,rfl⟩
 | number t q i=>simp[Datum.quotient,hm]
theorem zVS(n:Int)(y:Nat)(s:Bool)(m:Nat)(p:Int)(hy:double.read y=.number s m p)(hm:m≠0):∃r,floatBits .mul .f64 (floatOfInt .f64 n) y=some r:=by
 show∃r,((double.read (floatOfInt .f64 n)).product (double.read y)).map double.write=some r
 rw[hy]
 cases h:double.read (floatOfInt .f64 n)with
 | nan t f=>exact absurd h (zF0 n t f)
 | infinity t=>simp[Datum.product,hm]
 | number t q i=>exact⟨_,rfl⟩
theorem zW0(n:Int)(y:Nat)(s:Bool)(m:Nat)(p:Int)(hy:double.read y=.number s m p):∃r,floatBits .add .f64 (floatOfInt .f64 n) y=some r:=by
 show∃r,((double.read (floatOfInt .f64 n)).sum (double.read y)).map double.write=some r
 rw[hy]
 cases h:double.read (floatOfInt .f64 n)with
 | nan t f=>exact absurd h (zF0 n t f)
 | infinity t=>exact⟨_,rfl⟩
 | number t q i=>exact⟨_,rfl⟩
theorem zEU{op:BinOp}{x y r:Nat}(h:floatBits op .f64 x y=some r):r<2^64:=by
 have:=floatBits_wf h
 simpa [Lit.wf] using this
theorem zWb(n:Int):floatOfInt .f64 n<2^64:=by
 have:=floatOfInt_wf .f64 n
 simpa [Lit.wf] using this
theorem zGD(y:Nat)(h:(match double.read y with|.number _ m _=>m != 0|_=>false)=true):∃s m p,double.read y=.number s m p∧m≠0:=by
 cases e:double.read y with
 | nan t f=>rw[e] at h;cases h
 | infinity t=>rw[e] at h;cases h
 | number t q i=>rw[e] at h;exact⟨t,q,i,rfl,by simpa using h⟩
def zAw(x odd:Int)(w:World):Prop:=Calls prog 63 #[.int .i64 x,.int .i64 odd] w fun e w'=>∃b,e=.returned (.float .f64 b)∧b<2^64∧G w w'
theorem zYk(x:Int)(w:World):zAw x 1 w:=by
 have hn:=zR0;unfold zAw
 go_enter func63,ntmps63
 go_wp2
 go_ret;exact⟨_,rfl,zTq _,(G.refl _).drew⟩
theorem zYj(x:Int)(w:World):zAw x 2 w:=by
 have hb:floatBits .quo .f64 4607182418800017408 0=some 9218868437227405312:=by decide +kernel
 have hn:=fun w=>run_float_arith (P:=prog) w .quo 84 .f64 _ _ _ hb;unfold zAw
 go_enter func63,ntmps63
 go_wp2
 go_ret;exact⟨_,rfl,by decide,G.refl _⟩
theorem zYi(x:Int)(w:World):zAw x 3 w:=by
 have hb:floatBits .quo .f64 13830554455654793216 0=some 18442240474082181120:=by decide +kernel
 have hn:=fun w=>run_float_arith (P:=prog) w .quo 84 .f64 _ _ _ hb;unfold zAw
 go_enter func63,ntmps63
 go_wp2
 go_ret;exact⟨_,rfl,by decide,G.refl _⟩
theorem zYh(x:Int)(w:World):zAw x 4 w:=by
 have hn:Op.unary .neg (.float .f64 0)=pure (.float .f64 9223372036854775808):=rfl;unfold zAw
 go_enter func63,ntmps63
 go_wp2
 go_ret;exact⟨_,rfl,by decide,G.refl _⟩
theorem zYg(x:Int)(w:World):zAw x 5 w:=by
 obtain⟨s,m,p,hy,hm⟩:=zGD 4621819117588971520 (by decide +kernel);obtain⟨r,hb⟩:=zMg x 4621819117588971520 s m p hy hm;have hn:=fun w=>run_float_arith (P:=prog) w .quo 84 .f64 _ _ _ hb;have hl:=zEU hb;have HL:Hid _:=hl;clear hb hy hm hl;unfold zAw
 go_enter func63,ntmps63
 go_wp2
 go_ret;exact⟨_,rfl,HL.out,G.refl _⟩
theorem zYf(x:Int)(w:World):zAw x 6 w:=by
 obtain⟨s,m,p,hy,hm⟩:=zGD 4613937818241073152 (by decide +kernel);obtain⟨r,hb⟩:=zMg x 4613937818241073152 s m p hy hm;have hn:=fun w=>run_float_arith (P:=prog) w .quo 84 .f64 _ _ _ hb;have hl:=zEU hb;have HL:Hid _:=hl;clear hb hy hm hl;unfold zAw
 go_enter func63,ntmps63
 go_wp2
 go_ret;exact⟨_,rfl,HL.out,G.refl _⟩
theorem zYe(x:Int)(w:World):zAw x 7 w:=by
 obtain⟨s,m,p,hy,hm⟩:=zGD 1 (by decide +kernel);obtain⟨r,hb⟩:=zVS x 1 s m p hy hm;have hn:=fun w=>run_float_arith (P:=prog) w .mul 84 .f64 _ _ _ hb;have hl:=zEU hb;have HL:Hid _:=hl;clear hb hy hm hl;unfold zAw
 go_enter func63,ntmps63
 go_wp2
 go_ret;exact⟨_,rfl,HL.out,G.refl _⟩
theorem zYd(x:Int)(w:World):zAw x 8 w:=by
 obtain⟨s,m,p,hy,hm⟩:=zGD 4472406533629990549 (by decide +kernel);obtain⟨r,hb⟩:=zW0 x 4472406533629990549 s m p hy;have hn:=fun w=>run_float_arith (P:=prog) w .add 84 .f64 _ _ _ hb;have hl:=zEU hb;have HL:Hid _:=hl;clear hb hy hm hl;unfold zAw
 go_enter func63,ntmps63
 go_wp2
 go_ret;exact⟨_,rfl,HL.out,G.refl _⟩
theorem zYb(x:Int)(odd:Int)(ho:odd<1∨9<odd)(w:World):zAw x odd w:=by
 have n1:(odd==1)=false:=by simp;omega
 have n2:(odd==2)=false:=by simp;omega
 have n3:(odd==3)=false:=by simp;omega
 have n4:(odd==4)=false:=by simp;omega
 have n5:(odd==5)=false:=by simp;omega
 have n6:(odd==6)=false:=by simp;omega
 have n7:(odd==7)=false:=by simp;omega
 have n8:(odd==8)=false:=by simp;omega
 have n9:(odd==9)=false:=by simp;omega
 clear ho;obtain⟨s,m,p,hy,hm⟩:=zGD 4616189618054758400 (by decide +kernel);obtain⟨r,hb⟩:=zMg x 4616189618054758400 s m p hy hm;have hn:=fun w=>run_float_arith (P:=prog) w .quo 84 .f64 _ _ _ hb;have hl:=zEU hb;have HL:Hid _:=hl;clear hb hy hm hl;unfold zAw
 go_enter func63,ntmps63
 go_wp2
 go_ret;exact⟨_,rfl,HL.out,G.refl _⟩
theorem zYc(x:Int)(w:World):zAw x 9 w:=by
 unfold zAw
 go_enter func63,ntmps63
 go_wp2
 go_ret;exact⟨_,rfl,zWb x,G.refl _⟩
theorem zGS(x odd:Int)(w:World):zAw x odd w:=by
 by_cases h:odd<1∨9<odd
 ·exact zYb x odd h w
 ·have:odd=1∨odd=2∨odd=3∨odd=4∨odd=5∨odd=6∨odd=7∨odd=8∨odd=9:=by omega
  rcases this with rfl|rfl|rfl|rfl|rfl|rfl|rfl|rfl|rfl
  ·exact zYk x w
  ·exact zYj x w
  ·exact zYi x w
  ·exact zYh x w
  ·exact zYg x w
  ·exact zYf x w
  ·exact zYe x w
  ·exact zYd x w
  ·exact zYc x w
end
end Go.Proofs.YthmdjhfbhbheeaaGreatDoor
