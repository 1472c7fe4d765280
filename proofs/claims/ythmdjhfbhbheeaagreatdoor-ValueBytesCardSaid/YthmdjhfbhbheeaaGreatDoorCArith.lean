import Derived.Test.YthmdjhfbhbheeaaGreatDoorUnC
import Derived.Test.YthmdjhfbhbheeaaGreatDoorFlNo
namespace Go.Proofs.YthmdjhfbhbheeaaGreatDoor
open Go.Proofs.Tryz
set_option maxHeartbeats 1000000
set_option maxRecDepth 100000
section
open Go.RowKit
attribute [local go_sem] zA8 zAr zB9 zAN
def P25(n:Int):Prop:=-33554432≤n∧n≤33554432
theorem P25.abs{n:Int}(h:P25 n):n.natAbs≤33554432:=by obtain⟨h1,h2⟩:=h;omega
theorem P25.lt{n:Int}(h:P25 n):n.natAbs<2^53:=by obtain⟨h1,h2⟩:=h;omega
theorem P25.mul{a b:Int}(ha:P25 a)(hb:P25 b):(a*b).natAbs≤1125899906842624:=by
 rw[Int.natAbs_mul];exact Nat.mul_le_mul ha.abs hb.abs
theorem zRx(x y z t p q:Nat)(a b:Int)(hc:cSumBits .add .f64 x y z t=some (p,q))(hp:Fl p a)(hq:Fl q b)(ha:P25 a)(hb:P25 b)(w:World) :
  CG 158 #[.int .i64 1,.complex .f64 x y,.complex .f64 z t] w (.tuple #[IC p q,.int .i64 0]):=by
 have e1:=fun w=>run_complex_sum (P:=prog) w .add (.inl rfl) 79 .f64 x y z t p q hc;have HF:Hid (∀w,Calls prog 106 #[.complex .f64 p q] w fun e w'=>e=.returned (.tuple #[IC p q,.int .i64 0])∧w'=w):=fun w=>zGT p q a b hp hq ha.abs hb.abs w;clear hc hp hq ha hb
 go_enter func158,ntmps158
 go_wp2_with fail
 refine(HF.out _).mono ?_;rintro e w1 ⟨rfl,rfl⟩
 go_wp2
 go_ret2
 exact⟨rfl,G.refl _⟩
theorem zRt(x y z t p q:Nat)(a b:Int)(hc:cSumBits .sub .f64 x y z t=some (p,q))(hp:Fl p a)(hq:Fl q b)(ha:P25 a)(hb:P25 b)(w:World) :
  CG 158 #[.int .i64 2,.complex .f64 x y,.complex .f64 z t] w (.tuple #[IC p q,.int .i64 0]):=by
 have e1:=fun w=>run_complex_sum (P:=prog) w .sub (.inr rfl) 79 .f64 x y z t p q hc;have HF:Hid (∀w,Calls prog 106 #[.complex .f64 p q] w fun e w'=>e=.returned (.tuple #[IC p q,.int .i64 0])∧w'=w):=fun w=>zGT p q a b hp hq ha.abs hb.abs w;clear hc hp hq ha hb
 go_enter func158,ntmps158
 go_wp2_with fail
 refine(HF.out _).mono ?_;rintro e w1 ⟨rfl,rfl⟩
 go_wp2
 go_ret2
 exact⟨rfl,G.refl _⟩
theorem zRu(x y z t p q:Nat)(a b:Int)(hc:cMulBits x y z t=some (p,q))(hp:Fl p a)(hq:Fl q b)(ha:P25 a)(hb:P25 b)(w:World) :
  CG 158 #[.int .i64 3,.complex .f64 x y,.complex .f64 z t] w (.tuple #[IC p q,.int .i64 0]):=by
 have e1:=fun w=>run_complex_mul (P:=prog) w 79 x y z t p q hc;have HF:Hid (∀w,Calls prog 106 #[.complex .f64 p q] w fun e w'=>e=.returned (.tuple #[IC p q,.int .i64 0])∧w'=w):=fun w=>zGT p q a b hp hq ha.abs hb.abs w;clear hc hp hq ha hb
 go_enter func158,ntmps158
 go_wp2_with fail
 refine(HF.out _).mono ?_;rintro e w1 ⟨rfl,rfl⟩
 go_wp2
 go_ret2
 exact⟨rfl,G.refl _⟩
theorem zIE{x y z t:Nat}{a b c d:Int}(h1:Fl x a)(h2:Fl y b)(h3:Fl z c)(h4:Fl t d)(g1:(a+c).natAbs<2^53)(g2:(b+d).natAbs<2^53) :
  ∃p q,cSumBits .add .f64 x y z t=some (p,q)∧Fl p (a+c)∧Fl q (b+d):=by
 obtain⟨p,hp,fp⟩:=h1.add h3 g1;obtain⟨q,hq,fq⟩:=h2.add h4 g2;exact⟨p,q,by simp[cSumBits,hp,hq],fp,fq⟩
theorem zEP{x y z t:Nat}{a b c d:Int}(h1:Fl x a)(h2:Fl y b)(h3:Fl z c)(h4:Fl t d)(g1:(a-c).natAbs<2^53)(g2:(b-d).natAbs<2^53) :
  ∃p q,cSumBits .sub .f64 x y z t=some (p,q)∧Fl p (a-c)∧Fl q (b-d):=by
 obtain⟨p,hp,fp⟩:=h1.sub h3 g1;obtain⟨q,hq,fq⟩:=h2.sub h4 g2;exact⟨p,q,by simp[cSumBits,hp,hq],fp,fq⟩
theorem zCC{x y z t:Nat}{a b c d:Int}(h1:Fl x a)(h2:Fl y b)(h3:Fl z c)(h4:Fl t d)(g1:(a*c).natAbs<2^53)(g2:(b*d).natAbs<2^53)(g3:(a*d).natAbs<2^53)(g4:(b*c).natAbs<2^53)
  (g5:(a*c-b*d).natAbs<2^53) (g6:(a*d+b*c).natAbs<2^53):∃p q,cMulBits x y z t=some (p,q)∧Fl p (a*c-b*d)∧Fl q (a*d+b*c):=by
 obtain⟨u1,k1,f1⟩:=h1.mul h3 g1;obtain⟨u2,k2,f2⟩:=h2.mul h4 g2;obtain⟨u3,k3,f3⟩:=h1.mul h4 g3;obtain⟨u4,k4,f4⟩:=h2.mul h3 g4;obtain⟨p,k5,fp⟩:=f1.sub f2 g5;obtain⟨q,k6,fq⟩:=f3.add f4 g6;exact⟨p,q,by simp[cMulBits,k1,k2,k3,k4,k5,k6],fp,fq⟩
end
section
open Go.RowKit
def Nm(x:Nat):Prop:=x<2^64∧∃s m p,Ieee.double.read x=.number s m p
theorem Fl.nm{x:Nat}{a:Int}(h:Fl x a):Nm x:=by
 obtain⟨h1,s,k,h2,_⟩:=h;exact⟨h1,_,_,_,h2⟩
theorem zDW(x:Nat)(h:Nm x)(w:World):Calls prog 144 #[.float .f64 x] w fun e w'=>e=.returned (.bool false)∧w'=w:=by
 have ho:FloatKind.f64.format.order x x=some .eq:=by
  obtain⟨_,s,m,p,hr⟩:=h;exact zKN hr
 clear h
 go_enter func144,ntmps144
 go_wp2
 go_ret;exact⟨by simp,rfl⟩
theorem zE1(x:Nat)(h:Nm x)(w:World):Calls prog 145 #[.float .f64 x] w fun e w'=>e=.returned (.float .f64 (strike x))∧w'=w:=by
 have h1:=zH9 x;have h2:=zH8 (strike x:Int);have h3:bits .andNot .u64 (x:Int) 9223372036854775808=(strike x:Int):=zDj x h.1;clear h;rw[Int.toNat_natCast] at h2
 go_enter func145,ntmps145
 go_wp2
 go_ret;exact⟨rfl,rfl⟩
theorem zFI(x:Nat)(h:Nm x)(w:World):Calls prog 146 #[.float .f64 x] w fun e w'=>e=.returned (.float .f64 (tr x))∧w'=w:=by
 obtain⟨_,s,m,p,hd⟩:=h;have ht:∀w,_:=fun w=>zEr x w hd;have e:Ieee.double.write ((Ieee.double.read x).integral .zero)=tr x:=rfl;rw[e] at ht;clear hd e
 go_enter func146,ntmps146
 go_wp2
 go_ret;exact⟨rfl,rfl⟩
theorem zWE(x y:Nat)(hx:Nm x)(hy:Nm y)(o1:(FloatKind.f64.format.order (strike x) 4719772409484279808==some .gt)=true)(w:World):Calls prog 106 #[.complex .f64 x y] w fun e w'=>e=.returned (.tuple #[.nilIface,.int .i64 11])∧w'=w:=by
 have HX:Hid _:=hx;have HY:Hid _:=hy;clear hx hy
 go_enter func106,ntmps106
 go_wp2_with fail
 refine(zDW x HX.out _).mono ?_;rintro e w1 ⟨rfl,rfl⟩
 go_wp2_with fail
 refine(zDW y HY.out _).mono ?_;rintro e w1 ⟨rfl,rfl⟩
 go_wp2_with fail
 refine(zE1 x HX.out _).mono ?_;rintro e w1 ⟨rfl,rfl⟩
 go_wp2
 go_ret2
 exact⟨rfl,rfl⟩
theorem zWD(x y:Nat)(hx:Nm x)(hy:Nm y)(o1:(FloatKind.f64.format.order (strike x) 4719772409484279808==some .gt)=false)(o2:(FloatKind.f64.format.order (strike y) 4719772409484279808==some .gt)=true)(w:World):Calls prog 106 #[.complex .f64 x y] w fun e w'=>e=.returned (.tuple #[.nilIface,.int .i64 11])∧w'=w:=by
 have HX:Hid _:=hx;have HY:Hid _:=hy;clear hx hy
 go_enter func106,ntmps106
 go_wp2_with fail
 refine(zDW x HX.out _).mono ?_;rintro e w1 ⟨rfl,rfl⟩
 go_wp2_with fail
 refine(zDW y HY.out _).mono ?_;rintro e w1 ⟨rfl,rfl⟩
 go_wp2_with fail
 refine(zE1 x HX.out _).mono ?_;rintro e w1 ⟨rfl,rfl⟩
 go_wp2_with fail
 refine(zE1 y HY.out _).mono ?_;rintro e w1 ⟨rfl,rfl⟩
 go_wp2
 go_ret2
 exact⟨rfl,rfl⟩
theorem zWG(x y:Nat)(hx:Nm x)(hy:Nm y)(o1:(FloatKind.f64.format.order (strike x) 4719772409484279808==some .gt)=false)(o2:(FloatKind.f64.format.order (strike y) 4719772409484279808==some .gt)=false)(o3:(FloatKind.f64.format.order (tr x) x != some .eq)=true)(w:World):Calls prog 106 #[.complex .f64 x y] w fun e w'=>e=.returned (.tuple #[.nilIface,.int .i64 13])∧w'=w:=by
 have HX:Hid _:=hx;have HY:Hid _:=hy;clear hx hy
 go_enter func106,ntmps106
 go_wp2_with fail
 refine(zDW x HX.out _).mono ?_;rintro e w1 ⟨rfl,rfl⟩
 go_wp2_with fail
 refine(zDW y HY.out _).mono ?_;rintro e w1 ⟨rfl,rfl⟩
 go_wp2_with fail
 refine(zE1 x HX.out _).mono ?_;rintro e w1 ⟨rfl,rfl⟩
 go_wp2_with fail
 refine(zE1 y HY.out _).mono ?_;rintro e w1 ⟨rfl,rfl⟩
 go_wp2_with fail
 refine(zFI x HX.out _).mono ?_;rintro e w1 ⟨rfl,rfl⟩
 go_wp2
 go_ret2
 exact⟨rfl,rfl⟩
theorem zWF(x y:Nat)(hx:Nm x)(hy:Nm y)(o1:(FloatKind.f64.format.order (strike x) 4719772409484279808==some .gt)=false)(o2:(FloatKind.f64.format.order (strike y) 4719772409484279808==some .gt)=false)(o3:(FloatKind.f64.format.order (tr x) x != some .eq)=false)(o4:(FloatKind.f64.format.order (tr y) y != some .eq)=true)(w:World):Calls prog 106 #[.complex .f64 x y] w fun e w'=>e=.returned (.tuple #[.nilIface,.int .i64 13])∧w'=w:=by
 have HX:Hid _:=hx;have HY:Hid _:=hy;clear hx hy
 go_enter func106,ntmps106
 go_wp2_with fail
 refine(zDW x HX.out _).mono ?_;rintro e w1 ⟨rfl,rfl⟩
 go_wp2_with fail
 refine(zDW y HY.out _).mono ?_;rintro e w1 ⟨rfl,rfl⟩
 go_wp2_with fail
 refine(zE1 x HX.out _).mono ?_;rintro e w1 ⟨rfl,rfl⟩
 go_wp2_with fail
 refine(zE1 y HY.out _).mono ?_;rintro e w1 ⟨rfl,rfl⟩
 go_wp2_with fail
 refine(zFI x HX.out _).mono ?_;rintro e w1 ⟨rfl,rfl⟩
 go_wp2_with fail
 refine(zFI y HY.out _).mono ?_;rintro e w1 ⟨rfl,rfl⟩
 go_wp2
 go_ret2
 exact⟨rfl,rfl⟩
theorem zH7(x y:Nat)(a b:Int)(hx:Fl x a)(hy:Fl y b)(h:¬(P25 a∧P25 b))(w:World):Calls prog 106 #[.complex .f64 x y] w fun e w'=>e=.returned (.tuple #[.nilIface,.int .i64 11])∧w'=w:=by
 by_cases ha:a.natAbs≤33554432
 ·by_cases hb:b.natAbs≤33554432
  ·exact absurd ⟨⟨by omega,by omega⟩,⟨by omega,by omega⟩⟩ h
  ·exact zWD x y hx.nm hy.nm (zMw hx ha) (zRa hy (by omega)) w
 ·exact zWE x y hx.nm hy.nm (zRa hx (by omega)) w
theorem zDA(x y z t p q:Nat)(a b:Int)(hc:cSumBits .add .f64 x y z t=some (p,q))(hp:Fl p a)(hq:Fl q b)(h:¬(P25 a∧P25 b))(w:World) :
  CG 158 #[.int .i64 1,.complex .f64 x y,.complex .f64 z t] w (.tuple #[.nilIface,.int .i64 11]):=by
 have e1:=fun w=>run_complex_sum (P:=prog) w .add (.inl rfl) 79 .f64 x y z t p q hc;have HF:Hid _:=zH7 p q a b hp hq h;clear hc hp hq h
 go_enter func158,ntmps158
 go_wp2_with fail
 refine(HF.out _).mono ?_;rintro e w1 ⟨rfl,rfl⟩
 go_wp2
 go_ret2
 exact⟨rfl,G.refl _⟩
theorem zDy(x y z t p q:Nat)(a b:Int)(hc:cSumBits .sub .f64 x y z t=some (p,q))(hp:Fl p a)(hq:Fl q b)(h:¬(P25 a∧P25 b))(w:World) :
  CG 158 #[.int .i64 2,.complex .f64 x y,.complex .f64 z t] w (.tuple #[.nilIface,.int .i64 11]):=by
 have e1:=fun w=>run_complex_sum (P:=prog) w .sub (.inr rfl) 79 .f64 x y z t p q hc;have HF:Hid _:=zH7 p q a b hp hq h;clear hc hp hq h
 go_enter func158,ntmps158
 go_wp2_with fail
 refine(HF.out _).mono ?_;rintro e w1 ⟨rfl,rfl⟩
 go_wp2
 go_ret2
 exact⟨rfl,G.refl _⟩
theorem zDz(x y z t p q:Nat)(a b:Int)(hc:cMulBits x y z t=some (p,q))(hp:Fl p a)(hq:Fl q b)(h:¬(P25 a∧P25 b))(w:World) :
  CG 158 #[.int .i64 3,.complex .f64 x y,.complex .f64 z t] w (.tuple #[.nilIface,.int .i64 11]):=by
 have e1:=fun w=>run_complex_mul (P:=prog) w 79 x y z t p q hc;have HF:Hid _:=zH7 p q a b hp hq h;clear hc hp hq h
 go_enter func158,ntmps158
 go_wp2_with fail
 refine(HF.out _).mono ?_;rintro e w1 ⟨rfl,rfl⟩
 go_wp2
 go_ret2
 exact⟨rfl,G.refl _⟩
theorem zI8(x y:Nat)(a b:Int)(hx:Fl x a)(hy:Fl y b)(ha:(a*a).natAbs<2^53)(hb:(b*b).natAbs<2^53)(hs:(a*a+b*b).natAbs<2^53) :
  ∃r,Fl r (a*a+b*b)∧∀w,Calls prog 172 #[.complex .f64 x y] w fun e w'=>e=.returned (.float .f64 r)∧w'=w:=by
 obtain⟨p,hp,fp⟩:=hx.mul hx ha;obtain⟨q,hq,fq⟩:=hy.mul hy hb;obtain⟨r,hr,fr⟩:=fp.add fq hs;refine⟨r,fr,fun w=>?_⟩;have e1:=fun w=>run_float_arith (P:=prog) w .mul 84 .f64 x x p hp;have e2:=fun w=>run_float_arith (P:=prog) w .mul 84 .f64 y y q hq;have e3:=fun w=>run_float_arith (P:=prog) w .add 84 .f64 p q r hr;clear hp hq hr fp fq fr ha hb hs hx hy
 go_enter func172,ntmps172
 go_wp2
 go_ret;exact⟨rfl,rfl⟩
theorem zK9{z t:Nat}{c d:Int}(hz:Fl z c)(ht:Fl t d)(h:c≠0∨d≠0):((FloatKind.f64.format.order z 0==some .eq)&&(FloatKind.f64.format.order t 0==some .eq))=false:=by
 have e1:FloatKind.f64.format.order z 0=some (compare c 0):=hz.order Fl.zero;have e2:FloatKind.f64.format.order t 0=some (compare d 0):=ht.order Fl.zero;rw[e1,e2]
 have k:∀n:Int,n≠0→(some (compare n 0)==some Ordering.eq)=false:=fun n hn=>by
  simp only[compare,compareOfLessAndEq]
  by_cases c:n<0
  ·simp[c]
  ·simp[c,hn]
 rcases h with h|h
 ·rw[k c h];rfl
 ·rw[k d h,Bool.and_false]
theorem zOc{z t:Nat}(hz:Fl z 0)(ht:Fl t 0):((FloatKind.f64.format.order z 0==some .eq)&&(FloatKind.f64.format.order t 0==some .eq))=true:=by
 have e1:FloatKind.f64.format.order z 0=some (compare (0:Int) 0):=hz.order Fl.zero;have e2:FloatKind.f64.format.order t 0=some (compare (0:Int) 0):=ht.order Fl.zero;rw[e1,e2];rfl
theorem zGf(op:Int)(ho:op=4∨op=5)(x y z t:Nat)(hz:Fl z 0)(ht:Fl t 0)(w:World) :
  CG 158 #[.int .i64 op,.complex .f64 x y,.complex .f64 z t] w (.tuple #[.nilIface,.int .i64 12]):=by
 have e0:=zOc hz ht
 have n1:(op==1)=false:=by simp;omega
 have n2:(op==2)=false:=by simp;omega
 have n3:(op==3)=false:=by simp;omega
 clear hz ht ho
 go_enter func158,ntmps158
 go_wp2
 go_ret2
 exact⟨rfl,G.refl _⟩
theorem zV1(c:Int):c.natAbs≤(c*c).natAbs:=by
 rw[Int.natAbs_mul]
 rcases Nat.eq_zero_or_pos c.natAbs with h|h
 ·rw[h];exact Nat.le_refl _
 ·exact Nat.le_mul_of_pos_left _ h
theorem zFV{a c:Int}(ha:P25 a):(a*c).natAbs≤33554432*c.natAbs:=by
 rw[Int.natAbs_mul];exact Nat.mul_le_mul_right _ ha.abs
theorem zOt(c:Int):0≤c*c:=by
 rcases Int.le_total 0 c with h|h
 ·exact Int.mul_nonneg h h
 ·have:=Int.mul_nonneg (show 0≤-c by omega) (show 0≤-c by omega)
  rw[Int.neg_mul_neg] at this;exact this
theorem zQY{a b c d:Int}(ha:P25 a)(hb:P25 b):(a*c-b * -d).natAbs≤33554432*(c*c+d*d).natAbs∧(a * -d+b*c).natAbs≤33554432*(c*c+d*d).natAbs:=by
 have h1:=zFV (c:=c) ha;have h2:=zFV (c:=-d) hb;have h3:=zFV (c:=-d) ha;have h4:=zFV (c:=c) hb;have s1:=zV1 c;have s2:=zV1 d;have n1:=zOt c;have n2:=zOt d;rw[Int.natAbs_neg] at h2 h3;generalize a*c=u at *;generalize b * -d=u2 at *;generalize a * -d=u3 at *;generalize b*c=u4 at *;generalize c*c=q1 at *;generalize d*d=q2 at *;omega
theorem zC1{c d:Int}(h:c≠0∨d≠0):0<c*c+d*d:=by
 have n1:=zOt c;have n2:=zOt d
 have p1:c≠0→0<c*c:=fun h=>by
  rcases Int.lt_or_eq_of_le n1 with e|e
  ·exact e
  ·exact absurd (by rcases Int.mul_eq_zero.1 e.symm with e|e<;>exact e) h
 have p2:d≠0→0<d*d:=fun h=>by
  rcases Int.lt_or_eq_of_le n2 with e|e
  ·exact e
  ·exact absurd (by rcases Int.mul_eq_zero.1 e.symm with e|e<;>exact e) h
 rcases h with h|h
 ·have:=p1 h;omega
 ·have:=p2 h;omega
theorem zES(x y z t g h r u v:Nat)(rs:Value)(cd:Int)(e0:((FloatKind.f64.format.order z 0==some .eq)&&(FloatKind.f64.format.order t 0==some .eq))=false)
  (kc:cMulBits x y z (Op.negFloat .f64 t)=some (g,h)) (HN:∀w,Calls prog 172 #[.complex .f64 z t] w fun e w'=>e=.returned (.float .f64 r)∧w'=w) (ku:floatBits .quo .f64 g r=some u) (kv:floatBits .quo .f64 h r=some v)
  (HF:∀w,Calls prog 106 #[.complex .f64 u v] w fun e w'=>e=.returned (.tuple #[rs,.int .i64 cd])∧w'=w) (w:World) :
  CG 158 #[.int .i64 4,.complex .f64 x y,.complex .f64 z t] w (.tuple #[rs,.int .i64 cd]):=by
 have e1:=fun w=>run_complex_mul (P:=prog) w 79 x y z (Op.negFloat .f64 t) g h kc;have e2:=fun w=>run_float_arith (P:=prog) w .quo 84 .f64 g r u ku;have e3:=fun w=>run_float_arith (P:=prog) w .quo 84 .f64 h r v kv;have HF':Hid _:=HF;have HN':Hid _:=HN;clear HN HF kc ku kv
 go_enter func158,ntmps158
 go_wp2_with fail
 refine(zGb z t _).mono ?_;rintro e w1 ⟨rfl,rfl⟩
 go_wp2_with fail
 refine(HN'.out _).mono ?_;rintro e w1 ⟨rfl,rfl⟩
 go_wp2_with fail
 refine(HF'.out _).mono ?_;rintro e w1 ⟨rfl,rfl⟩
 go_wp2
 go_ret2
 exact⟨rfl,G.refl _⟩
theorem zKP{n d:Int}:n.natAbs%d.natAbs=0↔∃F,n=F*d:=by
 constructor
 ·intro h
  have h1:d.natAbs∣n.natAbs:=Nat.dvd_of_mod_eq_zero h;have h2:d∣n:=Int.natAbs_dvd_natAbs.1 h1;obtain⟨F,hF⟩:=h2;exact⟨F,by rw[hF,Int.mul_comm]⟩
 ·rintro⟨F,rfl⟩
  rw[Int.natAbs_mul];exact Nat.mul_mod_left _ _
theorem zIY{x y:Nat}{n d:Int}(hx:Fl x n)(hy:Fl y d)(hd:0<d)(hb:n.natAbs≤2251799813685248)(hr:n.natAbs≤33554432*d.natAbs) :
  ∃u,floatBits .quo .f64 x y=some u∧Nm u∧(FloatKind.f64.format.order (strike u) 4719772409484279808==some .gt)=false∧((∃F,n=F*d∧P25 F∧Fl u F)∨((¬∃F,n=F*d)∧(FloatKind.f64.format.order (tr u) u != some .eq)=true)):=by
 obtain⟨u,s,M,P,ku,hu,rd,hs,hQ⟩:=hx.quo hy hd (by omega) (.inl (by omega));have hM:=hQ.le hr;refine⟨u,ku,⟨hu,_,_,_,rd⟩,zKO hu rd hM,?_⟩
 by_cases c:∃F,n=F*d
 ·obtain⟨F,hF⟩:=c
  refine .inl ⟨F,hF,?_,Fl.quo_exact hu rd hs hQ hd hF⟩;rw[hF,Int.natAbs_mul] at hr;have:=Nat.le_of_mul_le_mul_right hr (by omega)
  constructor<;>omega
 ·refine .inr ⟨c,zHU rd ?_ ?_⟩
  ·have h1:M/2^P≤33554432:=Nat.div_le_of_le_mul (by rw[Nat.mul_comm];exact hM)
   omega
  ·intro e
   exact c (zKP.1 (hQ.mod.1 e))
theorem zRw(x y z t:Nat)(a b c d:Int)(hx:Fl x a)(hy:Fl y b)(hz:Fl z c)(ht:Fl t d)(ha:P25 a)(hb:P25 b)(hc:P25 c)(hd:P25 d)(hnz:c≠0∨d≠0) :
  (∃p q u v,a*c-b * -d=p*(c*c+d*d)∧a * -d+b*c=q*(c*c+d*d)∧P25 p∧P25 q∧Fl u p∧Fl v q∧∀w,CG 158 #[.int .i64 4,.complex .f64 x y,.complex .f64 z t] w (.tuple #[IC u v,.int .i64 0]))∨
  (((¬∃p,a*c-b * -d=p*(c*c+d*d))∨¬∃q,a * -d+b*c=q*(c*c+d*d))∧∀w,CG 158 #[.int .i64 4,.complex .f64 x y,.complex .f64 z t] w (.tuple #[.nilIface,.int .i64 13])):=by
 have nd:P25 (-d):=by obtain⟨h1,h2⟩:=hd;constructor<;>omega
 have hD:=zC1 hnz;obtain⟨l1,l2⟩:=zQY (c:=c) (d:=d) ha hb;have m1:=ha.mul hc;have m2:=hb.mul nd;have m3:=ha.mul nd;have m4:=hb.mul hc;have m5:=hc.mul hc;have m6:=hd.mul hd;obtain⟨g,h,kc,fg,fh⟩:=zCC hx hy hz ht.neg (by omega) (by omega) (by omega) (by omega) (by omega) (by omega);obtain⟨r,fr,HN⟩:=zI8 z t c d hz ht (by omega) (by omega) (by omega);obtain⟨u,ku,nu,ou,hu⟩:=zIY fg fr hD (by omega) l1;obtain⟨v,kv,nv,ov,hv⟩:=zIY fh fr hD (by omega) l2;have e0:=zK9 hz ht hnz
 rcases hu with ⟨p,hp,Pp,fu⟩|⟨hp,iu⟩
 ·rcases hv with ⟨q,hq,Pq,fv⟩|⟨hq,iv⟩
  ·exact .inl ⟨p,q,u,v,hp,hq,Pp,Pq,fu,fv,zES x y z t g h r u v _ _ e0 kc HN ku kv (zGT u v p q fu fv Pp.abs Pq.abs)⟩
  ·exact .inr ⟨.inr hq,zES x y z t g h r u v _ _ e0 kc HN ku kv (zWF u v nu nv ou ov (zHV fu Pp.lt) iv)⟩
 ·exact .inr ⟨.inl hp,zES x y z t g h r u v _ _ e0 kc HN ku kv (zWG u v nu nv ou ov iu)⟩
theorem zJa{n N p:Int}(hN:0<N)(hr:n.natAbs≤33554432*N.natAbs)(h1:p*(2*N)≤2*n+N)(h2:2*n+N<(p+1)*(2*N)):P25 p:=by
 have e:(N.natAbs:Int)=N:=by omega
 have hn1:n≤33554432*N:=by omega
 have hn2:-(33554432*N)≤n:=by omega
 constructor
 ·refine Int.not_lt.1 fun c=>?_
  have:(p+1)*(2*N)≤-33554432*(2*N):=Int.mul_le_mul_of_nonneg_right (by omega) (by omega);omega
 ·refine Int.not_lt.1 fun c=>?_
  have:33554433*(2*N)≤p*(2*N):=Int.mul_le_mul_of_nonneg_right (by omega) (by omega);omega
theorem zOQ{c d r s X Y N:Int}(hN:N=c*c+d*d)(hN0:0<N)(hc:P25 c)(hd:P25 d)(hX:r*c+s*d=X)(hY:s*c-r*d=Y)(x1:-N≤2*X)(x2:2*X≤N)(y1:-N≤2*Y)(y2:2*Y≤N):P25 r∧P25 s:=by
 have k1:r*N=c*X-d*Y:=by
  subst hN;subst hX;subst hY;simp only[Int.mul_add,Int.mul_sub]
  have e1:c*(r*c)=r*(c*c):=by ac_rfl
  have e2:c*(s*d)=d*(s*c):=by ac_rfl
  have e3:d*(r*d)=r*(d*d):=by ac_rfl
  omega
 have k2:s*N=d*X+c*Y:=by
  subst hN;subst hX;subst hY;simp only[Int.mul_add,Int.mul_sub]
  have e1:d*(r*c)=c*(r*d):=by ac_rfl
  have e2:d*(s*d)=s*(d*d):=by ac_rfl
  have e3:c*(s*c)=s*(c*c):=by ac_rfl
  omega
 have bd:∀{u Z:Int},P25 u→-N≤2*Z→2*Z≤N→(2*(u*Z)).natAbs≤33554432*N.natAbs:=by
  intro u Z hu z1 z2
  have:2*(u*Z)=u*(2*Z):=by ac_rfl
  rw[this,Int.natAbs_mul];exact Nat.mul_le_mul hu.abs (by omega)
 have b1:=bd hc x1 x2;have b2:=bd hd y1 y2;have b3:=bd hd x1 x2;have b4:=bd hc y1 y2
 have fin:∀{r:Int},(2*(r*N)).natAbs≤67108864*N.natAbs→P25 r:=by
  intro r h
  have e:2*(r*N)=2*r*N:=by rw[Int.mul_assoc]
  rw[e,Int.natAbs_mul] at h;have:=Nat.le_of_mul_le_mul_right h (by omega)
  constructor<;>omega
 constructor
 ·apply fin;rw[k1];omega
 ·apply fin;rw[k2];omega
theorem zUn(x y z t:Nat)(a b c d p q:Int)(hx:Fl x a)(hy:Fl y b)(hz:Fl z c)(ht:Fl t d)(ha:P25 a)(hb:P25 b)(hc:P25 c)(hd:P25 d)(hnz:c≠0∨d≠0)(hD:0<c*c+d*d)
  (hp1:p*(2*(c*c+d*d))≤2*(a*c-b * -d)+(c*c+d*d)) (hp2:2*(a*c-b * -d)+(c*c+d*d)<(p+1)*(2*(c*c+d*d)))
  (hq1:q*(2*(c*c+d*d))≤2*(a * -d+b*c)+(c*c+d*d)) (hq2:2*(a * -d+b*c)+(c*c+d*d)<(q+1)*(2*(c*c+d*d)))
  (Pp:P25 p) (Pq:P25 q) (Pr:P25 (a-(c*p-d*q))) (Ps:P25 (b-(c*q+d*p))) :
  ∃u v,Fl u (a-(c*p-d*q))∧Fl v (b-(c*q+d*p))∧∀w,CG 158 #[.int .i64 5,.complex .f64 x y,.complex .f64 z t] w (.tuple #[IC u v,.int .i64 0]):=by
 have nd:P25 (-d):=by obtain⟨h1,h2⟩:=hd;constructor<;>omega
 have m1:=ha.mul hc;have m2:=hb.mul nd;have m3:=ha.mul nd;have m4:=hb.mul hc;have m5:=hc.mul hc;have m6:=hd.mul hd;have m7:=hc.mul Pp;have m8:=hd.mul Pq;have m9:=hc.mul Pq;have m10:=hd.mul Pp;obtain⟨g,h,kc,fg,fh⟩:=zCC hx hy hz ht.neg (by omega) (by omega) (by omega) (by omega) (by omega) (by omega);obtain⟨r,fr,HN⟩:=zI8 z t c d hz ht (by omega) (by omega) (by omega);obtain⟨k,fk,HK⟩:=zFq g r _ _ p fg fr hD (by omega) (by omega) hp1 hp2 Pp.lt;obtain⟨l,fl',HL⟩:=zFq h r _ _ q fh fr hD (by omega) (by omega) hq1 hq2 Pq.lt;obtain⟨i,j,kj,fi,fj⟩:=zCC hz ht fk fl' (by omega) (by omega) (by omega) (by omega) (by omega) (by omega);obtain⟨u,v,ku,fu,fv⟩:=zEP hx hy fi fj Pr.lt Ps.lt;refine⟨u,v,fu,fv,fun w=>?_⟩;have e0:=zK9 hz ht hnz;have e1:=fun w=>run_complex_mul (P:=prog) w 79 x y z (Op.negFloat .f64 t) g h kc;have e2:=fun w=>run_complex_mul (P:=prog) w 79 z t k l i j kj;have e3:=fun w=>run_complex_sum (P:=prog) w .sub (.inr rfl) 79 .f64 x y i j u v ku;have HF:Hid (∀w,Calls prog 106 #[.complex .f64 u v] w fun e w'=>e=.returned (.tuple #[IC u v,.int .i64 0])∧w'=w):=fun w=>zGT u v _ _ fu fv Pr.abs Ps.abs w;have HN':Hid _:=HN;have HK':Hid _:=HK;have HL':Hid _:=HL;clear HN HK HL hx hy hz ht ha hb hc hd hnz hD hp1 hp2 hq1 hq2 Pp Pq Pr Ps nd m1 m2 m3 m4 m5 m6 m7 m8 m9 m10 kc fg fh fr fk fl' kj fi fj ku fu fv
 go_enter func158,ntmps158
 go_wp2_with fail
 refine(zGb z t _).mono ?_;rintro e w1 ⟨rfl,rfl⟩
 go_wp2_with fail
 refine(HN'.out _).mono ?_;rintro e w1 ⟨rfl,rfl⟩
 go_wp2_with fail
 refine(HK'.out _).mono ?_;rintro e w1 ⟨rfl,rfl⟩
 go_wp2_with fail
 refine(HL'.out _).mono ?_;rintro e w1 ⟨rfl,rfl⟩
 go_wp2_with fail
 refine(HF.out _).mono ?_;rintro e w1 ⟨rfl,rfl⟩
 go_wp2
 go_ret2
 exact⟨rfl,G.refl _⟩
theorem zRl{n N:Int}(hN:0<N):(2*n+N)/(2*N)*(2*N)≤2*n+N∧2*n+N<((2*n+N)/(2*N)+1)*(2*N):=by
 have h1:=Int.mul_ediv_add_emod (2*n+N) (2*N);have h2:=Int.emod_nonneg (2*n+N) (show 2*N≠0 by omega);have h3:=Int.emod_lt_of_pos (2*n+N) (show 0<2*N by omega);rw[Int.mul_comm] at h1;rw[Int.add_mul,Int.one_mul];generalize (2*n+N)/(2*N)*(2*N)=t at *;omega
theorem zRv(x y z t:Nat)(a b c d:Int)(hx:Fl x a)(hy:Fl y b)(hz:Fl z c)(ht:Fl t d)(ha:P25 a)(hb:P25 b)(hc:P25 c)(hd:P25 d)(hnz:c≠0∨d≠0) :
  ∃p q u v,p=(2*(a*c-b * -d)+(c*c+d*d))/(2*(c*c+d*d))∧q=(2*(a * -d+b*c)+(c*c+d*d))/(2*(c*c+d*d))∧P25 p∧P25 q∧P25 (a-(c*p-d*q))∧P25 (b-(c*q+d*p))∧Fl u (a-(c*p-d*q))∧Fl v (b-(c*q+d*p))∧
   ∀w,CG 158 #[.int .i64 5,.complex .f64 x y,.complex .f64 z t] w (.tuple #[IC u v,.int .i64 0]):=by
 have hD:=zC1 hnz;obtain⟨l1,l2⟩:=zQY (c:=c) (d:=d) ha hb;obtain⟨p1,p2⟩:=zRl (n:=a*c-b * -d) hD;obtain⟨q1,q2⟩:=zRl (n:=a * -d+b*c) hD;generalize hp:(2*(a*c-b * -d)+(c*c+d*d))/(2*(c*c+d*d))=p at p1 p2;generalize hq:(2*(a * -d+b*c)+(c*c+d*d))/(2*(c*c+d*d))=q at q1 q2;have Pp:=zJa hD l1 p1 p2;have Pq:=zJa hD l2 q1 q2
 have w1:p*(2*(c*c+d*d))=2*(p*(c*c+d*d)):=by ac_rfl
 have w2:(p+1)*(2*(c*c+d*d))=2*(p*(c*c+d*d))+2*(c*c+d*d):=by rw[Int.add_mul,Int.one_mul,w1]
 have w3:q*(2*(c*c+d*d))=2*(q*(c*c+d*d)):=by ac_rfl
 have w4:(q+1)*(2*(c*c+d*d))=2*(q*(c*c+d*d))+2*(c*c+d*d):=by rw[Int.add_mul,Int.one_mul,w3]
 have r1:(a-(c*p-d*q))*c+(b-(c*q+d*p))*d=(a*c-b * -d)-p*(c*c+d*d):=by
  simp only[Int.mul_add,Int.sub_mul,Int.add_mul,Int.mul_neg]
  have e1:c*p*c=p*(c*c):=by ac_rfl
  have e2:d*q*c=c*q*d:=by ac_rfl
  have e3:d*p*d=p*(d*d):=by ac_rfl
  omega
 have r2:(b-(c*q+d*p))*c-(a-(c*p-d*q))*d=(a * -d+b*c)-q*(c*c+d*d):=by
  simp only[Int.mul_add,Int.sub_mul,Int.add_mul,Int.mul_neg]
  have e1:c*q*c=q*(c*c):=by ac_rfl
  have e2:d*p*c=c*p*d:=by ac_rfl
  have e3:d*q*d=q*(d*d):=by ac_rfl
  omega
 obtain⟨Pr,Ps⟩:=zOQ rfl hD hc hd r1 r2 (by omega) (by omega) (by omega) (by omega);obtain⟨u,v,fu,fv,hcall⟩:=zUn x y z t a b c d p q hx hy hz ht ha hb hc hd hnz hD p1 p2 q1 q2 Pp Pq Pr Ps;exact⟨p,q,u,v,rfl,rfl,Pp,Pq,Pr,Ps,fu,fv,hcall⟩
end
end Go.Proofs.YthmdjhfbhbheeaaGreatDoor
