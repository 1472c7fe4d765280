import Derived.Test.YthmdjhfbhbheeaaGreatDoorAsserts
namespace Go.Proofs.YthmdjhfbhbheeaaGreatDoor
open Go.Proofs.Tryz
set_option maxHeartbeats 1000000
set_option maxRecDepth 100000
section
def I64(n:Int):Prop:=-9223372036854775808≤n∧n≤9223372036854775807
end
section
open Go.RowKit
attribute [local go_sem] zCm zA8 zAr zDl zB9 zAN zBG zDk zCT zCU zB0
abbrev IW(n:Int):Value:=.iface 135 (.int .i64 n)
theorem zIl(a b:Int)(h:I64 (a+b))(w:World):Calls prog 154 #[.int .i64 a,.int .i64 b] w fun e w'=>e=.returned (.tuple #[IW (a+b),.int .i64 0])∧w'=w:=by
 obtain⟨h1,h2⟩:=h
 by_cases c:0<b
 ·have c1:a<a+b:=by omega
  go_enter func154,ntmps154
  go_wp2
  go_ret2
  exact⟨rfl,rfl⟩
 ·have c1:¬a<a+b:=by omega
  go_enter func154,ntmps154
  go_wp2
  go_ret2
  exact⟨rfl,rfl⟩
theorem zDc(a b:Int)(h:I64 (a-b))(w:World):Calls prog 155 #[.int .i64 a,.int .i64 b] w fun e w'=>e=.returned (.tuple #[IW (a-b),.int .i64 0])∧w'=w:=by
 obtain⟨h1,h2⟩:=h
 by_cases c:0<b
 ·have c1:a-b<a:=by omega
  go_enter func155,ntmps155
  go_wp2
  go_ret2
  exact⟨rfl,rfl⟩
 ·have c1:¬a-b<a:=by omega
  go_enter func155,ntmps155
  go_wp2
  go_ret2
  exact⟨rfl,rfl⟩
theorem zLo(a b:Int)(h:a≠0):(a*b).tdiv a=b:=Int.mul_tdiv_cancel_left b h
theorem zEC(a b:Int)(h:I64 (a*b))(hb:I64 b)(w:World):Calls prog 156 #[.int .i64 a,.int .i64 b] w fun e w'=>e=.returned (.tuple #[IW (a*b),.int .i64 0])∧w'=w:=by
 obtain⟨h1,h2⟩:=h;obtain⟨h3,h4⟩:=hb
 by_cases c:a=0
 ·subst c
  go_enter func156,ntmps156
  go_wp2
  go_ret2
  exact⟨by simp,rfl⟩
 ·have z:(a==0)=false:=by simpa using c
  have d:=zLo a b c
  have hw:wrap64 (a*b)=a*b:=by unfold wrap64;omega
  have hw2:wrap64 b=b:=by unfold wrap64;omega
  by_cases c2:a = -1
  ·have n:(b==-9223372036854775808)=false:=by subst c2;simp;omega
   subst c2
   go_enter func156,ntmps156
   go_wp2
   go_ret2
   exact⟨by simp,rfl⟩
  ·have n:(a==-1)=false:=by simpa using c2
   go_enter func156,ntmps156
   go_wp2
   go_ret2
   exact⟨rfl,rfl⟩
theorem zQW(a b:Int)(h:I64 (a+b))(w:World):CG 122 #[.int .i64 1,.int .i64 a,.int .i64 b] w (.tuple #[IW (a+b),.int .i64 0]):=by
 have H:Hid (I64 (a+b)):=h;clear h
 go_enter func122,ntmps122
 go_wp2_with fail
 refine(zIl a b H.out _).mono ?_;rintro e w1 ⟨rfl,rfl⟩
 go_wp2
 go_ret2
 exact⟨rfl,G.refl _⟩
theorem zIr(a b:Int)(h:I64 (a-b))(w:World):CG 122 #[.int .i64 2,.int .i64 a,.int .i64 b] w (.tuple #[IW (a-b),.int .i64 0]):=by
 have H:Hid (I64 (a-b)):=h;clear h
 go_enter func122,ntmps122
 go_wp2_with fail
 refine(zDc a b H.out _).mono ?_;rintro e w1 ⟨rfl,rfl⟩
 go_wp2
 go_ret2
 exact⟨rfl,G.refl _⟩
theorem zQV(a b:Int)(h:I64 (a*b))(hb:I64 b)(w:World):CG 122 #[.int .i64 3,.int .i64 a,.int .i64 b] w (.tuple #[IW (a*b),.int .i64 0]):=by
 have H:Hid (I64 (a*b)):=h;clear h
 go_enter func122,ntmps122
 go_wp2_with fail
 refine(zEC a b H.out hb _).mono ?_;rintro e w1 ⟨rfl,rfl⟩
 go_wp2
 go_ret2
 exact⟨rfl,G.refl _⟩
theorem zJM(op a b:Int)(r:Value)(c:Int)(h:∀w,CG 122 #[.int .i64 op,.int .i64 a,.int .i64 b] w (.tuple #[r,.int .i64 c]))(w:World) :
  CG 88 #[.int .i64 op,IW a,IW b] w (.tuple #[r,.int .i64 c]):=by
 have H:Hid _:=h;clear h
 go_enter func88,ntmps88
 go_wp2_with fail
 refine(H.out _).mono ?_;rintro e w1 ⟨rfl,hb1⟩
 go_wp2
 go_ret2
 exact⟨rfl,hb1⟩
theorem zG7(op:Int)(ho:1≤op)(ho':op≤5)(x y r:Value)(c:Int)(hx:∀w,CG 83 #[x] w (.bool false))(hy:∀w,CG 83 #[y] w (.bool false))
  (h:∀w,CG 88 #[.int .i64 op,x,y] w (.tuple #[r,.int .i64 c])) (w:World) :
  CG 41 #[.int .i64 op,x,y] w (.tuple #[r,.int .i64 c]):=by
 have H:Hid _:=h;have HX:Hid _:=hx;have HY:Hid _:=hy;clear h hx hy
 have n12:(op==12)=false:=by simp;omega
 have n13:(op==13)=false:=by simp;omega
 have n14:(op==14)=false:=by simp;omega
 have n6:(op==6)=false:=by simp;omega
 have n7:(op==7)=false:=by simp;omega
 have n8:(op==8)=false:=by simp;omega
 have n9:(op==9)=false:=by simp;omega
 have n10:(op==10)=false:=by simp;omega
 have n11:(op==11)=false:=by simp;omega
 have n15:(op==15)=false:=by simp;omega
 have n17:(op==17)=false:=by simp;omega
 have n18:(op==18)=false:=by simp;omega
 have n16:(op==16)=false:=by simp;omega
 go_enter func41,ntmps41
 go_wp2_with fail
 refine(HX.out _).mono ?_;rintro e w1 ⟨rfl,hb1⟩
 go_wp2_with fail
 refine(HY.out _).mono ?_;rintro e w2 ⟨rfl,hb2⟩
 go_wp2_with fail
 refine(H.out _).mono ?_;rintro e w3 ⟨rfl,hb3⟩
 go_wp2
 go_ret2
 exact⟨rfl,hb1.trans (hb2.trans hb3)⟩
end
section
open Go.RowKit
theorem zIm(a b:Int)(ha:I64 a)(hb:I64 b)(h:¬I64 (a+b))(w:World):Calls prog 154 #[.int .i64 a,.int .i64 b] w fun e w'=>e=.returned (.tuple #[.nilIface,.int .i64 11])∧w'=w:=by
 obtain⟨a1,a2⟩:=ha;obtain⟨b1,b2⟩:=hb;unfold I64 at h
 by_cases c:0<b
 ·have hw:wrap64 (a+b)=a+b-18446744073709551616:=by unfold wrap64;omega
  have c1:¬a<a+b-18446744073709551616:=by omega
  clear h
  go_enter func154,ntmps154
  go_wp2
  go_ret2
  exact⟨rfl,rfl⟩
 ·have hw:wrap64 (a+b)=a+b+18446744073709551616:=by unfold wrap64;omega
  have c1:a<a+b+18446744073709551616:=by omega
  clear h
  go_enter func154,ntmps154
  go_wp2
  go_ret2
  exact⟨rfl,rfl⟩
theorem zDd(a b:Int)(ha:I64 a)(hb:I64 b)(h:¬I64 (a-b))(w:World):Calls prog 155 #[.int .i64 a,.int .i64 b] w fun e w'=>e=.returned (.tuple #[.nilIface,.int .i64 11])∧w'=w:=by
 obtain⟨a1,a2⟩:=ha;obtain⟨b1,b2⟩:=hb;unfold I64 at h
 by_cases c:0<b
 ·have hw:wrap64 (a-b)=a-b+18446744073709551616:=by unfold wrap64;omega
  have c1:¬a-b+18446744073709551616<a:=by omega
  clear h
  go_enter func155,ntmps155
  go_wp2
  go_ret2
  exact⟨rfl,rfl⟩
 ·have hw:wrap64 (a-b)=a-b-18446744073709551616:=by unfold wrap64;omega
  have c1:a-b-18446744073709551616<a:=by omega
  clear h
  go_enter func155,ntmps155
  go_wp2
  go_ret2
  exact⟨rfl,rfl⟩
theorem zIq(n:Int):∃k:Int,wrap64 n=n+18446744073709551616*k∧I64 (wrap64 n):=by
 refine⟨-((n+9223372036854775808)/18446744073709551616),?_,?_,?_⟩<;>unfold wrap64<;>omega
theorem zTo(a b:Int)(ha:I64 a)(ha0:a≠0)(hm1:a≠-1)(h:¬I64 (a*b)):(wrap64 (a*b)).tdiv a≠b:=by
 intro e;obtain⟨k,hk,hi⟩:=zIq (a*b);have h1:=Int.mul_tdiv_add_tmod (wrap64 (a*b)) a;rw[e] at h1
 have h2:((wrap64 (a*b)).tmod a).natAbs<a.natAbs:=by
  rw[Int.natAbs_tmod];exact Nat.mod_lt _ (by omega)
 have h3:a.natAbs≤9223372036854775808:=by obtain⟨x,y⟩:=ha;omega
 have h4:(wrap64 (a*b)).tmod a=18446744073709551616*k:=by omega
 have hk0:k=0:=by omega
 rw[hk0] at hk;rw[hk] at hi;exact h (by simpa using hi)
theorem zWJ(p a:Int)(hp:I64 p)(ha0:a≠0)(hm1:a≠-1):I64 (p.tdiv a):=by
 obtain⟨h1,h2⟩:=hp;have hn:(p.tdiv a).natAbs=p.natAbs/a.natAbs:=Int.natAbs_tdiv _ _
 by_cases h3:a=1
 ·subst h3
  rw[Int.tdiv_one];exact⟨h1,h2⟩
 ·have h4:2≤a.natAbs:=by omega
  have h5:p.natAbs/a.natAbs≤p.natAbs/2:=Nat.div_le_div_left h4 (by decide);unfold I64;omega
theorem zED(a b:Int)(ha:I64 a)(hb:I64 b)(h:¬I64 (a*b))(w:World):Calls prog 156 #[.int .i64 a,.int .i64 b] w fun e w'=>e=.returned (.tuple #[.nilIface,.int .i64 11])∧w'=w:=by
 have a0:a≠0:=fun e=>h (by rw[e,Int.zero_mul];unfold I64;omega)
 have z:(a==0)=false:=by simpa using a0
 by_cases c:a = -1
 ·subst c
  have e:b = -9223372036854775808:=by unfold I64 at *;omega
  subst e;clear h ha hb
  have hw:wrap64 9223372036854775808 = -9223372036854775808:=by unfold wrap64;omega
  go_enter func156,ntmps156
  go_wp2
  go_ret2
  exact⟨rfl,rfl⟩
 ·have n:=zTo a b ha a0 c h
  obtain⟨_,-,hi⟩:=zIq (a*b);have hd:=zWJ (wrap64 (a*b)) a hi a0 c;obtain⟨i1,i2⟩:=hi;obtain⟨d1,d2⟩:=hd
  have hw2:wrap64 ((wrap64 (a*b)).tdiv a)=(wrap64 (a*b)).tdiv a:=by unfold wrap64 at *;omega
  have n':((wrap64 (a*b)).tdiv a==b)=false:=by simpa using n
  have m1:(a==-1)=false:=by simpa using c
  clear h ha hb
  go_enter func156,ntmps156
  go_wp2
  go_ret2
  exact⟨rfl,rfl⟩
end
end Go.Proofs.YthmdjhfbhbheeaaGreatDoor
