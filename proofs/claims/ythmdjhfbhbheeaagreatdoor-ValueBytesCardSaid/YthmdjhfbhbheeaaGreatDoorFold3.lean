import Derived.Test.YthmdjhfbhbheeaaGreatDoorKnown
namespace Go.Proofs.YthmdjhfbhbheeaaGreatDoor
open Go.Proofs.Tryz
set_option maxHeartbeats 2000000
set_option maxRecDepth 100000
section
open Go.RowKit Go.Lib Go.Shelf
def Nmb(x:Value)(k a b:Int)(s:ByteArray):Prop:=(k=2∧b=0∧s=E0∧I64 a∧x=IW a)∨(k=3∧s=E0∧P25 a∧P25 b∧∃u v,x=IC u v∧Fl u a∧Fl v b)
def NumR(rv:Value)(c k a b:Int)(s:ByteArray):Prop:=(c=0∧Nmb rv k a b s)∨((c=0)=False∧k=0∧a=0∧b=0∧s=E0)
theorem zGH{u v:Nat}{a b:Int}(fu:Fl u a)(fv:Fl v b)(ha:P25 a)(hb:P25 b):NumR (IC u v) 0 3 a b E0:=.inl ⟨rfl,.inr ⟨rfl,rfl,ha,hb,u,v,rfl,fu,fv⟩⟩
theorem zDt{a:Int}(ha:I64 a):NumR (IW a) 0 2 a 0 E0:=.inl ⟨rfl,.inl ⟨rfl,rfl,rfl,ha,rfl⟩⟩
theorem zBg{rv:Value}{c:Int}(h:(c=0)=False):NumR rv c 0 0 0 E0:=.inr ⟨h,rfl,rfl,rfl,rfl⟩
def CxN(op:Int)(x y z t:Nat)(a b c d:Int):Prop:=∃(rv:Value) (cd k3 a3 b3:Int) (s3:ByteArray),(∀w,CG 158 #[.int .i64 op,.complex .f64 x y,.complex .f64 z t] w (.tuple #[rv,.int .i64 cd]))∧
 NumR rv cd k3 a3 b3 s3∧(∀w,CG 90 #[.int .i64 op,.int .i64 a,.int .i64 b,.int .i64 c,.int .i64 d] w (.tuple #[V k3 a3 b3 s3,.int .i64 cd]))
def WwN(op a a':Int):Prop:=∃(rv:Value) (c rk ra rb:Int) (rs:ByteArray),(∀w,CG 122 #[.int .i64 op,.int .i64 a,.int .i64 a'] w (.tuple #[rv,.int .i64 c]))∧
 NumR rv c rk ra rb rs∧(∀w,CG 89 #[.int .i64 op,.int .i64 a,.int .i64 a'] w (.tuple #[V rk ra rb rs,.int .i64 c]))
theorem zT8{x y z t:Nat}{a b c d:Int}(hx:Fl x a)(hy:Fl y b)(hz:Fl z c)(ht:Fl t d)(ha:P25 a)(hb:P25 b)(hc:P25 c)(hd:P25 d):CxN 1 x y z t a b c d:=by
 have m1:=ha.mul hc;have m2:=hb.mul hd;have m3:=ha.mul hd;have m4:=hb.mul hc;have m5:=hc.mul hc;have m6:=hd.mul hd;have a1:=ha.abs;have b1:=hb.abs;have c1:=hc.abs;have d1:=hd.abs;obtain⟨B1,B2,B3,B4,B5,B6,B7,B8,B9⟩:=zCr ha hb hc hd;obtain⟨p,q,kc,fp,fq⟩:=zIE hx hy hz ht (by omega) (by omega);have f1:wrap64 (a+c)=a+c:=wr (by omega);have f2:wrap64 (b+d)=b+d:=wr (by omega)
 by_cases h1:P25 (a+c)
 ·by_cases h2:P25 (b+d)
  ·exact⟨_,0,_,_,_,_,zRx x y z t p q _ _ kc fp fq h1 h2,zGH fp fq h1 h2,zIX a b c d _ _ _ _ _ _ _ _ _ B1 B2 B3 B4 B5 B6 B7 B8 B9 _ _ f1 f2 (zAk _ _ (zAf h1)) (zAk _ _ (zAf h2))⟩
  ·exact⟨_,11,_,_,_,_,zDA x y z t p q _ _ kc fp fq (fun h=>h2 h.2),zBg (by decide),zIV a b c d _ _ _ _ _ _ _ _ _ B1 B2 B3 B4 B5 B6 B7 B8 B9 _ _ f1 f2 (zAk _ _ (zAf h1)) (zAk _ _ (zAC h2))⟩
 ·exact⟨_,11,_,_,_,_,zDA x y z t p q _ _ kc fp fq (fun h=>h1 h.1),zBg (by decide),zIW a b c d _ _ _ _ _ _ _ _ _ B1 B2 B3 B4 B5 B6 B7 B8 B9 _ _ f1 f2 (zAk _ _ (zAC h1))⟩
theorem zT4{x y z t:Nat}{a b c d:Int}(hx:Fl x a)(hy:Fl y b)(hz:Fl z c)(ht:Fl t d)(ha:P25 a)(hb:P25 b)(hc:P25 c)(hd:P25 d):CxN 2 x y z t a b c d:=by
 have m1:=ha.mul hc;have m2:=hb.mul hd;have m3:=ha.mul hd;have m4:=hb.mul hc;have m5:=hc.mul hc;have m6:=hd.mul hd;have a1:=ha.abs;have b1:=hb.abs;have c1:=hc.abs;have d1:=hd.abs;obtain⟨B1,B2,B3,B4,B5,B6,B7,B8,B9⟩:=zCr ha hb hc hd;obtain⟨p,q,kc,fp,fq⟩:=zEP hx hy hz ht (by omega) (by omega);have f1:wrap64 (a-c)=a-c:=wr (by omega);have f2:wrap64 (b-d)=b-d:=wr (by omega)
 by_cases h1:P25 (a-c)
 ·by_cases h2:P25 (b-d)
  ·exact⟨_,0,_,_,_,_,zRt x y z t p q _ _ kc fp fq h1 h2,zGH fp fq h1 h2,zIU a b c d _ _ _ _ _ _ _ _ _ B1 B2 B3 B4 B5 B6 B7 B8 B9 _ _ f1 f2 (zAk _ _ (zAf h1)) (zAk _ _ (zAf h2))⟩
  ·exact⟨_,11,_,_,_,_,zDy x y z t p q _ _ kc fp fq (fun h=>h2 h.2),zBg (by decide),zIS a b c d _ _ _ _ _ _ _ _ _ B1 B2 B3 B4 B5 B6 B7 B8 B9 _ _ f1 f2 (zAk _ _ (zAf h1)) (zAk _ _ (zAC h2))⟩
 ·exact⟨_,11,_,_,_,_,zDy x y z t p q _ _ kc fp fq (fun h=>h1 h.1),zBg (by decide),zIT a b c d _ _ _ _ _ _ _ _ _ B1 B2 B3 B4 B5 B6 B7 B8 B9 _ _ f1 f2 (zAk _ _ (zAC h1))⟩
theorem zT5{x y z t:Nat}{a b c d:Int}(hx:Fl x a)(hy:Fl y b)(hz:Fl z c)(ht:Fl t d)(ha:P25 a)(hb:P25 b)(hc:P25 c)(hd:P25 d):CxN 3 x y z t a b c d:=by
 have m1:=ha.mul hc;have m2:=hb.mul hd;have m3:=ha.mul hd;have m4:=hb.mul hc;have m5:=hc.mul hc;have m6:=hd.mul hd;have a1:=ha.abs;have b1:=hb.abs;have c1:=hc.abs;have d1:=hd.abs;obtain⟨B1,B2,B3,B4,B5,B6,B7,B8,B9⟩:=zCr ha hb hc hd;obtain⟨p,q,kc,fp,fq⟩:=zCC hx hy hz ht (by omega) (by omega) (by omega) (by omega) (by omega) (by omega);have f1:wrap64 (a*c-b*d)=a*c-b*d:=wr (by omega);have f2:wrap64 (a*d+b*c)=a*d+b*c:=wr (by omega)
 by_cases h1:P25 (a*c-b*d)
 ·by_cases h2:P25 (a*d+b*c)
  ·exact⟨_,0,_,_,_,_,zRu x y z t p q _ _ kc fp fq h1 h2,zGH fp fq h1 h2,zIR a b c d _ _ _ _ _ _ _ _ _ B1 B2 B3 B4 B5 B6 B7 B8 B9 _ _ f1 f2 (zAk _ _ (zAf h1)) (zAk _ _ (zAf h2))⟩
  ·exact⟨_,11,_,_,_,_,zDz x y z t p q _ _ kc fp fq (fun h=>h2 h.2),zBg (by decide),zIP a b c d _ _ _ _ _ _ _ _ _ B1 B2 B3 B4 B5 B6 B7 B8 B9 _ _ f1 f2 (zAk _ _ (zAf h1)) (zAk _ _ (zAC h2))⟩
 ·exact⟨_,11,_,_,_,_,zDz x y z t p q _ _ kc fp fq (fun h=>h1 h.1),zBg (by decide),zIQ a b c d _ _ _ _ _ _ _ _ _ B1 B2 B3 B4 B5 B6 B7 B8 B9 _ _ f1 f2 (zAk _ _ (zAC h1))⟩
theorem zJv{x y z t:Nat}{a b c d:Int}(hz:Fl z c)(ht:Fl t d)(ha:P25 a)(hb:P25 b)(hc:P25 c)(hd:P25 d)(op:Int)(ho:op=4∨op=5)(h:c=0∧d=0):CxN op x y z t a b c d:=by
 have m1:=ha.mul hc;have m2:=hb.mul hd;have m3:=ha.mul hd;have m4:=hb.mul hc;have m5:=hc.mul hc;have m6:=hd.mul hd;have a1:=ha.abs;have b1:=hb.abs;have c1:=hc.abs;have d1:=hd.abs;obtain⟨B1,B2,B3,B4,B5,B6,B7,B8,B9⟩:=zCr ha hb hc hd;have z1:Fl z 0:=h.1▸hz;have z2:Fl t 0:=h.2▸ht
 have z3:c*c+d*d=0:=by rw[h.1,h.2];rfl
 rcases ho with rfl|rfl
 ·exact⟨_,12,_,_,_,_,zGf 4 (.inl rfl) x y z t z1 z2,zBg (by decide),zL8 a b c d _ _ _ _ _ _ _ _ _ B1 B2 B3 B4 B5 B6 B7 B8 B9 z3⟩
 ·exact⟨_,12,_,_,_,_,zGf 5 (.inr rfl) x y z t z1 z2,zBg (by decide),zL7 a b c d _ _ _ _ _ _ _ _ _ B1 B2 B3 B4 B5 B6 B7 B8 B9 z3⟩
theorem zT7{x y z t:Nat}{a b c d:Int}(hx:Fl x a)(hy:Fl y b)(hz:Fl z c)(ht:Fl t d)(ha:P25 a)(hb:P25 b)(hc:P25 c)(hd:P25 d):CxN 4 x y z t a b c d:=by
 by_cases h0:c=0∧d=0
 ·exact zJv (x:=x) (y:=y) hz ht ha hb hc hd 4 (.inl rfl) h0
 have hnz:c≠0∨d≠0:=by omega
 have hN:=zC1 hnz;have m1:=ha.mul hc;have m2:=hb.mul hd;have m3:=ha.mul hd;have m4:=hb.mul hc;have m5:=hc.mul hc;have m6:=hd.mul hd;have a1:=ha.abs;have b1:=hb.abs;have c1:=hc.abs;have d1:=hd.abs;obtain⟨B1,B2,B3,B4,B5,B6,B7,B8,B9⟩:=zCr ha hb hc hd
 have e1:a*c-b * -d=a*c+b*d:=by rw[Int.mul_neg];omega
 have e2:a * -d+b*c=b*c-a*d:=by rw[Int.mul_neg];omega
 have zN:((c*c+d*d)==0)=false:=by simp;omega
 have nN:¬c*c+d*d=0:=by omega
 have tm:∀n:Int,(¬∃p,n=p*(c*c+d*d))→n.tmod (c*c+d*d)≠0:=fun n h e=>h ⟨n.tdiv (c*c+d*d),by
  have:=Int.tmod_add_mul_tdiv n (c*c+d*d);rw[e,Int.zero_add,Int.mul_comm] at this
  exact this.symm⟩
 rcases zRw x y z t a b c d hx hy hz ht ha hb hc hd hnz with ⟨p,q,u,v,hp,hq,Pp,Pq,fu,fv,hcall⟩|⟨hno,hcall⟩
 ·rw[e1] at hp
  rw[e2] at hq;have p1:=Pp.abs;have q1:=Pq.abs;refine⟨_,0,_,_,_,_,hcall,zGH fu fv Pp Pq,zIM a b c d _ _ _ _ _ _ _ _ _ B1 B2 B3 B4 B5 B6 B7 B8 B9 zN nN p q ?_ ?_ ?_ ?_ (zAk _ _ (zAf Pp)) (zAk _ _ (zAf Pq))⟩
  ·rw[hp];exact Int.mul_tmod_left _ _
  ·rw[hq];exact Int.mul_tmod_left _ _
  ·rw[hp,Int.mul_tdiv_cancel _ nN];exact wr (by omega)
  ·rw[hq,Int.mul_tdiv_cancel _ nN];exact wr (by omega)
 ·rw[e1,e2] at hno
  by_cases hX:∃p,a*c+b*d=p*(c*c+d*d)
  ·have hY:¬∃q,b*c-a*d=q*(c*c+d*d):=by
    rcases hno with h|h
    ·exact absurd hX h
    ·exact h
   obtain⟨p,hp⟩:=hX;exact⟨_,13,_,_,_,_,hcall,zBg (by decide),zIN a b c d _ _ _ _ _ _ _ _ _ B1 B2 B3 B4 B5 B6 B7 B8 B9 zN nN _ (by rw[hp];exact Int.mul_tmod_left _ _) rfl (by simpa using tm _ hY)⟩
  ·exact⟨_,13,_,_,_,_,hcall,zBg (by decide),zIO a b c d _ _ _ _ _ _ _ _ _ B1 B2 B3 B4 B5 B6 B7 B8 B9 zN nN _ rfl (by simpa using tm _ hX)⟩
theorem zT6{x y z t:Nat}{a b c d:Int}(hx:Fl x a)(hy:Fl y b)(hz:Fl z c)(ht:Fl t d)(ha:P25 a)(hb:P25 b)(hc:P25 c)(hd:P25 d):CxN 5 x y z t a b c d:=by
 by_cases h0:c=0∧d=0
 ·exact zJv (x:=x) (y:=y) hz ht ha hb hc hd 5 (.inr rfl) h0
 have hnz:c≠0∨d≠0:=by omega
 have hN:=zC1 hnz;obtain⟨B1,B2,B3,B4,B5,B6,B7,B8,B9⟩:=zCr ha hb hc hd
 have e1:a*c-b * -d=a*c+b*d:=by rw[Int.mul_neg];omega
 have e2:a * -d+b*c=b*c-a*d:=by rw[Int.mul_neg];omega
 have zN:((c*c+d*d)==0)=false:=by simp;omega
 have nN:¬c*c+d*d=0:=by omega
 obtain⟨p,q,u,v,hp,hq,Pp,Pq,Pr,Ps,fu,fv,hcall⟩:=zRv x y z t a b c d hx hy hz ht ha hb hc hd hnz;rw[e1] at hp;rw[e2] at hq;have c1':c*p=p*c:=Int.mul_comm _ _;have c2':d*q=q*d:=Int.mul_comm _ _;have c3':c*q=q*c:=Int.mul_comm _ _;have c4':d*p=p*d:=Int.mul_comm _ _;rw[c1',c2'] at Pr fu;rw[c3',c4'] at Ps fv;have cs:q*c+p*d=p*d+q*c:=Int.add_comm _ _;rw[cs] at Ps fv;obtain⟨x1,x2,x3⟩:=xy_b ha hb hc hd;have k1:=rfloor (2*(a*c+b*d)+(c*c+d*d)) (2*(c*c+d*d)) (by omega) (fl_b x1 x3).1 (fl_b x1 x3).2;have k2:=rfloor (2*(b*c-a*d)+(c*c+d*d)) (2*(c*c+d*d)) (by omega) (fl_b x2 x3).1 (fl_b x2 x3).2;rw[←hp] at k1;rw[←hq] at k2;obtain⟨w1,w2,w3,w4,w5,w6,w7,w8,w9,w10,w11,w12,w13⟩:=w_13 (a*c+b*d) (b*c-a*d) (c*c+d*d) (p*c) (q*d) (p*d) (q*c) a b x1 x2 x3 (Pp.mul hc) (Pq.mul hd) (Pp.mul hd) (Pq.mul hc) ha.abs hb.abs;exact⟨_,0,_,_,_,_,hcall,zGH fu fv Pr Ps,zIL a b c d _ _ _ _ _ _ _ _ _ B1 B2 B3 B4 B5 B6 B7 B8 B9 zN nN _ _ _ _ _ p q _ _ _ _ _ _ _ _ w1 w2 w3 w4 w5 w6 w7 w8 w9 w10 w11 w12 w13 k1 k2 (zAk _ _ (zAf Pr)) (zAk _ _ (zAf Ps))⟩
theorem zIe{x y z t:Nat}{a b c d:Int}(hx:Fl x a)(hy:Fl y b)(hz:Fl z c)(ht:Fl t d)(ha:P25 a)(hb:P25 b)(hc:P25 c)(hd:P25 d)(op:Int)(h1:1≤op)(h5:op≤5):CxN op x y z t a b c d:=by
 have:op=1∨op=2∨op=3∨op=4∨op=5:=by omega
 rcases this with rfl|rfl|rfl|rfl|rfl
 ·exact zT8 hx hy hz ht ha hb hc hd
 ·exact zT4 hx hy hz ht ha hb hc hd
 ·exact zT5 hx hy hz ht ha hb hc hd
 ·exact zT7 hx hy hz ht ha hb hc hd
 ·exact zT6 hx hy hz ht ha hb hc hd
theorem zXa(a b:Int)(ha:I64 a)(hb:I64 b):WwN 1 a b:=by
 by_cases h:I64 (a+b)
 ·exact⟨_,0,_,_,_,_,zQW a b h,zDt h,zLS a b ha hb h⟩
 ·exact⟨_,11,_,_,_,_,zGq a b ha hb h,zBg (by decide),zFi a b ha hb h⟩
theorem zW9(a b:Int)(ha:I64 a)(hb:I64 b):WwN 2 a b:=by
 by_cases hm:b = -9223372036854775808
 ·subst hm
  by_cases h:a<0
  ·have h64:I64 (a - -9223372036854775808):=by obtain⟨h1,h2⟩:=ha;constructor<;>omega
   have:=zGA a ha h;rw[show a+9223372036854775808=a - -9223372036854775808 by omega] at this;exact⟨_,0,_,_,_,_,zIr a _ h64,zDt h64,this⟩
  ·have h64:¬I64 (a - -9223372036854775808):=by unfold I64;omega
   exact⟨_,11,_,_,_,_,zDp a _ ha hb h64,zBg (by decide),zEu a h⟩
 ·by_cases h:I64 (a-b)
  ·exact⟨_,0,_,_,_,_,zIr a b h,zDt h,zLO a b ha hb (beq_false_of_ne hm) h⟩
  ·exact⟨_,11,_,_,_,_,zDp a b ha hb h,zBg (by decide),zFf a b ha hb (beq_false_of_ne hm) h⟩
theorem zW8(a b:Int)(ha:I64 a)(hb:I64 b):WwN 3 a b:=by
 by_cases h:I64 (a*b)
 ·exact⟨_,0,_,_,_,_,zQV a b h hb,zDt h,zLP a b ha hb h⟩
 ·exact⟨_,11,_,_,_,_,zGp a b ha hb h,zBg (by decide),zFg a b ha hb h⟩
theorem zW7(a b:Int)(ha:I64 a):WwN 4 a b:=by
 by_cases h0:b=0
 ·subst h0
  exact⟨_,12,_,_,_,_,zFD 4 a (.inl rfl),zBg (by decide),zGz a⟩
 ·by_cases h1:b = -1
  ·subst h1
   by_cases hm:a = -9223372036854775808
   ·subst hm
    exact⟨_,11,_,_,_,_,zE7 _ _ _ _ rfl zC9,zBg (by decide),zEv⟩
   ·have e:a.tdiv (-1) = -a:=by rw[Int.tdiv_neg,Int.tdiv_one]
    have hw:wrap64 (a.tdiv (-1)) = -a:=by rw[e];obtain⟨h1,h2⟩:=ha;unfold wrap64;omega
    exact⟨_,0,_,_,_,_,zE7 _ _ _ _ rfl (zCi a (-1) _ (by decide) (.inl (beq_false_of_ne hm)) hw),zDt (by obtain⟨h1,h2⟩:=ha;constructor<;>omega),zGC a (by obtain⟨h1,h2⟩:=ha;omega) ha.2⟩
  ·have hw:=w64 (zDr a b ha h0 (fun h=>h1 h.2))
   exact⟨_,0,_,_,_,_,zE7 _ _ _ _ (beq_false_of_ne h0) (zCi a b _ h0 (.inr (beq_false_of_ne h1)) hw),zDt (zDr a b ha h0 (fun h=>h1 h.2)),zLR a b _ (beq_false_of_ne h0) (beq_false_of_ne h1) h0 hw⟩
theorem zW6(a b:Int)(ha:I64 a):WwN 5 a b:=by
 by_cases h0:b=0
 ·subst h0
  exact⟨_,12,_,_,_,_,zFD 5 a (.inr rfl),zBg (by decide),zGy a⟩
 ·by_cases h1:b = -1
  ·subst h1
   have e:a.tmod (-1)=0:=by rw[Int.tmod_neg,Int.tmod_one]
   by_cases hm:a = -9223372036854775808
   ·subst hm
    exact⟨_,0,_,_,_,_,zE6 _ _ _ rfl (by decide) e,zDt ⟨by decide,by decide⟩,zFh⟩
   ·exact⟨_,0,_,_,_,_,zE6 _ _ _ rfl (by decide) e,zDt ⟨by decide,by decide⟩,zGB a (by obtain⟨h1,h2⟩:=ha;omega) ha.2⟩
  ·have hw:=w64 (zDr a b ha h0 (fun h=>h1 h.2))
   have hmi:=zIC a b ha;have t1:=Int.tmod_add_mul_tdiv a b
   have hp:b*a.tdiv b=a-a.tmod b:=by omega
   have e:(a.tmod b).natAbs=a.natAbs%b.natAbs:=Int.natAbs_tmod a b;have hle:a.natAbs%b.natAbs≤a.natAbs:=Nat.mod_le _ _
   have hsg:I64 (a-a.tmod b):=by
    obtain⟨h1,h2⟩:=ha
    by_cases c:0≤a
    ·have:=Int.tmod_nonneg b c
     constructor<;>omega
    ·have h3:(-a).tmod b = -(a.tmod b):=Int.neg_tmod a b
     have h4:=Int.tmod_nonneg b (show 0≤-a by omega)
     constructor<;>omega
   have hpw:wrap64 (b*a.tdiv b)=a-a.tmod b:=by rw[hp];exact w64 hsg
   have hs:wrap64 (a-(a-a.tmod b))=a.tmod b:=by
    rw[show a-(a-a.tmod b)=a.tmod b by omega];exact w64 hmi
   exact⟨_,0,_,_,_,_,zE6 _ _ _ (beq_false_of_ne h0) h0 rfl,zDt hmi,zLQ a b _ _ _ (beq_false_of_ne h0) (beq_false_of_ne h1) h0 hw hpw hs⟩
theorem zRF(op a b:Int)(h1:1≤op)(h5:op≤5)(ha:I64 a)(hb:I64 b):WwN op a b:=by
 have:op=1∨op=2∨op=3∨op=4∨op=5:=by omega
 rcases this with rfl|rfl|rfl|rfl|rfl
 ·exact zXa a b ha hb
 ·exact zW9 a b ha hb
 ·exact zW8 a b ha hb
 ·exact zW7 a b ha
 ·exact zW6 a b ha
theorem zUu(op:Int)(h1:1≤op)(h5:op≤5){x y:Value}{k a b k' a' b':Int}{s s':ByteArray}(hx:Nmb x k a b s)(hy:Nmb y k' a' b' s') :
  ∃(rv:Value) (c rk ra rb:Int) (rs:ByteArray),(∀w,CG 88 #[.int .i64 op,x,y] w (.tuple #[rv,.int .i64 c]))∧NumR rv c rk ra rb rs∧(∀w,CG 47 #[.int .i64 op,V k a b s,V k' a' b' s'] w (.tuple #[V rk ra rb rs,.int .i64 c])):=by
 rcases hx with ⟨rfl,rfl,rfl,ha,rfl⟩|⟨rfl,rfl,pa,pb,u,v,rfl,fu,fv⟩
 ·rcases hy with ⟨rfl,rfl,rfl,ha',rfl⟩|⟨rfl,rfl,pa',pb',u',v',rfl,fu',fv'⟩
  ·obtain⟨rv,c,rk,ra,rb,rs,g1,g2,g3⟩:=zRF op a a' h1 h5 ha ha'
   exact⟨rv,c,rk,ra,rb,rs,zJM op a a' _ _ g1,g2,zLz op a 0 a' 0 E0 E0 h1 h5 rk ra rb rs c g3⟩
  ·have hn:=zAN (.complex .f64 u' v')
   by_cases hp:P25 a
   ·obtain⟨rv,c,rk,ra,rb,rs,g1,g2,g3⟩:=zIe (x:=fl a) (y:=0) (a:=a) (b:=0) (Fl.ofInt a (by have:=hp.abs;omega)) Fl.zero fu' fv' hp ⟨by decide,by decide⟩ pa' pb' op h1 h5
    exact⟨rv,c,rk,ra,rb,rs,zN4 op a _ _ _ hn (zFr op _ _ _ _ _ _ (zC3 a hp.1 hp.2) (zBP _ _) rv c g1),g2,zFn op a 0 a' b' E0 E0 h1 h5 rk ra rb rs c (zAk _ _ (zAf hp)) (zAk _ _ (zAf pa')) g3⟩
   ·exact⟨_,11,_,_,_,_,zN4 op a _ _ _ hn (zMD op _ _ _ _ _ _ (zBm a (zAC hp)) (zBP _ _)),zBg (by decide),zUY op a 0 a' b' E0 E0 h1 h5 (zAk _ _ (zAC hp))⟩
 ·have n1:=zB9 (.complex .f64 u v)
  have n2:=zAN (.complex .f64 u v)
  rcases hy with ⟨rfl,rfl,rfl,ha',rfl⟩|⟨rfl,rfl,pa',pb',u',v',rfl,fu',fv'⟩
  ·by_cases hp:P25 a'
   ·obtain⟨rv,c,rk,ra,rb,rs,g1,g2,g3⟩:=zIe (z:=fl a') (t:=0) (c:=a') (d:=0) fu fv (Fl.ofInt a' (by have:=hp.abs;omega)) Fl.zero pa pb hp ⟨by decide,by decide⟩ op h1 h5
    exact⟨rv,c,rk,ra,rb,rs,zHh op _ _ _ _ n1 n2 (zFr op _ _ _ _ _ _ (zBP _ _) (zC3 a' hp.1 hp.2) rv c g1),g2,zFm op a b a' 0 E0 E0 h1 h5 rk ra rb rs c (zAk _ _ (zAf pa)) (zAk _ _ (zAf hp)) g3⟩
   ·exact⟨_,11,_,_,_,_,zHh op _ _ _ _ n1 n2 (zME op _ _ _ _ _ _ (zBP _ _) (zBm a' (zAC hp))),zBg (by decide),zUX op a b a' 0 E0 E0 h1 h5 (zAk _ _ (zAf pa)) (zAk _ _ (zAC hp))⟩
  ·obtain⟨rv,c,rk,ra,rb,rs,g1,g2,g3⟩:=zIe fu fv fu' fv' pa pb pa' pb' op h1 h5
   exact⟨rv,c,rk,ra,rb,rs,zHh op _ _ _ _ n1 n2 (zFr op _ _ _ _ _ _ (zBP _ _) (zBP _ _) rv c g1),g2,zFl op a b a' b' E0 E0 h1 h5 rk ra rb rs c (zAk _ _ (zAf pa)) (zAk _ _ (zAf pa')) g3⟩
end
section
open Go.RowKit Go.Lib Go.Shelf
theorem zNh(w:World):CG 95 #[.slice none 0 0] w (.tuple #[.slice none 0 0,.bool true]):=by
 go_enter func95,ntmps95
 go_wp2
 go_loopw [4,11] (fun x i W=>x=.slice none 0 0∧i=.int .i64 0∧W=w) (fun _ _ _=>0)
 case atStart=>exact⟨rfl,rfl,rfl⟩
 case round=>
  obtain⟨rfl,rfl,rfl⟩:=hrel
  go_wp2
  go_ret2
  exact⟨rfl,G.refl _⟩
def Qd.num(q:Qd):Prop:=q.ok=true∧(q.1=2∨q.1=3)∧I64 q.2.1
theorem Qd.num.nmb{q:Qd}(h:q.num):Nmb q.it q.1 q.2.1 q.2.2.1 q.2.2.2:=by
 obtain⟨k,a,b,s⟩:=q;obtain⟨hok,hk,ha⟩:=h;unfold Qd.ok at hok;unfold Qd.it;simp only at hok hk ha⊢
 rcases hk with rfl|rfl
 ·obtain⟨rfl,rfl⟩:=ok_2 hok
  exact .inl ⟨rfl,rfl,rfl,ha,zAP hok⟩
 ·obtain⟨pa,pb,rfl⟩:=ok_3 hok
  exact .inr ⟨rfl,rfl,pa,pb,_,_,zBO hok,Fl.ofInt a (by omega),Fl.ofInt b (by omega)⟩
abbrev NmbQ(x:Value)(q:Qd):Prop:=Nmb x q.1 q.2.1 q.2.2.1 q.2.2.2
def zQS(op:Int)(x:Value)(q:Qd)(y:Value)(d:Qd)(s:Value×Int×Qd):Prop:=(∀w,CG 88 #[.int .i64 op,x,y] w (.tuple #[s.1,.int .i64 s.2.1]))∧NumR s.1 s.2.1 s.2.2.1 s.2.2.2.1 s.2.2.2.2.1 s.2.2.2.2.2∧
 (∀w,CG 47 #[.int .i64 op,q.W,d.W] w (.tuple #[Qd.W s.2.2,.int .i64 s.2.1]))
theorem zLv(op:Int)(h1:1≤op)(h5:op≤5){x y:Value}{q d:Qd}(hx:NmbQ x q)(hy:NmbQ y d):∃s,zQS op x q y d s:=by
 obtain⟨rv,c,rk,ra,rb,rs,g1,g2,g3⟩:=zUu op h1 h5 hx hy;exact⟨(rv,c,rk,ra,rb,rs),g1,g2,g3⟩
open Classical in
noncomputable def zHu(op:Int)(x:Value)(q:Qd)(y:Value)(d:Qd):Value×Int×Qd:=if h:∃s,zQS op x q y d s then Classical.choose h else(x,0,q)
theorem zFb(op:Int)(h1:1≤op)(h5:op≤5){x y:Value}{q d:Qd}(hx:NmbQ x q)(hy:NmbQ y d):zQS op x q y d (zHu op x q y d):=by
 have h:=zLv op h1 h5 hx hy;unfold zHu;rw[dif_pos h];exact Classical.choose_spec h
noncomputable def tot(D:List Qd):Nat→Value×Qd
 | 0=>(IW 0,(2,0,0,E0))
 | i+1=>let s:=zHu 1 (tot D i).1 (tot D i).2 ((D.getD i (0,0,0,E0)).it) (D.getD i (0,0,0,E0));(s.1,s.2.2)
noncomputable def cod(D:List Qd)(i:Nat):Int:=(zHu 1 (tot D i).1 (tot D i).2 ((D.getD i (0,0,0,E0)).it) (D.getD i (0,0,0,E0))).2.1
theorem zI:I64 0:=⟨by decide,by decide⟩
theorem zHr(D:List Qd)(hD:∀q∈D,Qd.num q):∀m,m≤D.length→(∀j,j<m→cod D j=0)→NmbQ (tot D m).1 (tot D m).2
 | 0,_,_=>.inl ⟨rfl,rfl,rfl,zI,rfl⟩
 | m+1,hm,hc=>by
  have ih:=zHr D hD m (by omega) (fun j hj=>hc j (by omega))
  have hq:D.getD m (0,0,0,E0)∈D:=by
   rw[List.getD_eq_getElem?_getD,List.getElem?_eq_getElem (show m<D.length by omega)];exact List.getElem_mem _
  have sp:=zFb 1 (by decide) (by decide) ih (hD _ hq).nmb;have h0:=hc m (by omega);unfold cod at h0
  rcases sp.2.1 with ⟨_,h⟩|⟨h,_⟩
  ·exact h
  ·rw[h] at h0;exact h0.elim
theorem zFJ(D:List Qd)(hD:∀q∈D,Qd.num q){m:Nat}{q:Qd}(hq:D[m]?=some q)(hc:∀j,j<m→cod D j=0) :
  (∀w,CG 88 #[.int .i64 1,(tot D m).1,q.it] w (.tuple #[(tot D (m+1)).1,.int .i64 (cod D m)]))∧(∀w,CG 47 #[.int .i64 1,(tot D m).2.W,q.W] w (.tuple #[(tot D (m+1)).2.W,.int .i64 (cod D m)]))∧(cod D m≠0→(tot D (m+1)).2=(0,0,0,E0)):=by
 have hm:m<D.length:=(List.getElem?_eq_some_iff.1 hq).1;have ih:=zHr D hD m (by omega) hc
 have e:D.getD m (0,0,0,E0)=q:=by rw[List.getD_eq_getElem?_getD,hq];rfl
 have sp:=zFb 1 (by decide) (by decide) ih (hD q (List.mem_of_getElem? hq)).nmb
 have e1:tot D (m+1)=((zHu 1 (tot D m).1 (tot D m).2 q.it q).1,(zHu 1 (tot D m).1 (tot D m).2 q.it q).2.2):=by
  show(_,_)=_;rw[e]
 have e2:cod D m=(zHu 1 (tot D m).1 (tot D m).2 q.it q).2.1:=by unfold cod;rw[e]
 rw[e1,e2];refine⟨sp.1,sp.2.2,fun h=>?_⟩
 rcases sp.2.1 with ⟨h0,_⟩|⟨_,h1,h2,h3,h4⟩
 ·exact absurd h0 h
 ·exact Prod.ext h1 (Prod.ext h2 (Prod.ext h3 h4))
theorem zDP{w:World}{g n cap:Nat}{X:List Value}(h:IRow w (.slice (some ⟨g,0,none⟩) n cap) X){i:Nat}{u:Value}(hi:X[i]?=some u):w.cell? ⟨g,i,none⟩=some u:=by
 rcases h with ⟨h,_⟩|⟨g',cap',he,_,hc⟩
 ·cases h
 ·cases he;exact hc i u hi
theorem zI7(q:Qd)(hok:q.ok=true)(h0:q.1≠0):∃p p' c,INum q.it p p' c∧((q.1=2∨q.1=3)→(c==10)=false)∧(¬(q.1=2∨q.1=3)→c=10):=by
 obtain⟨k,a,b,s⟩:=q;unfold Qd.ok at hok;unfold Qd.it;simp only at hok h0⊢
 by_cases h2:k=2
 ·subst h2
  rw[zAP hok]
  by_cases hp:P25 a
  ·exact⟨_,_,0,zC3 a hp.1 hp.2,fun _=>rfl,fun h=>absurd (.inl rfl) h⟩
  ·exact⟨_,_,11,zBm a (zAC hp),fun _=>rfl,fun h=>absurd (.inl rfl) h⟩
 ·by_cases h3:k=3
  ·subst h3
   rw[zBO hok];exact⟨_,_,0,zBP _ _,fun _=>rfl,fun h=>absurd (.inr rfl) h⟩
  ·exact⟨_,_,10,zNr k a b s hok h0 h2 h3,fun h=>by omega,fun _=>rfl⟩
def zCs(D:List Qd):Bool:=D.all fun q=>q.1==2 || q.1==3
theorem zUO(g cap:Nat)(D:List Qd)(hD:∀q∈D,q.ok=true∧q.1≠0)(hn:D.length≤140737488351232)(w:World)(hI:IRow w (.slice (some ⟨g,0,none⟩) D.length cap) (D.map Qd.it))(hA:zCs D=false) :
  CG 128 #[.slice (some ⟨g,0,none⟩) D.length cap] w (.tuple #[.nilIface,.int .i64 10]):=by
 have HI:Hid _:=hI;have HA:Hid _:=hA;clear hI hA
 go_enter func128,ntmps128
 go_wp2
 go_loopw [15] (fun i W=>∃m:Nat,m≤D.length∧i=.int .i64 m∧G w W∧Hid (zCs (D.take m)=true)) (fun i _=>D.length-(RowKit.intOf i).toNat)
 case atStart=>exact⟨0,by omega,rfl,G.refl _,rfl⟩
 case round=>
  obtain⟨m,hm,rfl,hG,hall⟩:=hrel;have HG:Hid (G w wr):=hG;clear hG
  by_cases hlt:m<D.length
  ·obtain⟨q,hq⟩:∃q,D[m]?=some q:=⟨D[m],List.getElem?_eq_getElem hlt⟩
   have hcell:=zDP (IRow.G HI.out HG.out) (i:=m) (u:=q.it) (by rw[List.getElem?_map,hq];rfl);obtain⟨ok,k0⟩:=hD q (List.mem_of_getElem? hq);obtain⟨p,p',c,hN,c1,c2⟩:=zI7 q ok k0
   have R:Hid ((q.1=2∨q.1=3)→zCs (D.take (m+1))=true):=fun h=>by
    have:=hall.out;unfold zCs at this⊢;rw[zCv hq,List.all_append,this];simp[h]
   obtain⟨t,f,v,hx,hmm,hf,hC⟩:=hN;rw[hx] at hcell;have HC:Hid _:=hC;clear hC hx hq ok k0 hall
   by_cases hk:q.1=2∨q.1=3
   ·have hc:=c1 hk
    have R':Hid _:=R.out hk;clear c1 c2 R hk
    go_wp2_with fail
    refine(HC.out _).mono ?_;rintro e w1 ⟨rfl,rfl⟩
    go_wp2
    go_roundw
    case rel=>exact⟨m+1,by omega,by go_num,HG.out,R'.out⟩
    case measure=>simp[RowKit.intOf];omega
   ·obtain rfl:=c2 hk
    clear c1 c2 R hk
    go_wp2_with fail
    refine(HC.out _).mono ?_;rintro e w1 ⟨rfl,rfl⟩
    go_wp2
    go_ret2
    exact⟨rfl,HG.out⟩
  ·exfalso
   have e:D.take m=D:=List.take_of_length_le (by omega);have h1:=hall.out;rw[e,HA.out] at h1;cases h1
def zHi(D:List Qd)(m:Nat):Prop:=(∀j,j<m→cod D j=0)∧(m=D.length∨(m<D.length∧cod D m≠0))
theorem zRT(g cap:Nat)(D:List Qd)(hD:∀q∈D,Qd.num q)(hn:D.length≤140737488351232)(w:World)(hI:IRow w (.slice (some ⟨g,0,none⟩) D.length cap) (D.map Qd.it))(m0:Nat)(hE:zHi D m0)(rv:Value)(rc:Int)(hR:(m0=D.length∧rv=(tot D D.length).1∧rc=0)∨(m0<D.length∧rv=.nilIface∧rc=cod D m0)) :
  CG 128 #[.slice (some ⟨g,0,none⟩) D.length cap] w (.tuple #[rv,.int .i64 rc]):=by
 have HI:Hid _:=hI;have HE:Hid _:=hE;have HR:Hid _:=hR;clear hI hE hR
 go_enter func128,ntmps128
 go_wp2
 go_loopw [15] (fun i W=>∃m:Nat,m≤D.length∧i=.int .i64 m∧G w W) (fun i _=>D.length-(RowKit.intOf i).toNat)
 case atStart=>exact⟨0,by omega,rfl,G.refl _⟩
 case round=>
  obtain⟨m,hm,rfl,hG⟩:=hrel;have HG:Hid (G w wr):=hG;clear hG
  by_cases hlt:m<D.length
  ·obtain⟨q,hq⟩:∃q,D[m]?=some q:=⟨D[m],List.getElem?_eq_getElem hlt⟩
   have hcell:=zDP (IRow.G HI.out HG.out) (i:=m) (u:=q.it) (by rw[List.getElem?_map,hq];rfl);obtain⟨ok,hk,_⟩:=hD q (List.mem_of_getElem? hq);obtain⟨p,p',c,hN,c1,_⟩:=zI7 q ok (by omega);have hc:=c1 hk;obtain⟨t,f,v,hx,hmm,hf,hC⟩:=hN;rw[hx] at hcell;have HC:Hid _:=hC;clear hC hx hq ok c1 hk
   go_wp2_with fail
   refine(HC.out _).mono ?_;rintro e w1 ⟨rfl,rfl⟩
   go_wp2
   go_roundw
   case rel=>exact⟨m+1,by omega,by go_num,HG.out⟩
   case measure=>simp[RowKit.intOf];omega
  ·go_wp2
   go_loopw [8,30] (fun x i W=>∃m:Nat,m≤D.length∧i=.int .i64 m∧G w W∧Hid (x=(tot D m).1)∧Hid (∀j,j<m→cod D j=0)) (fun _ i _=>D.length-(RowKit.intOf i).toNat)
   case atStart=>exact⟨0,by omega,rfl,HG.out,rfl,fun j hj=>absurd hj (Nat.not_lt_zero j)⟩
   case round=>
    obtain⟨m,hm,rfl,hG2,HX,HC⟩:=hrel;have hx:=HX.out;subst hx;clear HX;have HG2:Hid (G w _):=hG2;clear hG2
    by_cases hlt2:m<D.length
    ·obtain⟨q,hq⟩:∃q,D[m]?=some q:=⟨D[m],List.getElem?_eq_getElem hlt2⟩
     have hcell:=zDP (IRow.G HI.out HG2.out) (i:=m) (u:=q.it) (by rw[List.getElem?_map,hq];rfl);have T1:Hid _:=(zFJ D hD hq HC.out).1;clear hq;generalize hy:q.it=y at hcell T1;generalize hx:(tot D m).1=x at T1⊢;clear hy hx
     by_cases hc:cod D m=0
     ·have R:Hid (∀j,j<m+1→cod D j=0):=fun j hj=>by
       rcases Nat.lt_or_ge j m with c|c
       ·exact HC.out j c
       ·have:j=m:=by omega
        rw[this];exact hc
      rw[hc] at T1;clear hc
      go_wp2_with fail
      refine(T1.out _).mono ?_;rintro e w1 ⟨rfl,hb1⟩;have HG3:Hid (G w w1):=HG2.out.trans hb1;clear hb1
      go_wp2
      go_roundw
      case rel=>exact⟨m+1,by omega,by go_num,HG3.out,rfl,R.out⟩
      case measure=>simp[RowKit.intOf];omega
     ·have hE:m0=m:=by
       obtain⟨e1,e2⟩:=HE.out
       rcases Nat.lt_trichotomy m m0 with h|h|h
       ·exact absurd (e1 m h) hc
       ·exact h.symm
       ·rcases e2 with e2|⟨_,e2⟩
        ·omega
        ·exact absurd (HC.out m0 h) e2
      have HQ:Hid (m0=m):=hE
      have hc':(cod D m != 0)=true:=by simpa using hc
      have HN:Hid (¬m=D.length):=by have:=hlt2;unfold Hid;omega
      clear hE hc;generalize hcd:cod D m=cd at T1 hc';have HCD:Hid _:=hcd;clear hcd
      go_wp2_with fail
      refine(T1.out _).mono ?_;rintro e w1 ⟨rfl,hb1⟩;have HG3:Hid (G w w1):=HG2.out.trans hb1;clear hb1
      go_wp2
      go_ret2
      refine⟨?_,HG3.out⟩
      rcases HR.out with ⟨h,_⟩|⟨_,h1,h2⟩
      ·exact absurd (HQ.out.symm.trans h) HN.out
      ·rw[h1,h2,HQ.out,HCD.out];rfl
    ·have hE:m0=D.length:=by
      obtain⟨e1,e2⟩:=HE.out
      rcases e2 with e2|⟨e3,e2⟩
      ·exact e2
      ·exact absurd (HC.out m0 (by omega)) e2
     have em:m=D.length:=by omega
     have HQ:Hid (m0=D.length∧m=D.length):=⟨hE,em⟩;clear hE em
     go_wp2
     go_ret2
     refine⟨?_,HG2.out⟩
     rcases HR.out with ⟨_,h1,h2⟩|⟨h,_⟩
     ·rw[h1,h2,←HQ.out.2];rfl
     ·have:=HQ.out.1;omega
noncomputable def cmpQ(q q':Qd):Int:=cmpR q.1.toNat q'.1.toNat q.2.1 q.2.2.1 q'.2.1 q'.2.2.1 q.2.2.2 q'.2.2.2
noncomputable def bst(D:List Qd)(side:Int):Nat→Nat
 | 0=>0
 | i+1=>if cmpQ (D.getD (i+1) (0,0,0,E0)) (D.getD (bst D side i) (0,0,0,E0))=side then i+1 else bst D side i
theorem zFz(D:List Qd)(side:Int):∀i,bst D side i≤i
 | 0=>Nat.le_refl _
 | i+1=>by
  have:=zFz D side i;unfold bst
  split<;>omega
theorem zYq(q q':Qd)(h:q.ok=true)(h':q'.ok=true)(w:World)(hR:Rks w):CG 48 #[q.it,q'.it] w (.int .i64 (cmpQ q q')):=by
 obtain⟨k,a,b,s⟩:=q;obtain⟨k',a',b',s'⟩:=q';unfold Qd.ok at h h';unfold Qd.it cmpQ;simp only at h h'⊢;have hk:=zAp k a b s h;have hk':=zAp k' a' b' s' h';obtain⟨n,rfl⟩:∃n:Nat,k=n:=⟨k.toNat,by omega⟩;obtain⟨n',rfl⟩:∃n:Nat,k'=n:=⟨k'.toNat,by omega⟩;rw[show(Int.toNat (n:Int))=n from rfl,show(Int.toNat (n':Int))=n' from rfl,←zJz (by omega) (by omega) h h'];exact zAG _ _ n n' a b a' b' s s' (zAA n a b s h) (zAA n' a' b' s' h') (by omega) (by omega) w hR
theorem zXK(g cap:Nat)(D:List Qd)(side:Int)(_hD:∀q∈D,q.ok=true)(h0:0<D.length)(hn:D.length≤140737488351232)(w:World)(_hR:Rks w)(hI:IRow w (.slice (some ⟨g,0,none⟩) D.length cap) (D.map Qd.it))(hcap:D.length≤cap)(h1:cap=1)(r:Value)(hr:(D.getD (bst D side (D.length-1)) (0,0,0,E0)).it=r) :
  CG 129 #[.slice (some ⟨g,0,none⟩) D.length cap,.int .i64 side] w (r):=by
 have HRR:Hid _:=hr;clear hr;have HI:Hid _:=hI;have hc0:=zDP hI (i:=0) (u:=(D.getD 0 (0,0,0,E0)).it) (by rw[List.getElem?_map,List.getD_eq_getElem?_getD,List.getElem?_eq_getElem h0];rfl);generalize hx:(D.getD 0 (0,0,0,E0)).it=x at hc0;have HX:Hid _:=hx;have z:((D.length:Int)==0)=false:=beq_false_of_ne (by omega)
 have i1:(1:Int)≤(D.length:Int):=by omega
 have i2:(D.length:Int)≤(cap:Int):=by omega
 clear hI hx
 go_enter func129,ntmps129
 go_wp2
 go_loopw [5,19] (fun y i W=>∃m:Nat,m+1≤D.length∧i=.int .i64 m∧G w W∧Hid (y=(D.getD (bst D side m) (0,0,0,E0)).it)) (fun _ i _=>D.length-(RowKit.intOf i).toNat)
 case atStart=>exact⟨0,by omega,rfl,G.refl _,HX.out.symm⟩
 case round=>
  obtain⟨m,hm,rfl,hG,HY⟩:=hrel;have hy:=HY.out;subst hy;clear HY;have HG:Hid (G w wr):=hG;clear hG;have bl:=zFz D side m
  have hb:D[bst D side m]?=some (D.getD (bst D side m) (0,0,0,E0)):=by rw[List.getD_eq_getElem?_getD,List.getElem?_eq_getElem (show bst D side m<D.length by omega)];rfl
  by_cases hlt:m+1<D.length
  ·omega
  ·have em:m=D.length-1:=by omega
   have HM:Hid (bst D side m=bst D side (D.length-1)):=by unfold Hid;rw[em]
   have hge:¬(m:Int)<((D.length-1:Nat):Int):=by omega
   generalize hz:(D.getD (bst D side m) (0,0,0,E0)).it=y
   have HZ:Hid ((D.getD (bst D side (D.length-1)) (0,0,0,E0)).it=y):=by unfold Hid;rw[←HM.out];exact hz
   clear hz hb bl em
   go_wp2
   go_ret;have e:=HRR.out.symm.trans HZ.out;exact⟨by rw[e];rfl,HG.out⟩
theorem zXJ(g cap:Nat)(D:List Qd)(side:Int)(hD:∀q∈D,q.ok=true)(h0:0<D.length)(hn:D.length≤140737488351232)(w:World)(hR:Rks w)(hI:IRow w (.slice (some ⟨g,0,none⟩) D.length cap) (D.map Qd.it))(hcap:D.length≤cap)(h1:¬cap=1)(r:Value)(hr:(D.getD (bst D side (D.length-1)) (0,0,0,E0)).it=r) :
  CG 129 #[.slice (some ⟨g,0,none⟩) D.length cap,.int .i64 side] w (r):=by
 have HRR:Hid _:=hr;clear hr;have HI:Hid _:=hI;have hc0:=zDP hI (i:=0) (u:=(D.getD 0 (0,0,0,E0)).it) (by rw[List.getElem?_map,List.getD_eq_getElem?_getD,List.getElem?_eq_getElem h0];rfl);generalize hx:(D.getD 0 (0,0,0,E0)).it=x at hc0;have HX:Hid _:=hx;have z:((D.length:Int)==0)=false:=beq_false_of_ne (by omega)
 have i1:(1:Int)≤(D.length:Int):=by omega
 have i2:(D.length:Int)≤(cap:Int):=by omega
 clear hI hx
 go_enter func129,ntmps129
 go_wp2
 go_loopw [5,19] (fun y i W=>∃m:Nat,m+1≤D.length∧i=.int .i64 m∧G w W∧Hid (y=(D.getD (bst D side m) (0,0,0,E0)).it)) (fun _ i _=>D.length-(RowKit.intOf i).toNat)
 case atStart=>exact⟨0,by omega,rfl,G.refl _,HX.out.symm⟩
 case round=>
  obtain⟨m,hm,rfl,hG,HY⟩:=hrel;have hy:=HY.out;subst hy;clear HY;have HG:Hid (G w wr):=hG;clear hG;have bl:=zFz D side m
  have hb:D[bst D side m]?=some (D.getD (bst D side m) (0,0,0,E0)):=by rw[List.getD_eq_getElem?_getD,List.getElem?_eq_getElem (show bst D side m<D.length by omega)];rfl
  by_cases hlt:m+1<D.length
  ·have hq:D[m+1]?=some (D.getD (m+1) (0,0,0,E0)):=by rw[List.getD_eq_getElem?_getD,List.getElem?_eq_getElem hlt];rfl
   have hcell:=zDP (IRow.G HI.out HG.out) (i:=1+m) (u:=(D.getD (m+1) (0,0,0,E0)).it) (by rw[Nat.add_comm 1 m,List.getElem?_map,hq];rfl);have HC:Hid _:=zYq (D.getD (m+1) (0,0,0,E0)) (D.getD (bst D side m) (0,0,0,E0)) (hD _ (List.mem_of_getElem? hq)) (hD _ (List.mem_of_getElem? hb)) wr (hR.G HG.out)
   have R1:Hid (cmpQ (D.getD (m+1) (0,0,0,E0)) (D.getD (bst D side m) (0,0,0,E0))=side→(D.getD (bst D side (m+1)) (0,0,0,E0)).it=(D.getD (m+1) (0,0,0,E0)).it):=fun h=>by rw[show bst D side (m+1)=m+1 by show(if _ then _ else _)=_;rw[if_pos h]]
   have R2:Hid (cmpQ (D.getD (m+1) (0,0,0,E0)) (D.getD (bst D side m) (0,0,0,E0))≠side→(D.getD (bst D side (m+1)) (0,0,0,E0)).it=(D.getD (bst D side m) (0,0,0,E0)).it):=fun h=>by rw[show bst D side (m+1)=bst D side m by show(if _ then _ else _)=_;rw[if_neg h]]
   generalize cmpQ (D.getD (m+1) (0,0,0,E0)) (D.getD (bst D side m) (0,0,0,E0))=c at HC R1 R2;generalize (D.getD (m+1) (0,0,0,E0)).it=y at hcell HC R1;generalize (D.getD (bst D side m) (0,0,0,E0)).it=z' at HC R2⊢
   have hl:(m:Int)<((D.length-1:Nat):Int):=by omega
   clear hq hb
   by_cases hs:c=side
   ·have R1':Hid _:=R1.out hs
    have hs':(c==side)=true:=by simpa using hs
    clear R1 R2 hs
    go_wp2_with fail
    refine Calls.mono (Hid.out HC) ?_;rintro e w1 ⟨rfl,hb1⟩;have HG1:Hid (G w w1):=HG.out.trans hb1;clear hb1
    go_wp2
    go_roundw
    case rel=>exact⟨m+1,by omega,by go_num,HG1.out,R1'.out.symm⟩
    case measure=>simp[RowKit.intOf];omega
   ·have R2':Hid _:=R2.out hs
    have hs':(c==side)=false:=beq_false_of_ne hs;clear R1 R2 hs
    go_wp2_with fail
    refine Calls.mono (Hid.out HC) ?_;rintro e w1 ⟨rfl,hb1⟩;have HG1:Hid (G w w1):=HG.out.trans hb1;clear hb1
    go_wp2
    go_roundw
    case rel=>exact⟨m+1,by omega,by go_num,HG1.out,R2'.out.symm⟩
    case measure=>simp[RowKit.intOf];omega
  ·have em:m=D.length-1:=by omega
   have HM:Hid (bst D side m=bst D side (D.length-1)):=by unfold Hid;rw[em]
   have hge:¬(m:Int)<((D.length-1:Nat):Int):=by omega
   generalize hz:(D.getD (bst D side m) (0,0,0,E0)).it=y
   have HZ:Hid ((D.getD (bst D side (D.length-1)) (0,0,0,E0)).it=y):=by unfold Hid;rw[←HM.out];exact hz
   clear hz hb bl em
   go_wp2
   go_ret;have e:=HRR.out.symm.trans HZ.out;exact⟨by rw[e];rfl,HG.out⟩
theorem zMv(g cap:Nat)(D:List Qd)(side:Int)(hD:∀q∈D,q.ok=true)(h0:0<D.length)(hn:D.length≤140737488351232)(w:World)(hR:Rks w)(hI:IRow w (.slice (some ⟨g,0,none⟩) D.length cap) (D.map Qd.it))(hcap:D.length≤cap) :
  Calls prog 129 #[.slice (some ⟨g,0,none⟩) D.length cap,.int .i64 side] w fun e w'=>e=.returned ((D.getD (bst D side (D.length-1)) (0,0,0,E0)).it)∧G w w':=by
 by_cases h1:cap=1
 ·exact zXK g cap D side hD h0 hn w hR hI hcap h1 _ rfl
 ·exact zXJ g cap D side hD h0 hn w hR hI hcap h1 _ rfl
theorem zPC(g n cap:Nat)(h0:0<n)(rv:Value)(c:Int)(hc:(c != 0)=true)(w:World)(h:CG 128 #[.slice (some ⟨g,0,none⟩) n cap] w (.tuple #[rv,.int .i64 c])) :
  CG 130 #[.slice (some ⟨g,0,none⟩) n cap] w (.tuple #[.nilIface,.int .i64 c]):=by
 have H:Hid _:=h;have z:((n:Int)==0)=false:=beq_false_of_ne (by omega);clear h
 go_enter func130,ntmps130
 go_wp2_with fail
 refine Calls.mono (Hid.out H) ?_;rintro e w1 ⟨rfl,hb1⟩
 go_wp2
 go_ret2
 exact⟨rfl,hb1⟩
theorem zTv(g n cap:Nat)(h0:0<n)(rv rv2:Value)(c:Int)(w:World)(h:CG 128 #[.slice (some ⟨g,0,none⟩) n cap] w (.tuple #[rv,.int .i64 0]))(h2:∀w,CG 88 #[.int .i64 4,rv,IW n] w (.tuple #[rv2,.int .i64 c])) :
  CG 130 #[.slice (some ⟨g,0,none⟩) n cap] w (.tuple #[rv2,.int .i64 c]):=by
 have H:Hid _:=h;have H2:Hid _:=h2;have z:((n:Int)==0)=false:=beq_false_of_ne (by omega);clear h h2
 go_enter func130,ntmps130
 go_wp2_with fail
 refine Calls.mono (Hid.out H) ?_;rintro e w1 ⟨rfl,hb1⟩
 go_wp2_with fail
 refine(H2.out _).mono ?_;rintro e w2 ⟨rfl,hb2⟩
 go_wp2
 go_ret2
 exact⟨rfl,hb1.trans hb2⟩
theorem zRU(w:World):CG 128 #[.slice none 0 0] w (.tuple #[IW 0,.int .i64 0]):=by
 go_enter func128,ntmps128
 go_wp2
 go_loopw [15] (fun i W=>i=.int .i64 0∧W=w) (fun _ _=>0)
 case atStart=>exact⟨rfl,rfl⟩
 case round=>
  obtain⟨rfl,rfl⟩:=hrel
  go_wp2
  go_loopw [8,30] (fun x i W=>x=IW 0∧i=.int .i64 0∧W=wr) (fun _ _ _=>0)
  case atStart=>exact⟨rfl,rfl,rfl⟩
  case round=>
   obtain⟨rfl,rfl,rfl⟩:=hrel
   go_wp2
   go_ret2
   exact⟨rfl,G.refl _⟩
end
section
open Go.RowKit Go.Lib Go.Shelf
abbrev Q0:Qd:=(0,0,0,E0)
theorem zLp(D:List Qd):∃m,zHi D m:=by
 suffices h:∀n,n≤D.length→(∀j,j<n→cod D j=0)∨∃m,zHi D m by
  rcases h D.length (Nat.le_refl _)with h|h
  ·exact⟨D.length,h,.inl rfl⟩
  ·exact h
 intro n
 induction n with
 | zero=>exact fun _=>.inl fun j hj=>absurd hj (Nat.not_lt_zero j)
 | succ n ih=>
  intro hn
  rcases ih (by omega)with h|h
  ·by_cases c:cod D n=0
   ·refine .inl fun j hj=>?_
    rcases Nat.lt_or_ge j n with d|d
    ·exact h j d
    ·have:j=n:=by omega
     rw[this];exact c
   ·exact .inr ⟨n,h,.inr ⟨by omega,c⟩⟩
  ·exact .inr h
def SR(D:List Qd)(rv:Value)(c:Int)(q:Qd):Prop:=(zCs D=false∧rv=.nilIface∧c=10∧q=Q0)∨
 (zCs D=true∧∃m0,zHi D m0∧((m0=D.length∧rv=(tot D D.length).1∧c=0∧q=(tot D D.length).2)∨(m0<D.length∧rv=.nilIface∧c=cod D m0∧q=Q0)))
def FR(agg:Int)(D:List Qd)(rv:Value)(c:Int)(q:Qd):Prop:=
 (agg=1∧rv=IW D.length∧c=0∧q=(2,(D.length:Int),0,E0))∨(agg=2∧SR D rv c q)∨
 ((agg=3∨agg=4∨agg=5)∧D=[]∧rv=.iface 110 (.agg #[])∧c=0∧q=Q0)∨
 (agg=3∧D≠[]∧rv=(D.getD (bst D (-1) (D.length-1)) Q0).it∧c=0∧q=D.getD (bst D (-1) (D.length-1)) Q0)∨
 (agg=4∧D≠[]∧rv=(D.getD (bst D 1 (D.length-1)) Q0).it∧c=0∧q=D.getD (bst D 1 (D.length-1)) Q0)∨
 (agg=5∧D≠[]∧((∃rv0,SR D rv0 c q∧c≠0∧rv=.nilIface)∨∃rv0 q0,SR D rv0 0 q0∧zQS 4 rv0 q0 (IW D.length) (2,(D.length:Int),0,E0) (rv,c,q)))
def zBq(D:List Qd):Prop:=(∀q∈D,q.ok=true∧q.1≠0∧I64 q.2.1)∧D.length≤140737488351232
theorem zF2{D:List Qd}(h:zBq D)(hA:zCs D=true):∀q∈D,Qd.num q:=fun q hq=>by
 obtain⟨h1,_,h3⟩:=h.1 q hq;have:=List.all_eq_true.1 hA q hq;simp at this;exact⟨h1,this,h3⟩
theorem zUP(D:List Qd):∃rv c q,SR D rv c q:=by
 cases hA:zCs D
 ·exact⟨_,_,_,.inl ⟨hA,rfl,rfl,rfl⟩⟩
 ·obtain⟨m,hm⟩:=zLp D
  rcases hm.2 with h|⟨h,_⟩
  ·exact⟨_,_,_,.inr ⟨hA,m,hm,.inl ⟨h,rfl,rfl,rfl⟩⟩⟩
  ·exact⟨_,_,_,.inr ⟨hA,m,hm,.inr ⟨h,rfl,rfl,rfl⟩⟩⟩
theorem zQ1{D:List Qd}(hD:zBq D){rv:Value}{q:Qd}(h:SR D rv 0 q):NmbQ rv q:=by
 rcases h with ⟨_,_,h,_⟩|⟨hA,m,hm,h⟩
 ·cases h
 ·rcases h with ⟨h,rfl,_,rfl⟩|⟨h,_,hc,_⟩
  ·exact zHr D (zF2 hD hA) _ (Nat.le_refl _) (fun j hj=>hm.1 j (by omega))
  ·rcases hm.2 with e|⟨_,e⟩
   ·omega
   ·exact absurd hc.symm e
theorem zTA{D:List Qd}(hD:zBq D):NmbQ (IW D.length) (2,(D.length:Int),0,E0):=.inl ⟨rfl,rfl,rfl,⟨by have:=hD.2;simp only;omega,by have:=hD.2;simp only;omega⟩,rfl⟩
theorem zYa(agg:Int)(h1:1≤agg)(h5:agg≤5)(D:List Qd)(hD:zBq D):∃rv c q,FR agg D rv c q:=by
 have d:agg=1∨agg=2∨agg=3∨agg=4∨agg=5:=by omega
 rcases d with rfl|rfl|rfl|rfl|rfl
 ·exact⟨_,_,_,.inl ⟨rfl,rfl,rfl,rfl⟩⟩
 ·obtain⟨rv,c,q,h⟩:=zUP D
  exact⟨rv,c,q,.inr (.inl ⟨rfl,h⟩)⟩
 ·by_cases h:D=[]
  ·exact⟨_,_,_,.inr (.inr (.inl ⟨.inl rfl,h,rfl,rfl,rfl⟩))⟩
  ·exact⟨_,_,_,.inr (.inr (.inr (.inl ⟨rfl,h,rfl,rfl,rfl⟩)))⟩
 ·by_cases h:D=[]
  ·exact⟨_,_,_,.inr (.inr (.inl ⟨.inr (.inl rfl),h,rfl,rfl,rfl⟩))⟩
  ·exact⟨_,_,_,.inr (.inr (.inr (.inr (.inl ⟨rfl,h,rfl,rfl,rfl⟩))))⟩
 ·by_cases h:D=[]
  ·exact⟨_,_,_,.inr (.inr (.inl ⟨.inr (.inr rfl),h,rfl,rfl,rfl⟩))⟩
  ·obtain⟨rv,c,q,hs⟩:=zUP D
   by_cases hc:c=0
   ·subst hc
    obtain⟨s,hst⟩:=zLv 4 (by decide) (by decide) (zQ1 hD hs) (zTA hD);exact⟨s.1,s.2.1,s.2.2,.inr (.inr (.inr (.inr (.inr ⟨rfl,h,.inr ⟨rv,q,hs,hst⟩⟩))))⟩
   ·exact⟨_,c,q,.inr (.inr (.inr (.inr (.inr ⟨rfl,h,.inl ⟨rv,hs,hc,rfl⟩⟩))))⟩
theorem zRc{x:Value}{q:Qd}(h:NmbQ x q):IVal x q.1 q.2.1 q.2.2.1 q.2.2.2:=by
 obtain⟨k,a,b,s⟩:=q
 rcases h with ⟨hk,hb,hs,_,rfl⟩|⟨hk,hs,pa,pb,u,v,rfl,fu,fv⟩
 ·simp only at hk hb hs⊢
  subst hk;subst hb;subst hs;exact zJg a
 ·simp only at hk hs pa pb fu fv⊢
  subst hk;subst hs;exact zRh u v a b fu fv pa.lt pb.lt
theorem zWB{agg:Int}{D:List Qd}(hD:zBq D){rv:Value}{c:Int}{q:Qd}(h:FR agg D rv c q)(w:World):CG 35 #[rv,.int .i64 c] w (.tuple #[q.W,.int .i64 c]):=by
 have err:∀{c:Int} {rv:Value},c≠0→CG 35 #[rv,.int .i64 c] w (.tuple #[Qd.W Q0,.int .i64 c]):=fun hc=>zAa _ _ (by simpa using hc) w
 have srq:∀{rv:Value} {c:Int} {q:Qd},SR D rv c q→c≠0→q=Q0:=by
  intro rv c q hs hc
  rcases hs with ⟨_,_,_,rfl⟩|⟨_,m,_,⟨_,_,h0,_⟩|⟨_,_,_,rfl⟩⟩
  ·rfl
  ·exact absurd h0 hc
  ·rfl
 rcases h with ⟨_,rfl,rfl,rfl⟩|⟨_,hs⟩|⟨_,_,rfl,rfl,rfl⟩|⟨_,hne,rfl,rfl,rfl⟩|⟨_,hne,rfl,rfl,rfl⟩|⟨_,_,⟨rv0,hs,hc,rfl⟩|⟨rv0,q0,hs,hst⟩⟩
 ·exact zAg _ w
 ·by_cases hc:c=0
  ·subst hc
   exact zCV (zRc (zQ1 hD hs)) w
  ·rw[srq hs hc]
   exact err hc
 ·exact zAh w
 ·have hm:D.getD (bst D (-1) (D.length-1)) Q0∈D:=by
   have:=zFz D (-1) (D.length-1);have hl:0<D.length:=List.length_pos_iff.2 hne;rw[List.getD_eq_getElem?_getD,List.getElem?_eq_getElem (show bst D (-1) (D.length-1)<D.length by omega)];exact List.getElem_mem _
  exact zCV (zAA _ _ _ _ (hD.1 _ hm).1) w
 ·have hm:D.getD (bst D 1 (D.length-1)) Q0∈D:=by
   have:=zFz D 1 (D.length-1);have hl:0<D.length:=List.length_pos_iff.2 hne;rw[List.getD_eq_getElem?_getD,List.getElem?_eq_getElem (show bst D 1 (D.length-1)<D.length by omega)];exact List.getElem_mem _
  exact zCV (zAA _ _ _ _ (hD.1 _ hm).1) w
 ·rw[srq hs hc]
  exact err hc
 ·rcases hst.2.1 with ⟨h0,hn⟩|⟨h0,e1,e2,e3,e4⟩
  ·simp only at h0 hn
   subst h0;exact zCV (zRc hn) w
  ·have hc:c≠0:=fun e=>h0.mp e
   have:q=Q0:=Prod.ext e1 (Prod.ext e2 (Prod.ext e3 e4));rw[this];exact err hc
theorem fo_1(x:Value)(n cap:Nat)(a:Option Addr)(hx:x=.slice a n cap)(w:World):CG 96 #[.int .i64 1,x] w (.tuple #[IW n,.int .i64 0]):=by
 subst hx
 go_enter func96,ntmps96
 go_wp2
 go_ret2
 exact⟨rfl,G.refl _⟩
theorem fo_2(x rv:Value)(c:Int)(w:World)(h:CG 128 #[x] w (.tuple #[rv,.int .i64 c])):CG 96 #[.int .i64 2,x] w (.tuple #[rv,.int .i64 c]):=by
 have H:Hid _:=h;clear h
 go_enter func96,ntmps96
 go_wp2_with fail
 refine Calls.mono (Hid.out H) ?_;rintro e w1 ⟨rfl,hb1⟩
 go_wp2
 go_ret2
 exact⟨rfl,hb1⟩
theorem fo_3(x rv:Value)(w:World)(h:CG 129 #[x,.int .i64 (-1)] w (rv)):CG 96 #[.int .i64 3,x] w (.tuple #[rv,.int .i64 0]):=by
 have H:Hid _:=h;clear h
 go_enter func96,ntmps96
 go_wp2_with fail
 refine Calls.mono (Hid.out H) ?_;rintro e w1 ⟨rfl,hb1⟩
 go_wp2
 go_ret2
 exact⟨rfl,hb1⟩
theorem fo_4(x rv:Value)(w:World)(h:CG 129 #[x,.int .i64 1] w (rv)):CG 96 #[.int .i64 4,x] w (.tuple #[rv,.int .i64 0]):=by
 have H:Hid _:=h;clear h
 go_enter func96,ntmps96
 go_wp2_with fail
 refine Calls.mono (Hid.out H) ?_;rintro e w1 ⟨rfl,hb1⟩
 go_wp2
 go_ret2
 exact⟨rfl,hb1⟩
theorem fo_5(x rv:Value)(c:Int)(w:World)(h:CG 130 #[x] w (.tuple #[rv,.int .i64 c])):CG 96 #[.int .i64 5,x] w (.tuple #[rv,.int .i64 c]):=by
 have H:Hid _:=h;clear h
 go_enter func96,ntmps96
 go_wp2_with fail
 refine Calls.mono (Hid.out H) ?_;rintro e w1 ⟨rfl,hb1⟩
 go_wp2
 go_ret2
 exact⟨rfl,hb1⟩
theorem zI3(a:Option Addr)(cap:Nat)(side:Int)(w:World):CG 129 #[.slice a 0 cap,.int .i64 side] w (.iface 110 (.agg #[])):=by
 go_enter func129,ntmps129
 go_wp2
 go_ret;exact⟨rfl,G.refl _⟩
theorem zMH(a:Option Addr)(cap:Nat)(w:World):CG 130 #[.slice a 0 cap] w (.tuple #[.iface 110 (.agg #[]),.int .i64 0]):=by
 go_enter func130,ntmps130
 go_wp2
 go_ret2
 exact⟨rfl,G.refl _⟩
theorem zLw{D:List Qd}(hD:zBq D){rv:Value}{c:Int}{q:Qd}(h:SR D rv c q)(x:Value)(w:World)(hI:IRow w x (D.map Qd.it)):CG 128 #[x] w (.tuple #[rv,.int .i64 c]):=by
 rcases hI with ⟨rfl,hn⟩|⟨g,cap,rfl,hcap,hcell⟩
 ·have:D=[]:=List.map_eq_nil_iff.1 hn
  subst this
  rcases h with ⟨h,_⟩|⟨_,m,_,⟨_,rfl,rfl,_⟩|⟨h,_⟩⟩
  ·cases h
  ·exact zRU w
  ·exact absurd h (Nat.not_lt_zero _)
 ·have hI:IRow w (.slice (some ⟨g,0,none⟩) D.length cap) (D.map Qd.it):=.inr ⟨g,cap,by rw[List.length_map],hcap,hcell⟩
  rw[List.length_map]
  rcases h with ⟨hA,rfl,rfl,_⟩|⟨hA,m,hm,hr⟩
  ·exact zUO g cap D (fun q hq=>⟨(hD.1 q hq).1,(hD.1 q hq).2.1⟩) hD.2 w hI hA
  ·exact zRT g cap D (zF2 hD hA) hD.2 w hI m hm rv c (by
    rcases hr with ⟨h1,h2,h3,_⟩|⟨h1,h2,h3,_⟩
    ·exact .inl ⟨h1,h2,h3⟩
    ·exact .inr ⟨h1,h2,h3⟩)
theorem zWC{agg:Int}{D:List Qd}(hD:zBq D){rv:Value}{c:Int}{q:Qd}(h:FR agg D rv c q)(x:Value)(w:World)(hR:Rks w)(hI:IRow w x (D.map Qd.it)):CG 96 #[.int .i64 agg,x] w (.tuple #[rv,.int .i64 c]):=by
 have hsl:∃a n cap,x=.slice a n cap∧n=D.length:=by
  rcases hI with ⟨rfl,hn⟩|⟨g,cap,rfl,_,_⟩
  ·exact⟨_,_,_,rfl,by rw[List.map_eq_nil_iff.1 hn];rfl⟩
  ·exact⟨_,_,_,rfl,by rw[List.length_map]⟩
 have nn:D=[]→∃a cap,x=.slice a 0 cap:=fun e=>by
  rcases hI with ⟨rfl,_⟩|⟨g,cap,rfl,_,_⟩
  ·exact⟨_,_,rfl⟩
  ·exact⟨_,cap,by rw[e];rfl⟩
 have som:D≠[]→∃g cap,x=.slice (some ⟨g,0,none⟩) D.length cap∧D.length≤cap∧IRow w (.slice (some ⟨g,0,none⟩) D.length cap) (D.map Qd.it):=fun e=>by
  rcases hI with ⟨rfl,hn⟩|⟨g,cap,rfl,hcap,hcell⟩
  ·exact absurd (List.map_eq_nil_iff.1 hn) e
  ·rw[List.length_map] at hcap⊢
   exact⟨g,cap,rfl,hcap,.inr ⟨g,cap,by rw[List.length_map],by rw[List.length_map];exact hcap,hcell⟩⟩
 rcases h with ⟨rfl,rfl,rfl,_⟩|⟨rfl,hs⟩|⟨ha,hn,rfl,rfl,_⟩|⟨rfl,hne,rfl,rfl,_⟩|⟨rfl,hne,rfl,rfl,_⟩|⟨rfl,hne,hm⟩
 ·obtain⟨a,n,cap,hx,rfl⟩:=hsl
  exact fo_1 x _ cap a hx w
 ·exact fo_2 x rv c w (zLw hD hs x w hI)
 ·obtain⟨a,cap,rfl⟩:=nn hn
  rcases ha with rfl|rfl|rfl
  ·exact fo_3 _ _ w (zI3 a cap _ w)
  ·exact fo_4 _ _ w (zI3 a cap _ w)
  ·exact fo_5 _ _ _ w (zMH a cap w)
 ·obtain⟨g,cap,rfl,hc,hI'⟩:=som hne
  exact fo_3 _ _ w (zMv g cap D (-1) (fun q hq=>(hD.1 q hq).1) (List.length_pos_iff.2 hne) hD.2 w hR hI' hc)
 ·obtain⟨g,cap,rfl,hc,hI'⟩:=som hne
  exact fo_4 _ _ w (zMv g cap D 1 (fun q hq=>(hD.1 q hq).1) (List.length_pos_iff.2 hne) hD.2 w hR hI' hc)
 ·obtain⟨g,cap,rfl,hc,hI'⟩:=som hne
  rcases hm with ⟨rv0,hs,hc,rfl⟩|⟨rv0,q0,hs,hst⟩
  ·exact fo_5 _ _ _ w (zPC g _ cap (List.length_pos_iff.2 hne) rv0 c (by simpa using hc) w (zLw hD hs _ w hI'))
  ·exact fo_5 _ _ _ w (zTv g _ cap (List.length_pos_iff.2 hne) rv0 rv c w (zLw hD hs _ w hI') hst.1)
theorem zQU(agg:Int)(x:Value)(ho:agg<1∨5<agg)(w:World):CG 53 #[.int .i64 agg,x] w (.tuple #[V0,.int .i64 1]):=by
 by_cases h:agg<1
 ·clear ho
  go_enter func53,ntmps53
  go_wp2
  exact bodyPost_ret (v:=.tuple #[V0,.int .i64 1]) (by simp[results,results53,go_sem]) rfl ⟨rfl,by repeat(first|exact G.refl _|refine G.alloc ?_ _|refine G.setCell ?_ (by simp) _)⟩
 ·have h':5<agg:=by omega
  clear ho
  go_enter func53,ntmps53
  go_wp2
  exact bodyPost_ret (v:=.tuple #[V0,.int .i64 1]) (by simp[results,results53,go_sem]) rfl ⟨rfl,by repeat(first|exact G.refl _|refine G.alloc ?_ _|refine G.setCell ?_ (by simp) _)⟩
theorem zGP(x:Value)(L:List Qd)(w:World)(hT:Tabs w)(hV:VRow w x L)(hn:L.length*40≤140737488351232) :
  Calls prog 95 #[x] w fun e w'=>((L.all Qd.ok=true∧∃x',e=.returned (.tuple #[x',.bool true])∧IRow w' x' (zAz L))∨(L.all Qd.ok=false∧e=.returned (.tuple #[.slice none 0 0,.bool false])))∧G w w':=by
 have hV':=hV
 rcases hV with ⟨rfl,rfl⟩|⟨b,off,cap,rfl,_,_⟩
 ·refine(zNh w).mono ?_
  rintro e w1 ⟨rfl,hb⟩;exact⟨.inl ⟨rfl,_,rfl,.inl ⟨rfl,rfl⟩⟩,hb⟩
 ·exact zKR b off cap L w hT hV' hn
theorem zQT(agg:Int)(h1:1≤agg)(h5:agg≤5)(x:Value)(L:List Qd)(w:World)(hT:Tabs w)(hV:VRow w x L)(hn:L.length*40≤140737488351232)(hA:L.all Qd.ok=false):CG 53 #[.int .i64 agg,x] w (.tuple #[V0,.int .i64 16]):=by
 have H:Hid (∀W,G w W→CG 95 #[x] W (.tuple #[.slice none 0 0,.bool false])):=fun W g=>by
  refine(zGP x L W (hT.G g) (hV.G g) hn).mono ?_;rintro e w1 ⟨h,hb⟩
  rcases h with ⟨h,_⟩|⟨_,rfl⟩
  ·rw[hA] at h;cases h
  ·exact⟨rfl,hb⟩
 clear hV hA hT
 go_enter func53,ntmps53
 go_wp2_with fail
 refine(H.out _ ((G.refl w).alloc _)).mono ?_;rintro e w1 ⟨rfl,hb1⟩;have g1:G w w1:=((G.refl w).alloc _).trans hb1;obtain⟨hc1,hf1⟩:=hb1.rules
 go_wp2
 exact bodyPost_ret (v:=.tuple #[V0,.int .i64 16]) (by simp[results,results53,go_sem,hc1]) rfl ⟨rfl,by
  repeat(first|exact g1|refine G.alloc ?_ _|refine G.setCell ?_ (by simp;try omega) _)⟩
def zAc(L:List Qd):List Qd:=L.filter fun q=>q.1 != 0
theorem zUC(agg:Int)(h1:1≤agg)(h5:agg≤5)(x:Value)(L:List Qd)(w:World)(hT:Tabs w)(hR:Rks w)(hV:VRow w x L)(hn:L.length*40≤140737488351232)(hA:L.all Qd.ok=true)(hD:zBq (zAc L))(rv:Value)(c:Int)(q:Qd)(hF:FR agg (zAc L) rv c q) :
  CG 53 #[.int .i64 agg,x] w (.tuple #[q.W,.int .i64 c]):=by
 have H:Hid (∀W,G w W→Calls prog 95 #[x] W fun e w'=>(∃x',e=.returned (.tuple #[x',.bool true])∧IRow w' x' ((zAc L).map Qd.it))∧G W w'):=fun W g=>by
  refine(zGP x L W (hT.G g) (hV.G g) hn).mono ?_;rintro e w1 ⟨h,hb⟩
  rcases h with ⟨_,h⟩|⟨h,_⟩
  ·exact⟨h,hb⟩
  ·rw[hA] at h;cases h
 have H2:Hid (∀x' W,G w W→IRow W x' ((zAc L).map Qd.it)→CG 96 #[.int .i64 agg,x'] W (.tuple #[rv,.int .i64 c])):=fun x' W g hI=>zWC hD hF x' W (hR.G g) hI;have H3:Hid _:=zWB hD hF;clear hV hA hT hD hF;obtain⟨qk,qa,qb,qs⟩:=q
 go_enter func53,ntmps53
 go_wp2_with fail
 refine(H.out _ ((G.refl w).alloc _)).mono ?_;rintro e w1 ⟨⟨x',rfl,hI⟩,hb1⟩;have HI:Hid _:=hI;clear hI;have g1:G w w1:=((G.refl w).alloc _).trans hb1;obtain⟨hc1,hf1⟩:=hb1.rules
 have hz1:w.heap.size<w1.heap.size:=by have:=hb1.size;simp at this;omega
 go_wp2_with fail
 refine(H2.out _ _ g1 HI.out).mono ?_;rintro e w2 ⟨rfl,hb2⟩;have g2:G w w2:=g1.trans hb2;obtain⟨hc2,hf2⟩:=hb2.rules
 have hz2:w.heap.size<w2.heap.size:=by have:=hb2.size;omega
 go_wp2_with fail
 refine(H3.out _).mono ?_;rintro e w3 ⟨rfl,hb3⟩;have g3:G w w3:=g2.trans hb3;obtain⟨hc3,hf3⟩:=hb3.rules
 go_wp2
 exact bodyPost_ret (v:=.tuple #[V qk qa qb qs,.int .i64 c]) (by simp[results,results53,go_sem,hc1,hc2,hc3,hz1,hz2]) rfl ⟨rfl,by
  repeat(first|exact g3|refine G.alloc ?_ _|refine G.setCell ?_ (by simp;try omega) _)⟩
end
section
open Go.RowKit Go.Lib Go.Shelf
theorem zOB(b off cap:Nat)(D:List Qd)(hn:D.length≤140737488351232)(w:World)(hV:VRow w (.slice (some ⟨b,off,none⟩) D.length cap) D)(hA:zCs D=false) :
  CG 97 #[.slice (some ⟨b,off,none⟩) D.length cap] w (.tuple #[V0,.int .i64 10]):=by
 have HV:Hid _:=hV;have HA:Hid _:=hA;clear hV hA
 go_enter func97,ntmps97
 go_wp2
 go_loopw [4] (fun i W=>∃m:Nat,m≤D.length∧i=.int .i64 m∧W=w.alloc (.cells #[I 0,I 0,I 0,.string E0] 31)∧Hid (zCs (D.take m)=true)) (fun i _=>D.length-(RowKit.intOf i).toNat)
 case atStart=>exact⟨0,by omega,rfl,rfl,rfl⟩
 case round=>
  obtain⟨m,hm,rfl,rfl,hall⟩:=hrel
  by_cases hlt:m<D.length
  ·obtain⟨q,hq⟩:∃q,D[m]?=some q:=⟨D[m],List.getElem?_eq_getElem hlt⟩
   obtain⟨h0,_,_,_⟩:=zBa (VRow.G HV.out ((G.refl w).alloc (.cells #[I 0,I 0,I 0,.string E0] 31))) hq
   have R:Hid ((q.1=2∨q.1=3)→zCs (D.take (m+1))=true):=fun h=>by
    have:=hall.out;unfold zCs at this⊢;rw[zCv hq,List.all_append,this];simp[h]
   clear hq hall;obtain⟨k,a,b',s⟩:=q;simp only at h0 R
   by_cases k2:k=2
   ·have R':Hid _:=R.out (.inl k2)
    have n2:(k != 2)=false:=by simp[k2]
    clear R k2
    go_wp2
    go_roundw
    case rel=>exact⟨m+1,by omega,by go_num,by trivial,R'.out⟩
    case measure=>simp[RowKit.intOf];omega
   ·have n2:(k != 2)=true:=by simpa using k2
    by_cases k3:k=3
    ·have R':Hid _:=R.out (.inr k3)
     have n3:(k != 3)=false:=by simp[k3]
     clear R k2 k3
     go_wp2
     go_roundw
     case rel=>exact⟨m+1,by omega,by go_num,by trivial,R'.out⟩
     case measure=>simp[RowKit.intOf];omega
    ·have n3:(k != 3)=true:=by simpa using k3
     clear R k2 k3
     go_wp2
     exact bodyPost_ret (v:=.tuple #[V0,.int .i64 10]) (by simp[results,results97,go_sem]) rfl ⟨rfl,by
      repeat(first|exact G.refl _|refine G.alloc ?_ _|refine G.setCell ?_ (by simp;try omega) _)⟩
  ·exfalso
   have e:D.take m=D:=List.take_of_length_le (by omega);have h1:=hall.out;rw[e,HA.out] at h1;cases h1
def SBox(w:World)(q:Qd)(b c:Nat)(W:World):Prop:=Two w b c (fun o=>[I 0,I 0,I 0,Value.string E0][o]?) (fun o=>[I q.1,I q.2.1,I q.2.2.1,Value.string q.2.2.2][o]?) W
def RS(w:World)(B5 b o:Nat)(tk ta tb:Int)(ts:ByteArray)(qk qa qb:Int)(qs:ByteArray)(W:World):Prop:=(∀(o:Nat),W.cell? {block:=B5,off:=o}=[I tk,I ta,I tb,Value.string ts][o]?)∧W.cell? {block:=b,off:=o}=some (I qk)∧W.cell? {block:=b,off:=o+1}=some (I qa)∧W.cell? {block:=b,off:=o+2}=some (I qb)∧W.cell? {block:=b,off:=o+3}=some (.string qs)∧
 (∀(o:Nat),W.cell? {block:=w.heap.size,off:=o}=[I 0,I 0,I 0,Value.string E0][o]?)∧(∀(o:Nat),W.frozen? {block:=w.heap.size,off:=o}=false)∧(∀(o:Nat),W.frozen? {block:=B5,off:=o}=false)∧G w W∧w.heap.size<W.heap.size∧B5<W.heap.size
theorem RS.keep{w W W':World}{B5 b o:Nat}{tk ta tb:Int}{ts:ByteArray}{qk qa qb:Int}{qs:ByteArray}(hb:G W W')(h:RS w B5 b o tk ta tb ts qk qa qb qs W):RS w B5 b o tk ta tb ts qk qa qb qs W':=by
 obtain⟨h1,h2,h3,h4,h5,h6,h7,h8,h9,h10,h11⟩:=h;exact⟨G.cells hb h1 h11,(hb.cell (zDa h2)).trans h2,(hb.cell (zDa h3)).trans h3,(hb.cell (zDa h4)).trans h4,(hb.cell (zDa h5)).trans h5,G.cells hb h6 h10,G.frozens hb h7 h10,G.frozens hb h8 h11,h9.trans hb,Nat.lt_of_lt_of_le h10 hb.size,Nat.lt_of_lt_of_le h11 hb.size⟩
theorem zXm{w W:World}{B5 b off n cap m:Nat}{t q:Qd}{D:List Qd}(h:SBox w t w.heap.size B5 W)(hV:VRow W (.slice (some ⟨b,off,none⟩) n cap) D)(hq:D[m]?=some q):RS w B5 b (off+m*4) t.1 t.2.1 t.2.2.1 t.2.2.2 q.1 q.2.1 q.2.2.1 q.2.2.2 W:=by
 obtain⟨h1,h2,h3,h4,h5,h6,h7⟩:=h;obtain⟨c0,c1,c2,c3⟩:=zBa hV hq;exact⟨h2,c0,c1,c2,c3,h1,h3,h4,h5,h6,h7⟩
theorem zLC(b off cap:Nat)(D:List Qd)(hD:∀q∈D,Qd.num q)(hn:D.length≤140737488351232)(w:World)(hV:VRow w (.slice (some ⟨b,off,none⟩) D.length cap) D)(m0:Nat)(hE:zHi D m0)(rc:Int)(q0:Qd)(hR:(m0=D.length∧rc=0∧q0=(tot D D.length).2)∨(m0<D.length∧rc=cod D m0∧q0=Q0)) :
  CG 97 #[.slice (some ⟨b,off,none⟩) D.length cap] w (.tuple #[q0.W,.int .i64 rc]):=by
 have HV:Hid _:=hV;have HE:Hid _:=hE;have HR:Hid _:=hR;clear hV hE hR
 go_enter func97,ntmps97
 go_wp2
 go_loopw [4] (fun i W=>∃m:Nat,m≤D.length∧i=.int .i64 m∧W=w.alloc (.cells #[I 0,I 0,I 0,.string E0] 31)) (fun i _=>D.length-(RowKit.intOf i).toNat)
 case atStart=>exact⟨0,by omega,rfl,rfl⟩
 case round=>
  obtain⟨m,hm,rfl,rfl⟩:=hrel
  by_cases hlt:m<D.length
  ·obtain⟨q,hq⟩:∃q,D[m]?=some q:=⟨D[m],List.getElem?_eq_getElem hlt⟩
   obtain⟨h0,_,_,_⟩:=zBa (VRow.G HV.out ((G.refl w).alloc (.cells #[I 0,I 0,I 0,.string E0] 31))) hq;have hk:=(hD q (List.mem_of_getElem? hq)).2.1;clear hq;obtain⟨k,a,b',s⟩:=q;simp only at h0 hk
   by_cases k2:k=2
   ·have n2:(k != 2)=false:=by simp[k2]
    clear k2 hk
    go_wp2
    go_roundw
    case rel=>exact⟨m+1,by omega,by go_num,by trivial⟩
    case measure=>simp[RowKit.intOf];omega
   ·have n2:(k != 2)=true:=by simpa using k2
    have n3:(k != 3)=false:=by
                     have:k=3:=by omega
                     simp[this]
    clear k2 hk
    go_wp2
    go_roundw
    case rel=>exact⟨m+1,by omega,by go_num,by trivial⟩
    case measure=>simp[RowKit.intOf];omega
  ·go_wp2_with fail
   refine(rwhole _ _).mono ?_;rintro e w1 ⟨rfl,hb1⟩
   have hz1:w.heap.size<w1.heap.size:=by have:=hb1.size;simp at this;omega
   have hT:Two w w.heap.size w1.heap.size (fun o=>[I 0,I 0,I 0,Value.string E0][o]?) (fun o=>[I 2,I 0,I 0,Value.string E0][o]?) (w1.alloc (.cells #[I 2,I 0,I 0,.string E0] 31)):=by
    have hz:w.heap.size<w1.heap.size:=by have:=hb1.size;simp at this;omega
    refine⟨?_,fun o=>by simp,?_,fun o=>by simp,(((G.refl w).alloc _).trans hb1).alloc _,by simp;omega,by simp⟩
    ·exact G.cells (hb1.alloc _) (fun o=>by simp) (by simp)
    ·exact G.frozens (hb1.alloc _) (fun o=>by simp) (by simp)
   clear hb1;have HT0:Hid (SBox w (tot D 0).2 w.heap.size w1.heap.size (w1.alloc (.cells #[I 2,I 0,I 0,.string E0] 31))):=hT;clear hT;generalize hB5:w1.heap.size=B5 at HT0 hz1
   go_wp2
   go_loopw [6] (fun i W=>∃m:Nat,m≤D.length∧i=.int .i64 m∧Hid (SBox w (tot D m).2 w.heap.size B5 W)∧Hid (∀j,j<m→cod D j=0)) (fun i _=>D.length-(RowKit.intOf i).toNat)
   case atStart=>exact⟨0,by omega,rfl,HT0.out,fun j hj=>absurd hj (Nat.not_lt_zero j)⟩
   case round=>
    obtain⟨m,hm,rfl,HS,HC⟩:=hrel;have HG:Hid (G w wr):=HS.out.2.2.2.2.1
    by_cases hlt2:m<D.length
    ·obtain⟨q,hq⟩:∃q,D[m]?=some q:=⟨D[m],List.getElem?_eq_getElem hlt2⟩
     have hr0:=zXm HS.out (VRow.G HV.out HG.out) hq;have T2:Hid _:=(zFJ D hD hq HC.out).2.1;have T3:Hid _:=(zFJ D hD hq HC.out).2.2;generalize htn:(tot D (m+1)).2=tn at T2 T3;generalize (tot D m).2=tq at hr0 T2;have HTN:Hid _:=htn;clear hq htn HS;obtain⟨tk,ta,tb,ts⟩:=tq;obtain⟨nk,na,nb,ns⟩:=tn;obtain⟨qk,qa,qb,qs⟩:=q;unfold RS at hr0;simp only at hr0
     by_cases hlt3:(m:Int)<(D.length:Int)
     ·go_wp2
      go_region_held3 (fun W=>(∀(o:Nat),W.cell? {block:=B5,off:=o}=[I tk,I ta,I tb,Value.string ts][o]?)∧W.cell? {block:=b,off:=off+m*4}=some (I qk)∧W.cell? {block:=b,off:=off+m*4+1}=some (I qa)∧W.cell? {block:=b,off:=off+m*4+2}=some (I qb)∧W.cell? {block:=b,off:=off+m*4+3}=some (.string qs)∧
        (∀(o:Nat),W.cell? {block:=w.heap.size,off:=o}=[I 0,I 0,I 0,Value.string E0][o]?)∧(∀(o:Nat),W.frozen? {block:=w.heap.size,off:=o}=false)∧(∀(o:Nat),W.frozen? {block:=B5,off:=o}=false)∧G w W∧w.heap.size<W.heap.size∧B5<W.heap.size)
       ((first|assumption|(refine RS.keep ?_ hr0;repeat(first|exact G.refl _|exact(G.drew (G.refl _)).trans hb5|exact(G.alloc (G.drew (G.refl _)) _).trans hb5|exact(G.drew (G.alloc (G.refl _) _)).trans hb5|refine G.drew ?_|refine G.alloc ?_ _|refine G.setCell ?_ (by simp) _))))
       (first|(go_at_call 47;refine(T2.out _).mono ?_;rintro e w5 ⟨rfl,hb5⟩;obtain⟨hc5,hf5⟩:=hb5.rules)|fail)
      ·rename_i hH
       have hT7:∀o,(w5.alloc (.cells #[I nk,I na,I nb,.string ns] 31)).cell? ⟨w5.heap.size,o,none⟩=[I nk,I na,I nb,Value.string ns][o]?:=fun o=>by simp
       clear hb5 hc5 hf5 hr0;generalize (w5.alloc (.cells #[I nk,I na,I nb,.string ns] 31))=W6 at hT7 hH⊢;generalize w5.heap.size=T7 at hT7⊢;obtain⟨c5,_,_,_,_,c2,f2,f5,hG6,z2,z5⟩:=hH;have HTwo:Hid (Two w w.heap.size B5 (fun o=>[I 0,I 0,I 0,Value.string E0][o]?) (fun o=>[I tk,I ta,I tb,Value.string ts][o]?) W6):=⟨c2,c5,f2,f5,hG6,z2,z5⟩
       by_cases hc:cod D m=0
       ·have hc':(cod D m != 0)=false:=by simp[hc]
        have R:Hid (∀j,j<m+1→cod D j=0):=fun j hj=>by
         rcases Nat.lt_or_ge j m with c|c
         ·exact HC.out j c
         ·have:j=m:=by omega
          rw[this];exact hc
        clear hc
        go_wp2
        go_roundw
        case rel=>
         refine⟨m+1,by omega,by go_num,?_,R.out⟩;have:=zAI (zBr (I nk) (I na) (I nb) (.string ns) (by omega) (by omega) (zAI HTwo.out));unfold Hid SBox;rw[HTN.out];exact this
        case measure=>simp[RowKit.intOf];omega
       ·have hc':(cod D m != 0)=true:=by simpa using hc
        have hE:m0=m:=by
         obtain⟨e1,e2⟩:=HE.out
         rcases Nat.lt_trichotomy m m0 with h|h|h
         ·exact absurd (e1 m h) hc
         ·exact h.symm
         ·rcases e2 with e2|⟨_,e2⟩
          ·omega
          ·exact absurd (HC.out m0 h) e2
        have hRq:rc=cod D m∧q0=Q0:=by
         rcases HR.out with ⟨h,_⟩|⟨_,h1,h2⟩
         ·omega
         ·rw[hE] at h1;exact⟨h1,h2⟩
        have HRq:Hid _:=hRq;clear hE hc hRq;generalize hcd:cod D m=cd at hc'⊢;have HCD:Hid _:=hcd;clear hcd
        go_wp2
        exact bodyPost_ret (v:=.tuple #[V0,.int .i64 cd]) (by simp[results,results97,go_sem,c2]) rfl ⟨by rw[HRq.out.1,HRq.out.2,HCD.out],by
         repeat(first|exact hG6|refine G.setCell ?_ (Nat.le_refl _) _)⟩
      ·rename_i hH
       have hT7:=zNW w5 wr.heap.size (I 0) (I 0) (I 0) (.string E0) (I nk) (I na) (I nb) (.string ns) (fun o=>by rw[hc5 _ _ (by simp)];simp);clear hb5 hc5 hf5 hr0;generalize ((((w5.setCell {block:=wr.heap.size,off:=0} (I nk)).setCell {block:=wr.heap.size,off:=1} (I na)).setCell {block:=wr.heap.size,off:=2} (I nb)).setCell {block:=wr.heap.size,off:=3} (.string ns))=W6 at hT7 hH⊢;generalize wr.heap.size=T7 at hT7⊢;obtain⟨c5,_,_,_,_,c2,f2,f5,hG6,z2,z5⟩:=hH;have HTwo:Hid (Two w w.heap.size B5 (fun o=>[I 0,I 0,I 0,Value.string E0][o]?) (fun o=>[I tk,I ta,I tb,Value.string ts][o]?) W6):=⟨c2,c5,f2,f5,hG6,z2,z5⟩
       by_cases hc:cod D m=0
       ·have hc':(cod D m != 0)=false:=by simp[hc]
        have R:Hid (∀j,j<m+1→cod D j=0):=fun j hj=>by
         rcases Nat.lt_or_ge j m with c|c
         ·exact HC.out j c
         ·have:j=m:=by omega
          rw[this];exact hc
        clear hc
        go_wp2
        go_roundw
        case rel=>
         refine⟨m+1,by omega,by go_num,?_,R.out⟩;have:=zAI (zBr (I nk) (I na) (I nb) (.string ns) (by omega) (by omega) (zAI HTwo.out));unfold Hid SBox;rw[HTN.out];exact this
        case measure=>simp[RowKit.intOf];omega
       ·have hc':(cod D m != 0)=true:=by simpa using hc
        have hE:m0=m:=by
         obtain⟨e1,e2⟩:=HE.out
         rcases Nat.lt_trichotomy m m0 with h|h|h
         ·exact absurd (e1 m h) hc
         ·exact h.symm
         ·rcases e2 with e2|⟨_,e2⟩
          ·omega
          ·exact absurd (HC.out m0 h) e2
        have hRq:rc=cod D m∧q0=Q0:=by
         rcases HR.out with ⟨h,_⟩|⟨_,h1,h2⟩
         ·omega
         ·rw[hE] at h1;exact⟨h1,h2⟩
        have HRq:Hid _:=hRq;clear hE hc hRq;generalize hcd:cod D m=cd at hc'⊢;have HCD:Hid _:=hcd;clear hcd
        go_wp2
        exact bodyPost_ret (v:=.tuple #[V0,.int .i64 cd]) (by simp[results,results97,go_sem,c2]) rfl ⟨by rw[HRq.out.1,HRq.out.2,HCD.out],by
         repeat(first|exact hG6|refine G.setCell ?_ (Nat.le_refl _) _)⟩
     ·omega
    ·have em:m=D.length:=by omega
     have hRq:rc=0∧q0=(tot D m).2:=by
      obtain⟨e1,e2⟩:=HE.out
      rcases HR.out with ⟨_,h1,h2⟩|⟨h,_⟩
      ·rw[em];exact⟨h1,h2⟩
      ·rcases e2 with e2|⟨_,e2⟩
       ·omega
       ·exact absurd (HC.out m0 (by omega)) e2
     have HRq:Hid _:=hRq;obtain⟨c2,c5,f2,f5,hG6,z2,z5⟩:=HS.out;clear HS hRq;generalize htq:(tot D m).2=tq at c5⊢;have HTQ:Hid _:=htq;clear htq;obtain⟨tk,ta,tb,ts⟩:=tq;simp only at c5;have c20:=c2 0
     go_wp2
     exact bodyPost_ret (v:=.tuple #[V tk ta tb ts,.int .i64 0]) (by simp[results,results97,go_sem,c2]) rfl ⟨by rw[HRq.out.1,HRq.out.2,HTQ.out],by
      repeat(first|exact hG6|refine G.setCell ?_ (Nat.le_refl _) _)⟩
end
end Go.Proofs.YthmdjhfbhbheeaaGreatDoor
