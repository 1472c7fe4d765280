import Derived.Test.YthmdjhfbhbheeaaGreatDoorWholeB
namespace Go.Proofs.YthmdjhfbhbheeaaGreatDoor
open Go.Proofs.Tryz
set_option maxHeartbeats 1000000
set_option maxRecDepth 100000
section
open Go.RowKit
theorem wr{n:Int}(h:n.natAbs≤1152921504606846976):wrap64 n=n:=by unfold wrap64;omega
theorem zAk(n:Int)(q:Bool)(h:zAD n=q)(w:World):Calls prog 73 #[.int .i64 n] w fun e w'=>e=.returned (.bool q)∧w'=w:=by
 have:=zBW n w;rw[h] at this;exact this
theorem zAf{n:Int}(h:P25 n):zAD n=true:=(zAy n).2 h
theorem zAC{n:Int}(h:¬P25 n):zAD n=false:=by
 cases e:zAD n
 ·rfl
 ·exact absurd ((zAy n).1 e) h
theorem zCr{a b c d:Int}(ha:P25 a)(hb:P25 b)(hc:P25 c)(hd:P25 d):wrap64 (c*c)=c*c∧wrap64 (d*d)=d*d∧wrap64 (c*c+d*d)=c*c+d*d∧wrap64 (a*c)=a*c∧wrap64 (b*d)=b*d∧wrap64 (a*c+b*d)=a*c+b*d∧wrap64 (b*c)=b*c∧wrap64 (a*d)=a*d∧wrap64 (b*c-a*d)=b*c-a*d:=by
 have m1:=ha.mul hc;have m2:=hb.mul hd;have m3:=ha.mul hd;have m4:=hb.mul hc;have m5:=hc.mul hc;have m6:=hd.mul hd;exact⟨wr (by omega),wr (by omega),wr (by omega),wr (by omega),wr (by omega),wr (by omega),wr (by omega),wr (by omega),wr (by omega)⟩
def CxA(op:Int)(x y z t:Nat)(a b c d:Int):Prop:=∃(rv:Value) (cd k3 a3 b3:Int) (s3:ByteArray),(∀w,CG 158 #[.int .i64 op,.complex .f64 x y,.complex .f64 z t] w (.tuple #[rv,.int .i64 cd]))∧
 (∀w,CG 35 #[rv,.int .i64 cd] w (.tuple #[V k3 a3 b3 s3,.int .i64 cd]))∧(∀w,CG 90 #[.int .i64 op,.int .i64 a,.int .i64 b,.int .i64 c,.int .i64 d] w (.tuple #[V k3 a3 b3 s3,.int .i64 cd]))
theorem zUd{x y z t:Nat}{a b c d:Int}(hx:Fl x a)(hy:Fl y b)(hz:Fl z c)(ht:Fl t d)(ha:P25 a)(hb:P25 b)(hc:P25 c)(hd:P25 d):CxA 1 x y z t a b c d:=by
 have m1:=ha.mul hc;have m2:=hb.mul hd;have m3:=ha.mul hd;have m4:=hb.mul hc;have m5:=hc.mul hc;have m6:=hd.mul hd;have a1:=ha.abs;have b1:=hb.abs;have c1:=hc.abs;have d1:=hd.abs;obtain⟨B1,B2,B3,B4,B5,B6,B7,B8,B9⟩:=zCr ha hb hc hd;obtain⟨p,q,kc,fp,fq⟩:=zIE hx hy hz ht (by omega) (by omega);have f1:wrap64 (a+c)=a+c:=wr (by omega);have f2:wrap64 (b+d)=b+d:=wr (by omega)
 by_cases h1:P25 (a+c)
 ·by_cases h2:P25 (b+d)
  ·exact⟨_,0,_,_,_,_,zRx x y z t p q _ _ kc fp fq h1 h2,zA9 p q _ _ fp fq h1.lt h2.lt,zIX a b c d _ _ _ _ _ _ _ _ _ B1 B2 B3 B4 B5 B6 B7 B8 B9 _ _ f1 f2 (zAk _ _ (zAf h1)) (zAk _ _ (zAf h2))⟩
  ·exact⟨_,11,_,_,_,_,zDA x y z t p q _ _ kc fp fq (fun h=>h2 h.2),zAa _ 11 (by decide),zIV a b c d _ _ _ _ _ _ _ _ _ B1 B2 B3 B4 B5 B6 B7 B8 B9 _ _ f1 f2 (zAk _ _ (zAf h1)) (zAk _ _ (zAC h2))⟩
 ·exact⟨_,11,_,_,_,_,zDA x y z t p q _ _ kc fp fq (fun h=>h1 h.1),zAa _ 11 (by decide),zIW a b c d _ _ _ _ _ _ _ _ _ B1 B2 B3 B4 B5 B6 B7 B8 B9 _ _ f1 f2 (zAk _ _ (zAC h1))⟩
theorem zT9{x y z t:Nat}{a b c d:Int}(hx:Fl x a)(hy:Fl y b)(hz:Fl z c)(ht:Fl t d)(ha:P25 a)(hb:P25 b)(hc:P25 c)(hd:P25 d):CxA 2 x y z t a b c d:=by
 have m1:=ha.mul hc;have m2:=hb.mul hd;have m3:=ha.mul hd;have m4:=hb.mul hc;have m5:=hc.mul hc;have m6:=hd.mul hd;have a1:=ha.abs;have b1:=hb.abs;have c1:=hc.abs;have d1:=hd.abs;obtain⟨B1,B2,B3,B4,B5,B6,B7,B8,B9⟩:=zCr ha hb hc hd;obtain⟨p,q,kc,fp,fq⟩:=zEP hx hy hz ht (by omega) (by omega);have f1:wrap64 (a-c)=a-c:=wr (by omega);have f2:wrap64 (b-d)=b-d:=wr (by omega)
 by_cases h1:P25 (a-c)
 ·by_cases h2:P25 (b-d)
  ·exact⟨_,0,_,_,_,_,zRt x y z t p q _ _ kc fp fq h1 h2,zA9 p q _ _ fp fq h1.lt h2.lt,zIU a b c d _ _ _ _ _ _ _ _ _ B1 B2 B3 B4 B5 B6 B7 B8 B9 _ _ f1 f2 (zAk _ _ (zAf h1)) (zAk _ _ (zAf h2))⟩
  ·exact⟨_,11,_,_,_,_,zDy x y z t p q _ _ kc fp fq (fun h=>h2 h.2),zAa _ 11 (by decide),zIS a b c d _ _ _ _ _ _ _ _ _ B1 B2 B3 B4 B5 B6 B7 B8 B9 _ _ f1 f2 (zAk _ _ (zAf h1)) (zAk _ _ (zAC h2))⟩
 ·exact⟨_,11,_,_,_,_,zDy x y z t p q _ _ kc fp fq (fun h=>h1 h.1),zAa _ 11 (by decide),zIT a b c d _ _ _ _ _ _ _ _ _ B1 B2 B3 B4 B5 B6 B7 B8 B9 _ _ f1 f2 (zAk _ _ (zAC h1))⟩
theorem zUa{x y z t:Nat}{a b c d:Int}(hx:Fl x a)(hy:Fl y b)(hz:Fl z c)(ht:Fl t d)(ha:P25 a)(hb:P25 b)(hc:P25 c)(hd:P25 d):CxA 3 x y z t a b c d:=by
 have m1:=ha.mul hc;have m2:=hb.mul hd;have m3:=ha.mul hd;have m4:=hb.mul hc;have m5:=hc.mul hc;have m6:=hd.mul hd;have a1:=ha.abs;have b1:=hb.abs;have c1:=hc.abs;have d1:=hd.abs;obtain⟨B1,B2,B3,B4,B5,B6,B7,B8,B9⟩:=zCr ha hb hc hd;obtain⟨p,q,kc,fp,fq⟩:=zCC hx hy hz ht (by omega) (by omega) (by omega) (by omega) (by omega) (by omega);have f1:wrap64 (a*c-b*d)=a*c-b*d:=wr (by omega);have f2:wrap64 (a*d+b*c)=a*d+b*c:=wr (by omega)
 by_cases h1:P25 (a*c-b*d)
 ·by_cases h2:P25 (a*d+b*c)
  ·exact⟨_,0,_,_,_,_,zRu x y z t p q _ _ kc fp fq h1 h2,zA9 p q _ _ fp fq h1.lt h2.lt,zIR a b c d _ _ _ _ _ _ _ _ _ B1 B2 B3 B4 B5 B6 B7 B8 B9 _ _ f1 f2 (zAk _ _ (zAf h1)) (zAk _ _ (zAf h2))⟩
  ·exact⟨_,11,_,_,_,_,zDz x y z t p q _ _ kc fp fq (fun h=>h2 h.2),zAa _ 11 (by decide),zIP a b c d _ _ _ _ _ _ _ _ _ B1 B2 B3 B4 B5 B6 B7 B8 B9 _ _ f1 f2 (zAk _ _ (zAf h1)) (zAk _ _ (zAC h2))⟩
 ·exact⟨_,11,_,_,_,_,zDz x y z t p q _ _ kc fp fq (fun h=>h1 h.1),zAa _ 11 (by decide),zIQ a b c d _ _ _ _ _ _ _ _ _ B1 B2 B3 B4 B5 B6 B7 B8 B9 _ _ f1 f2 (zAk _ _ (zAC h1))⟩
theorem zJw{x y z t:Nat}{a b c d:Int}(hz:Fl z c)(ht:Fl t d)(ha:P25 a)(hb:P25 b)(hc:P25 c)(hd:P25 d)(op:Int)(ho:op=4∨op=5)(h:c=0∧d=0):CxA op x y z t a b c d:=by
 have m1:=ha.mul hc;have m2:=hb.mul hd;have m3:=ha.mul hd;have m4:=hb.mul hc;have m5:=hc.mul hc;have m6:=hd.mul hd;have a1:=ha.abs;have b1:=hb.abs;have c1:=hc.abs;have d1:=hd.abs;obtain⟨B1,B2,B3,B4,B5,B6,B7,B8,B9⟩:=zCr ha hb hc hd;have z1:Fl z 0:=h.1▸hz;have z2:Fl t 0:=h.2▸ht
 have z3:c*c+d*d=0:=by rw[h.1,h.2];rfl
 rcases ho with rfl|rfl
 ·exact⟨_,12,_,_,_,_,zGf 4 (.inl rfl) x y z t z1 z2,zAa _ 12 (by decide),zL8 a b c d _ _ _ _ _ _ _ _ _ B1 B2 B3 B4 B5 B6 B7 B8 B9 z3⟩
 ·exact⟨_,12,_,_,_,_,zGf 5 (.inr rfl) x y z t z1 z2,zAa _ 12 (by decide),zL7 a b c d _ _ _ _ _ _ _ _ _ B1 B2 B3 B4 B5 B6 B7 B8 B9 z3⟩
theorem zUc{x y z t:Nat}{a b c d:Int}(hx:Fl x a)(hy:Fl y b)(hz:Fl z c)(ht:Fl t d)(ha:P25 a)(hb:P25 b)(hc:P25 c)(hd:P25 d):CxA 4 x y z t a b c d:=by
 by_cases h0:c=0∧d=0
 ·exact zJw (x:=x) (y:=y) hz ht ha hb hc hd 4 (.inl rfl) h0
 have hnz:c≠0∨d≠0:=by omega
 have hN:=zC1 hnz;have m1:=ha.mul hc;have m2:=hb.mul hd;have m3:=ha.mul hd;have m4:=hb.mul hc;have m5:=hc.mul hc;have m6:=hd.mul hd;have a1:=ha.abs;have b1:=hb.abs;have c1:=hc.abs;have d1:=hd.abs;obtain⟨B1,B2,B3,B4,B5,B6,B7,B8,B9⟩:=zCr ha hb hc hd
 have e1:a*c-b * -d=a*c+b*d:=by rw[Int.mul_neg];omega
 have e2:a * -d+b*c=b*c-a*d:=by rw[Int.mul_neg];omega
 have zN:((c*c+d*d)==0)=false:=by simp;omega
 have nN:¬c*c+d*d=0:=by omega
 have tm:∀n:Int,(¬∃p,n=p*(c*c+d*d))→n.tmod (c*c+d*d)≠0:=fun n h e=>h ⟨n.tdiv (c*c+d*d),by
  have:=Int.tmod_add_mul_tdiv n (c*c+d*d);rw[e,Int.zero_add,Int.mul_comm] at this
  exact this.symm⟩
 rcases zRw x y z t a b c d hx hy hz ht ha hb hc hd hnz with ⟨p,q,u,v,hp,hq,Pp,Pq,fu,fv,hcall⟩|⟨hno,hcall⟩
 ·rw[e1] at hp
  rw[e2] at hq;have p1:=Pp.abs;have q1:=Pq.abs;refine⟨_,0,_,_,_,_,hcall,zA9 u v p q fu fv Pp.lt Pq.lt,zIM a b c d _ _ _ _ _ _ _ _ _ B1 B2 B3 B4 B5 B6 B7 B8 B9 zN nN p q ?_ ?_ ?_ ?_ (zAk _ _ (zAf Pp)) (zAk _ _ (zAf Pq))⟩
  ·rw[hp];exact Int.mul_tmod_left _ _
  ·rw[hq];exact Int.mul_tmod_left _ _
  ·rw[hp,Int.mul_tdiv_cancel _ nN];exact wr (by omega)
  ·rw[hq,Int.mul_tdiv_cancel _ nN];exact wr (by omega)
 ·rw[e1,e2] at hno
  by_cases hX:∃p,a*c+b*d=p*(c*c+d*d)
  ·have hY:¬∃q,b*c-a*d=q*(c*c+d*d):=by
    rcases hno with h|h
    ·exact absurd hX h
    ·exact h
   obtain⟨p,hp⟩:=hX;exact⟨_,13,_,_,_,_,hcall,zAa _ 13 (by decide),zIN a b c d _ _ _ _ _ _ _ _ _ B1 B2 B3 B4 B5 B6 B7 B8 B9 zN nN _ (by rw[hp];exact Int.mul_tmod_left _ _) rfl (by simpa using tm _ hY)⟩
  ·exact⟨_,13,_,_,_,_,hcall,zAa _ 13 (by decide),zIO a b c d _ _ _ _ _ _ _ _ _ B1 B2 B3 B4 B5 B6 B7 B8 B9 zN nN _ rfl (by simpa using tm _ hX)⟩
theorem xy_b{a b c d:Int}(ha:P25 a)(hb:P25 b)(hc:P25 c)(hd:P25 d):(a*c+b*d).natAbs≤2251799813685248∧(b*c-a*d).natAbs≤2251799813685248∧(c*c+d*d).natAbs≤2251799813685248:=by
 have m1:=ha.mul hc;have m2:=hb.mul hd;have m3:=ha.mul hd;have m4:=hb.mul hc;have m5:=hc.mul hc;have m6:=hd.mul hd;exact⟨by omega,by omega,by omega⟩
theorem fl_b{X N:Int}(h1:X.natAbs≤2251799813685248)(h2:N.natAbs≤2251799813685248):(2*X+N).natAbs≤9007199254740992∧(2*N).natAbs≤9007199254740992:=by omega
theorem w_13(X Y N pc qd pd qc a b:Int)(h1:X.natAbs≤2251799813685248)(h2:Y.natAbs≤2251799813685248)(h3:N.natAbs≤2251799813685248)(h4:pc.natAbs≤1125899906842624)(h5:qd.natAbs≤1125899906842624)(h6:pd.natAbs≤1125899906842624)(h7:qc.natAbs≤1125899906842624)(h8:a.natAbs≤33554432)(h9:b.natAbs≤33554432) :
  wrap64 (2*X)=2*X∧wrap64 (2*X+N)=2*X+N∧wrap64 (2*N)=2*N∧wrap64 (2*Y)=2*Y∧wrap64 (2*Y+N)=2*Y+N∧wrap64 pc=pc∧wrap64 qd=qd∧wrap64 (pc-qd)=pc-qd∧wrap64 (a-(pc-qd))=a-(pc-qd)∧wrap64 pd=pd∧wrap64 qc=qc∧wrap64 (pd+qc)=pd+qc∧wrap64 (b-(pd+qc))=b-(pd+qc):=
 ⟨wr (by omega),wr (by omega),wr (by omega),wr (by omega),wr (by omega),wr (by omega),wr (by omega),wr (by omega),wr (by omega),wr (by omega),wr (by omega),wr (by omega),wr (by omega)⟩
theorem rfloor(a b:Int)(hb:0<b)(h1:a.natAbs≤9007199254740992)(h2:b.natAbs≤9007199254740992)(w:World):Calls prog 124 #[.int .i64 a,.int .i64 b] w fun e w'=>e=.returned (.int .i64 (a/b))∧w'=w:=by
 have hq:(a.tdiv b).natAbs=a.natAbs/b.natAbs:=Int.natAbs_tdiv a b;have hq2:a.natAbs/b.natAbs≤a.natAbs:=Nat.div_le_self _ _;have t1:=Int.tmod_add_mul_tdiv a b;have t2:(a.tmod b).natAbs=a.natAbs%b.natAbs:=Int.natAbs_tmod a b;have t3:a.natAbs%b.natAbs<b.natAbs:=Nat.mod_lt _ (by omega);have cm:b*a.tdiv b=a.tdiv b*b:=Int.mul_comm _ _;have f1:=Int.mul_ediv_add_emod a b;have f2:=Int.emod_nonneg a (show b≠0 by omega);have f3:=Int.emod_lt_of_pos a hb;have cm2:b*(a/b)=a/b*b:=Int.mul_comm _ _
 have hm:(a.tdiv b*b).natAbs≤18014398509481984:=by omega
 by_cases h:a<a.tdiv b*b
 ·have e:a/b=a.tdiv b-1:=by
   have l1:a/b<a.tdiv b:=by
    refine Int.not_le.1 fun c=>?_;have:=Int.mul_le_mul_of_nonneg_right c (show 0≤b by omega);omega
   have l2:a.tdiv b-1≤a/b:=by
    refine Int.not_lt.1 fun c=>?_;have:=Int.mul_le_mul_of_nonneg_right (show a/b+2≤a.tdiv b by omega) (show 0≤b by omega);rw[Int.add_mul] at this;omega
   omega
  rw[e];exact zLW a b _ _ (by omega) (wr (by omega)) (wr (by omega)) h (wr (by omega)) w
 ·have e:a/b=a.tdiv b:=by
   have l1:a.tdiv b≤a/b:=by
    refine Int.not_lt.1 fun c=>?_;have:=Int.mul_le_mul_of_nonneg_right (show a/b+1≤a.tdiv b by omega) (show 0≤b by omega);rw[Int.add_mul] at this;omega
   have l2:a/b≤a.tdiv b:=by
    refine Int.not_lt.1 fun c=>?_;have:=Int.mul_le_mul_of_nonneg_right (show a.tdiv b+1≤a/b by omega) (show 0≤b by omega);rw[Int.add_mul] at this;omega
   omega
  rw[e];exact zLV a b _ _ (by omega) (wr (by omega)) (wr (by omega)) h w
theorem zUb{x y z t:Nat}{a b c d:Int}(hx:Fl x a)(hy:Fl y b)(hz:Fl z c)(ht:Fl t d)(ha:P25 a)(hb:P25 b)(hc:P25 c)(hd:P25 d):CxA 5 x y z t a b c d:=by
 by_cases h0:c=0∧d=0
 ·exact zJw (x:=x) (y:=y) hz ht ha hb hc hd 5 (.inr rfl) h0
 have hnz:c≠0∨d≠0:=by omega
 have hN:=zC1 hnz;obtain⟨B1,B2,B3,B4,B5,B6,B7,B8,B9⟩:=zCr ha hb hc hd
 have e1:a*c-b * -d=a*c+b*d:=by rw[Int.mul_neg];omega
 have e2:a * -d+b*c=b*c-a*d:=by rw[Int.mul_neg];omega
 have zN:((c*c+d*d)==0)=false:=by simp;omega
 have nN:¬c*c+d*d=0:=by omega
 obtain⟨p,q,u,v,hp,hq,Pp,Pq,Pr,Ps,fu,fv,hcall⟩:=zRv x y z t a b c d hx hy hz ht ha hb hc hd hnz;rw[e1] at hp;rw[e2] at hq;have c1':c*p=p*c:=Int.mul_comm _ _;have c2':d*q=q*d:=Int.mul_comm _ _;have c3':c*q=q*c:=Int.mul_comm _ _;have c4':d*p=p*d:=Int.mul_comm _ _;rw[c1',c2'] at Pr fu;rw[c3',c4'] at Ps fv;have cs:q*c+p*d=p*d+q*c:=Int.add_comm _ _;rw[cs] at Ps fv;obtain⟨x1,x2,x3⟩:=xy_b ha hb hc hd;have k1:=rfloor (2*(a*c+b*d)+(c*c+d*d)) (2*(c*c+d*d)) (by omega) (fl_b x1 x3).1 (fl_b x1 x3).2;have k2:=rfloor (2*(b*c-a*d)+(c*c+d*d)) (2*(c*c+d*d)) (by omega) (fl_b x2 x3).1 (fl_b x2 x3).2;rw[←hp] at k1;rw[←hq] at k2;obtain⟨w1,w2,w3,w4,w5,w6,w7,w8,w9,w10,w11,w12,w13⟩:=w_13 (a*c+b*d) (b*c-a*d) (c*c+d*d) (p*c) (q*d) (p*d) (q*c) a b x1 x2 x3 (Pp.mul hc) (Pq.mul hd) (Pp.mul hd) (Pq.mul hc) ha.abs hb.abs;exact⟨_,0,_,_,_,_,hcall,zA9 u v _ _ fu fv Pr.lt Ps.lt,zIL a b c d _ _ _ _ _ _ _ _ _ B1 B2 B3 B4 B5 B6 B7 B8 B9 zN nN _ _ _ _ _ p q _ _ _ _ _ _ _ _ w1 w2 w3 w4 w5 w6 w7 w8 w9 w10 w11 w12 w13 k1 k2 (zAk _ _ (zAf Pr)) (zAk _ _ (zAf Ps))⟩
theorem zIf{x y z t:Nat}{a b c d:Int}(hx:Fl x a)(hy:Fl y b)(hz:Fl z c)(ht:Fl t d)(ha:P25 a)(hb:P25 b)(hc:P25 c)(hd:P25 d)(op:Int)(h1:1≤op)(h5:op≤5):CxA op x y z t a b c d:=by
 have:op=1∨op=2∨op=3∨op=4∨op=5:=by omega
 rcases this with rfl|rfl|rfl|rfl|rfl
 ·exact zUd hx hy hz ht ha hb hc hd
 ·exact zT9 hx hy hz ht ha hb hc hd
 ·exact zUa hx hy hz ht ha hb hc hd
 ·exact zUc hx hy hz ht ha hb hc hd
 ·exact zUb hx hy hz ht ha hb hc hd
end
section
open Go.RowKit
theorem zL9(a b a' b':Int)(s s':ByteArray)(h1:s.size≤4611686018427387903)(h2:s'.size≤4611686018427387903)(h:32<s.size+s'.size)(w:World):CG 47 #[.int .i64 1,V 4 a b s,V 4 a' b' s'] w (.tuple #[V0,.int .i64 11]):=by
 have h':(32:Int)<(s.size:Int)+(s'.size:Int):=by omega
 go_enter func47,ntmps47
 go_wp2
 exact bodyPost_ret (v:=.tuple #[V0,.int .i64 11]) (by simp[results,results47,go_sem]) rfl ⟨rfl,by
  repeat(first|exact G.refl _|refine G.alloc ?_ _|refine G.setCell ?_ (by simp;try omega) _)⟩
theorem zVs(a b a' b':Int)(s s':ByteArray)(h:s.size+s'.size≤32)(w:World):CG 47 #[.int .i64 1,V 4 a b s,V 4 a' b' s'] w (.tuple #[V 4 0 0 (s++s'),.int .i64 0]):=by
 have h':¬(32:Int)<(s.size:Int)+(s'.size:Int):=by omega
 go_enter func47,ntmps47
 go_wp2
 exact bodyPost_ret (v:=.tuple #[V 4 0 0 (s++s'),.int .i64 0]) (by simp[results,results47,go_sem]) rfl ⟨rfl,by
  repeat(first|exact G.refl _|refine G.alloc ?_ _|refine G.setCell ?_ (by simp;try omega) _)⟩
theorem zSx(op:Int)(k a b k' a' b':Int)(s s':ByteArray)(h0:(op==1)=false)(h2:(k==2)=false)(h3:(k==3)=false)(w:World):CG 47 #[.int .i64 op,V k a b s,V k' a' b' s'] w (.tuple #[V0,.int .i64 10]):=by
 have n2:(k != 2)=true:=by rw[bne,h2];rfl
 have n3:(k != 3)=true:=by rw[bne,h3];rfl
 go_enter func47,ntmps47
 go_wp2
 exact bodyPost_ret (v:=.tuple #[V0,.int .i64 10]) (by simp[results,results47,go_sem]) rfl ⟨rfl,by
  repeat(first|exact G.refl _|refine G.alloc ?_ _|refine G.setCell ?_ (by simp;try omega) _)⟩
theorem zSw(op:Int)(k a b k' a' b':Int)(s s':ByteArray)(h4:(k==4)=false)(h2:(k==2)=false)(h3:(k==3)=false)(w:World):CG 47 #[.int .i64 op,V k a b s,V k' a' b' s'] w (.tuple #[V0,.int .i64 10]):=by
 have n2:(k != 2)=true:=by rw[bne,h2];rfl
 have n3:(k != 3)=true:=by rw[bne,h3];rfl
 cases h0:(op==1)
 iterate 2
  ·go_enter func47,ntmps47
   go_wp2
   exact bodyPost_ret (v:=.tuple #[V0,.int .i64 10]) (by simp[results,results47,go_sem]) rfl ⟨rfl,by
    repeat(first|exact G.refl _|refine G.alloc ?_ _|refine G.setCell ?_ (by simp;try omega) _)⟩
theorem zSv(op:Int)(a b k' a' b':Int)(s s':ByteArray)(h4:(k'==4)=false)(w:World):CG 47 #[.int .i64 op,V 4 a b s,V k' a' b' s'] w (.tuple #[V0,.int .i64 10]):=by
 cases h0:(op==1)
 iterate 2
  ·go_enter func47,ntmps47
   go_wp2
   exact bodyPost_ret (v:=.tuple #[V0,.int .i64 10]) (by simp[results,results47,go_sem]) rfl ⟨rfl,by
    repeat(first|exact G.refl _|refine G.alloc ?_ _|refine G.setCell ?_ (by simp;try omega) _)⟩
theorem zO1(op:Int)(a b k' a' b':Int)(s s':ByteArray)(h2:(k'==2)=false)(h3:(k'==3)=false)(w:World):CG 47 #[.int .i64 op,V 2 a b s,V k' a' b' s'] w (.tuple #[V0,.int .i64 10]):=by
 have n2:(k' != 2)=true:=by rw[bne,h2];rfl
 have n3:(k' != 3)=true:=by rw[bne,h3];rfl
 cases h0:(op==1)
 iterate 2
  ·go_enter func47,ntmps47
   go_wp2
   exact bodyPost_ret (v:=.tuple #[V0,.int .i64 10]) (by simp[results,results47,go_sem]) rfl ⟨rfl,by
    repeat(first|exact G.refl _|refine G.alloc ?_ _|refine G.setCell ?_ (by simp;try omega) _)⟩
theorem zO0(op:Int)(a b k' a' b':Int)(s s':ByteArray)(h2:(k'==2)=false)(h3:(k'==3)=false)(w:World):CG 47 #[.int .i64 op,V 3 a b s,V k' a' b' s'] w (.tuple #[V0,.int .i64 10]):=by
 have n2:(k' != 2)=true:=by rw[bne,h2];rfl
 have n3:(k' != 3)=true:=by rw[bne,h3];rfl
 cases h0:(op==1)
 iterate 2
  ·go_enter func47,ntmps47
   go_wp2
   exact bodyPost_ret (v:=.tuple #[V0,.int .i64 10]) (by simp[results,results47,go_sem]) rfl ⟨rfl,by
    repeat(first|exact G.refl _|refine G.alloc ?_ _|refine G.setCell ?_ (by simp;try omega) _)⟩
theorem zOZ(a b a' b':Int)(s s':ByteArray)(rk ra rb:Int)(rs:ByteArray)(c0:Int)(h:∀w,CG 89 #[.int .i64 1,.int .i64 a,.int .i64 a'] w (.tuple #[V rk ra rb rs,.int .i64 c0]))(w:World):CG 47 #[.int .i64 1,V 2 a b s,V 2 a' b' s'] w (.tuple #[V rk ra rb rs,.int .i64 c0]):=by
 have H:Hid _:=h;clear h
 go_enter func47,ntmps47
 go_wp2_with fail
 refine(H.out _).mono ?_;rintro e w1 ⟨rfl,hb1⟩;have g1:G w w1:=((((G.refl w).alloc _).alloc _).alloc _).trans hb1;obtain⟨hc1,hf1⟩:=hb1.rules
 go_wp2
 exact bodyPost_ret (v:=.tuple #[V rk ra rb rs,.int .i64 c0]) (by simp[results,results47,go_sem,hc1]) rfl ⟨rfl,by
  repeat(first|exact g1|refine G.alloc ?_ _|refine G.setCell ?_ (by simp;try omega) _)⟩
theorem zHO(a b a' b':Int)(s s':ByteArray)(rk ra rb:Int)(rs:ByteArray)(c0:Int)(h1:∀w,Calls prog 73 #[.int .i64 a] w fun e w'=>e=.returned (.bool true)∧w'=w)(h2:∀w,Calls prog 73 #[.int .i64 a'] w fun e w'=>e=.returned (.bool true)∧w'=w)(h:∀w,CG 90 #[.int .i64 1,.int .i64 a,.int .i64 b,.int .i64 a',.int .i64 b'] w (.tuple #[V rk ra rb rs,.int .i64 c0]))(w:World):CG 47 #[.int .i64 1,V 2 a b s,V 3 a' b' s'] w (.tuple #[V rk ra rb rs,.int .i64 c0]):=by
 have H1:Hid _:=h1;have H2:Hid _:=h2;have H:Hid _:=h;clear h1 h2 h
 go_enter func47,ntmps47
 go_wp2_with fail
 refine(H1.out _).mono ?_;rintro e wx ⟨rfl,rfl⟩
 go_wp2_with fail
 refine(H2.out _).mono ?_;rintro e wx ⟨rfl,rfl⟩
 go_wp2_with fail
 refine(H.out _).mono ?_;rintro e w1 ⟨rfl,hb1⟩;have g1:G w w1:=((((G.refl w).alloc _).alloc _).alloc _).trans hb1;obtain⟨hc1,hf1⟩:=hb1.rules
 go_wp2
 exact bodyPost_ret (v:=.tuple #[V rk ra rb rs,.int .i64 c0]) (by simp[results,results47,go_sem,hc1]) rfl ⟨rfl,by
  repeat(first|exact g1|refine G.alloc ?_ _|refine G.setCell ?_ (by simp;try omega) _)⟩
theorem zKE(a b a' b':Int)(s s':ByteArray)(h1:∀w,Calls prog 73 #[.int .i64 a] w fun e w'=>e=.returned (.bool false)∧w'=w)(w:World):CG 47 #[.int .i64 1,V 2 a b s,V 3 a' b' s'] w (.tuple #[V0,.int .i64 11]):=by
 have H1:Hid _:=h1;clear h1
 go_enter func47,ntmps47
 go_wp2_with fail
 refine(H1.out _).mono ?_;rintro e wx ⟨rfl,rfl⟩
 go_wp2
 exact bodyPost_ret (v:=.tuple #[V0,.int .i64 11]) (by simp[results,results47,go_sem]) rfl ⟨rfl,by
  repeat(first|exact G.refl _|refine G.alloc ?_ _|refine G.setCell ?_ (by simp;try omega) _)⟩
theorem zHN(a b a' b':Int)(s s':ByteArray)(rk ra rb:Int)(rs:ByteArray)(c0:Int)(h1:∀w,Calls prog 73 #[.int .i64 a] w fun e w'=>e=.returned (.bool true)∧w'=w)(h2:∀w,Calls prog 73 #[.int .i64 a'] w fun e w'=>e=.returned (.bool true)∧w'=w)(h:∀w,CG 90 #[.int .i64 1,.int .i64 a,.int .i64 b,.int .i64 a',.int .i64 b'] w (.tuple #[V rk ra rb rs,.int .i64 c0]))(w:World):CG 47 #[.int .i64 1,V 3 a b s,V 2 a' b' s'] w (.tuple #[V rk ra rb rs,.int .i64 c0]):=by
 have H1:Hid _:=h1;have H2:Hid _:=h2;have H:Hid _:=h;clear h1 h2 h
 go_enter func47,ntmps47
 go_wp2_with fail
 refine(H1.out _).mono ?_;rintro e wx ⟨rfl,rfl⟩
 go_wp2_with fail
 refine(H2.out _).mono ?_;rintro e wx ⟨rfl,rfl⟩
 go_wp2_with fail
 refine(H.out _).mono ?_;rintro e w1 ⟨rfl,hb1⟩;have g1:G w w1:=((((G.refl w).alloc _).alloc _).alloc _).trans hb1;obtain⟨hc1,hf1⟩:=hb1.rules
 go_wp2
 exact bodyPost_ret (v:=.tuple #[V rk ra rb rs,.int .i64 c0]) (by simp[results,results47,go_sem,hc1]) rfl ⟨rfl,by
  repeat(first|exact g1|refine G.alloc ?_ _|refine G.setCell ?_ (by simp;try omega) _)⟩
theorem zKD(a b a' b':Int)(s s':ByteArray)(h1:∀w,Calls prog 73 #[.int .i64 a] w fun e w'=>e=.returned (.bool true)∧w'=w)(h2:∀w,Calls prog 73 #[.int .i64 a'] w fun e w'=>e=.returned (.bool false)∧w'=w)(w:World):CG 47 #[.int .i64 1,V 3 a b s,V 2 a' b' s'] w (.tuple #[V0,.int .i64 11]):=by
 have H1:Hid _:=h1;have H2:Hid _:=h2;clear h1 h2
 go_enter func47,ntmps47
 go_wp2_with fail
 refine(H1.out _).mono ?_;rintro e wx ⟨rfl,rfl⟩
 go_wp2_with fail
 refine(H2.out _).mono ?_;rintro e wx ⟨rfl,rfl⟩
 go_wp2
 exact bodyPost_ret (v:=.tuple #[V0,.int .i64 11]) (by simp[results,results47,go_sem]) rfl ⟨rfl,by
  repeat(first|exact G.refl _|refine G.alloc ?_ _|refine G.setCell ?_ (by simp;try omega) _)⟩
theorem zHM(a b a' b':Int)(s s':ByteArray)(rk ra rb:Int)(rs:ByteArray)(c0:Int)(h1:∀w,Calls prog 73 #[.int .i64 a] w fun e w'=>e=.returned (.bool true)∧w'=w)(h2:∀w,Calls prog 73 #[.int .i64 a'] w fun e w'=>e=.returned (.bool true)∧w'=w)(h:∀w,CG 90 #[.int .i64 1,.int .i64 a,.int .i64 b,.int .i64 a',.int .i64 b'] w (.tuple #[V rk ra rb rs,.int .i64 c0]))(w:World):CG 47 #[.int .i64 1,V 3 a b s,V 3 a' b' s'] w (.tuple #[V rk ra rb rs,.int .i64 c0]):=by
 have H1:Hid _:=h1;have H2:Hid _:=h2;have H:Hid _:=h;clear h1 h2 h
 go_enter func47,ntmps47
 go_wp2_with fail
 refine(H1.out _).mono ?_;rintro e wx ⟨rfl,rfl⟩
 go_wp2_with fail
 refine(H2.out _).mono ?_;rintro e wx ⟨rfl,rfl⟩
 go_wp2_with fail
 refine(H.out _).mono ?_;rintro e w1 ⟨rfl,hb1⟩;have g1:G w w1:=((((G.refl w).alloc _).alloc _).alloc _).trans hb1;obtain⟨hc1,hf1⟩:=hb1.rules
 go_wp2
 exact bodyPost_ret (v:=.tuple #[V rk ra rb rs,.int .i64 c0]) (by simp[results,results47,go_sem,hc1]) rfl ⟨rfl,by
  repeat(first|exact g1|refine G.alloc ?_ _|refine G.setCell ?_ (by simp;try omega) _)⟩
theorem zOY(a b a' b':Int)(s s':ByteArray)(rk ra rb:Int)(rs:ByteArray)(c0:Int)(h:∀w,CG 89 #[.int .i64 2,.int .i64 a,.int .i64 a'] w (.tuple #[V rk ra rb rs,.int .i64 c0]))(w:World):CG 47 #[.int .i64 2,V 2 a b s,V 2 a' b' s'] w (.tuple #[V rk ra rb rs,.int .i64 c0]):=by
 have H:Hid _:=h;clear h
 go_enter func47,ntmps47
 go_wp2_with fail
 refine(H.out _).mono ?_;rintro e w1 ⟨rfl,hb1⟩;have g1:G w w1:=((((G.refl w).alloc _).alloc _).alloc _).trans hb1;obtain⟨hc1,hf1⟩:=hb1.rules
 go_wp2
 exact bodyPost_ret (v:=.tuple #[V rk ra rb rs,.int .i64 c0]) (by simp[results,results47,go_sem,hc1]) rfl ⟨rfl,by
  repeat(first|exact g1|refine G.alloc ?_ _|refine G.setCell ?_ (by simp;try omega) _)⟩
theorem zHL(a b a' b':Int)(s s':ByteArray)(rk ra rb:Int)(rs:ByteArray)(c0:Int)(h1:∀w,Calls prog 73 #[.int .i64 a] w fun e w'=>e=.returned (.bool true)∧w'=w)(h2:∀w,Calls prog 73 #[.int .i64 a'] w fun e w'=>e=.returned (.bool true)∧w'=w)(h:∀w,CG 90 #[.int .i64 2,.int .i64 a,.int .i64 b,.int .i64 a',.int .i64 b'] w (.tuple #[V rk ra rb rs,.int .i64 c0]))(w:World):CG 47 #[.int .i64 2,V 2 a b s,V 3 a' b' s'] w (.tuple #[V rk ra rb rs,.int .i64 c0]):=by
 have H1:Hid _:=h1;have H2:Hid _:=h2;have H:Hid _:=h;clear h1 h2 h
 go_enter func47,ntmps47
 go_wp2_with fail
 refine(H1.out _).mono ?_;rintro e wx ⟨rfl,rfl⟩
 go_wp2_with fail
 refine(H2.out _).mono ?_;rintro e wx ⟨rfl,rfl⟩
 go_wp2_with fail
 refine(H.out _).mono ?_;rintro e w1 ⟨rfl,hb1⟩;have g1:G w w1:=((((G.refl w).alloc _).alloc _).alloc _).trans hb1;obtain⟨hc1,hf1⟩:=hb1.rules
 go_wp2
 exact bodyPost_ret (v:=.tuple #[V rk ra rb rs,.int .i64 c0]) (by simp[results,results47,go_sem,hc1]) rfl ⟨rfl,by
  repeat(first|exact g1|refine G.alloc ?_ _|refine G.setCell ?_ (by simp;try omega) _)⟩
theorem zKC(a b a' b':Int)(s s':ByteArray)(h1:∀w,Calls prog 73 #[.int .i64 a] w fun e w'=>e=.returned (.bool false)∧w'=w)(w:World):CG 47 #[.int .i64 2,V 2 a b s,V 3 a' b' s'] w (.tuple #[V0,.int .i64 11]):=by
 have H1:Hid _:=h1;clear h1
 go_enter func47,ntmps47
 go_wp2_with fail
 refine(H1.out _).mono ?_;rintro e wx ⟨rfl,rfl⟩
 go_wp2
 exact bodyPost_ret (v:=.tuple #[V0,.int .i64 11]) (by simp[results,results47,go_sem]) rfl ⟨rfl,by
  repeat(first|exact G.refl _|refine G.alloc ?_ _|refine G.setCell ?_ (by simp;try omega) _)⟩
theorem zHK(a b a' b':Int)(s s':ByteArray)(rk ra rb:Int)(rs:ByteArray)(c0:Int)(h1:∀w,Calls prog 73 #[.int .i64 a] w fun e w'=>e=.returned (.bool true)∧w'=w)(h2:∀w,Calls prog 73 #[.int .i64 a'] w fun e w'=>e=.returned (.bool true)∧w'=w)(h:∀w,CG 90 #[.int .i64 2,.int .i64 a,.int .i64 b,.int .i64 a',.int .i64 b'] w (.tuple #[V rk ra rb rs,.int .i64 c0]))(w:World):CG 47 #[.int .i64 2,V 3 a b s,V 2 a' b' s'] w (.tuple #[V rk ra rb rs,.int .i64 c0]):=by
 have H1:Hid _:=h1;have H2:Hid _:=h2;have H:Hid _:=h;clear h1 h2 h
 go_enter func47,ntmps47
 go_wp2_with fail
 refine(H1.out _).mono ?_;rintro e wx ⟨rfl,rfl⟩
 go_wp2_with fail
 refine(H2.out _).mono ?_;rintro e wx ⟨rfl,rfl⟩
 go_wp2_with fail
 refine(H.out _).mono ?_;rintro e w1 ⟨rfl,hb1⟩;have g1:G w w1:=((((G.refl w).alloc _).alloc _).alloc _).trans hb1;obtain⟨hc1,hf1⟩:=hb1.rules
 go_wp2
 exact bodyPost_ret (v:=.tuple #[V rk ra rb rs,.int .i64 c0]) (by simp[results,results47,go_sem,hc1]) rfl ⟨rfl,by
  repeat(first|exact g1|refine G.alloc ?_ _|refine G.setCell ?_ (by simp;try omega) _)⟩
theorem zKB(a b a' b':Int)(s s':ByteArray)(h1:∀w,Calls prog 73 #[.int .i64 a] w fun e w'=>e=.returned (.bool true)∧w'=w)(h2:∀w,Calls prog 73 #[.int .i64 a'] w fun e w'=>e=.returned (.bool false)∧w'=w)(w:World):CG 47 #[.int .i64 2,V 3 a b s,V 2 a' b' s'] w (.tuple #[V0,.int .i64 11]):=by
 have H1:Hid _:=h1;have H2:Hid _:=h2;clear h1 h2
 go_enter func47,ntmps47
 go_wp2_with fail
 refine(H1.out _).mono ?_;rintro e wx ⟨rfl,rfl⟩
 go_wp2_with fail
 refine(H2.out _).mono ?_;rintro e wx ⟨rfl,rfl⟩
 go_wp2
 exact bodyPost_ret (v:=.tuple #[V0,.int .i64 11]) (by simp[results,results47,go_sem]) rfl ⟨rfl,by
  repeat(first|exact G.refl _|refine G.alloc ?_ _|refine G.setCell ?_ (by simp;try omega) _)⟩
theorem zHJ(a b a' b':Int)(s s':ByteArray)(rk ra rb:Int)(rs:ByteArray)(c0:Int)(h1:∀w,Calls prog 73 #[.int .i64 a] w fun e w'=>e=.returned (.bool true)∧w'=w)(h2:∀w,Calls prog 73 #[.int .i64 a'] w fun e w'=>e=.returned (.bool true)∧w'=w)(h:∀w,CG 90 #[.int .i64 2,.int .i64 a,.int .i64 b,.int .i64 a',.int .i64 b'] w (.tuple #[V rk ra rb rs,.int .i64 c0]))(w:World):CG 47 #[.int .i64 2,V 3 a b s,V 3 a' b' s'] w (.tuple #[V rk ra rb rs,.int .i64 c0]):=by
 have H1:Hid _:=h1;have H2:Hid _:=h2;have H:Hid _:=h;clear h1 h2 h
 go_enter func47,ntmps47
 go_wp2_with fail
 refine(H1.out _).mono ?_;rintro e wx ⟨rfl,rfl⟩
 go_wp2_with fail
 refine(H2.out _).mono ?_;rintro e wx ⟨rfl,rfl⟩
 go_wp2_with fail
 refine(H.out _).mono ?_;rintro e w1 ⟨rfl,hb1⟩;have g1:G w w1:=((((G.refl w).alloc _).alloc _).alloc _).trans hb1;obtain⟨hc1,hf1⟩:=hb1.rules
 go_wp2
 exact bodyPost_ret (v:=.tuple #[V rk ra rb rs,.int .i64 c0]) (by simp[results,results47,go_sem,hc1]) rfl ⟨rfl,by
  repeat(first|exact g1|refine G.alloc ?_ _|refine G.setCell ?_ (by simp;try omega) _)⟩
theorem zOX(a b a' b':Int)(s s':ByteArray)(rk ra rb:Int)(rs:ByteArray)(c0:Int)(h:∀w,CG 89 #[.int .i64 3,.int .i64 a,.int .i64 a'] w (.tuple #[V rk ra rb rs,.int .i64 c0]))(w:World):CG 47 #[.int .i64 3,V 2 a b s,V 2 a' b' s'] w (.tuple #[V rk ra rb rs,.int .i64 c0]):=by
 have H:Hid _:=h;clear h
 go_enter func47,ntmps47
 go_wp2_with fail
 refine(H.out _).mono ?_;rintro e w1 ⟨rfl,hb1⟩;have g1:G w w1:=((((G.refl w).alloc _).alloc _).alloc _).trans hb1;obtain⟨hc1,hf1⟩:=hb1.rules
 go_wp2
 exact bodyPost_ret (v:=.tuple #[V rk ra rb rs,.int .i64 c0]) (by simp[results,results47,go_sem,hc1]) rfl ⟨rfl,by
  repeat(first|exact g1|refine G.alloc ?_ _|refine G.setCell ?_ (by simp;try omega) _)⟩
theorem zHI(a b a' b':Int)(s s':ByteArray)(rk ra rb:Int)(rs:ByteArray)(c0:Int)(h1:∀w,Calls prog 73 #[.int .i64 a] w fun e w'=>e=.returned (.bool true)∧w'=w)(h2:∀w,Calls prog 73 #[.int .i64 a'] w fun e w'=>e=.returned (.bool true)∧w'=w)(h:∀w,CG 90 #[.int .i64 3,.int .i64 a,.int .i64 b,.int .i64 a',.int .i64 b'] w (.tuple #[V rk ra rb rs,.int .i64 c0]))(w:World):CG 47 #[.int .i64 3,V 2 a b s,V 3 a' b' s'] w (.tuple #[V rk ra rb rs,.int .i64 c0]):=by
 have H1:Hid _:=h1;have H2:Hid _:=h2;have H:Hid _:=h;clear h1 h2 h
 go_enter func47,ntmps47
 go_wp2_with fail
 refine(H1.out _).mono ?_;rintro e wx ⟨rfl,rfl⟩
 go_wp2_with fail
 refine(H2.out _).mono ?_;rintro e wx ⟨rfl,rfl⟩
 go_wp2_with fail
 refine(H.out _).mono ?_;rintro e w1 ⟨rfl,hb1⟩;have g1:G w w1:=((((G.refl w).alloc _).alloc _).alloc _).trans hb1;obtain⟨hc1,hf1⟩:=hb1.rules
 go_wp2
 exact bodyPost_ret (v:=.tuple #[V rk ra rb rs,.int .i64 c0]) (by simp[results,results47,go_sem,hc1]) rfl ⟨rfl,by
  repeat(first|exact g1|refine G.alloc ?_ _|refine G.setCell ?_ (by simp;try omega) _)⟩
theorem zKA(a b a' b':Int)(s s':ByteArray)(h1:∀w,Calls prog 73 #[.int .i64 a] w fun e w'=>e=.returned (.bool false)∧w'=w)(w:World):CG 47 #[.int .i64 3,V 2 a b s,V 3 a' b' s'] w (.tuple #[V0,.int .i64 11]):=by
 have H1:Hid _:=h1;clear h1
 go_enter func47,ntmps47
 go_wp2_with fail
 refine(H1.out _).mono ?_;rintro e wx ⟨rfl,rfl⟩
 go_wp2
 exact bodyPost_ret (v:=.tuple #[V0,.int .i64 11]) (by simp[results,results47,go_sem]) rfl ⟨rfl,by
  repeat(first|exact G.refl _|refine G.alloc ?_ _|refine G.setCell ?_ (by simp;try omega) _)⟩
theorem zHH(a b a' b':Int)(s s':ByteArray)(rk ra rb:Int)(rs:ByteArray)(c0:Int)(h1:∀w,Calls prog 73 #[.int .i64 a] w fun e w'=>e=.returned (.bool true)∧w'=w)(h2:∀w,Calls prog 73 #[.int .i64 a'] w fun e w'=>e=.returned (.bool true)∧w'=w)(h:∀w,CG 90 #[.int .i64 3,.int .i64 a,.int .i64 b,.int .i64 a',.int .i64 b'] w (.tuple #[V rk ra rb rs,.int .i64 c0]))(w:World):CG 47 #[.int .i64 3,V 3 a b s,V 2 a' b' s'] w (.tuple #[V rk ra rb rs,.int .i64 c0]):=by
 have H1:Hid _:=h1;have H2:Hid _:=h2;have H:Hid _:=h;clear h1 h2 h
 go_enter func47,ntmps47
 go_wp2_with fail
 refine(H1.out _).mono ?_;rintro e wx ⟨rfl,rfl⟩
 go_wp2_with fail
 refine(H2.out _).mono ?_;rintro e wx ⟨rfl,rfl⟩
 go_wp2_with fail
 refine(H.out _).mono ?_;rintro e w1 ⟨rfl,hb1⟩;have g1:G w w1:=((((G.refl w).alloc _).alloc _).alloc _).trans hb1;obtain⟨hc1,hf1⟩:=hb1.rules
 go_wp2
 exact bodyPost_ret (v:=.tuple #[V rk ra rb rs,.int .i64 c0]) (by simp[results,results47,go_sem,hc1]) rfl ⟨rfl,by
  repeat(first|exact g1|refine G.alloc ?_ _|refine G.setCell ?_ (by simp;try omega) _)⟩
theorem zKz(a b a' b':Int)(s s':ByteArray)(h1:∀w,Calls prog 73 #[.int .i64 a] w fun e w'=>e=.returned (.bool true)∧w'=w)(h2:∀w,Calls prog 73 #[.int .i64 a'] w fun e w'=>e=.returned (.bool false)∧w'=w)(w:World):CG 47 #[.int .i64 3,V 3 a b s,V 2 a' b' s'] w (.tuple #[V0,.int .i64 11]):=by
 have H1:Hid _:=h1;have H2:Hid _:=h2;clear h1 h2
 go_enter func47,ntmps47
 go_wp2_with fail
 refine(H1.out _).mono ?_;rintro e wx ⟨rfl,rfl⟩
 go_wp2_with fail
 refine(H2.out _).mono ?_;rintro e wx ⟨rfl,rfl⟩
 go_wp2
 exact bodyPost_ret (v:=.tuple #[V0,.int .i64 11]) (by simp[results,results47,go_sem]) rfl ⟨rfl,by
  repeat(first|exact G.refl _|refine G.alloc ?_ _|refine G.setCell ?_ (by simp;try omega) _)⟩
theorem zHG(a b a' b':Int)(s s':ByteArray)(rk ra rb:Int)(rs:ByteArray)(c0:Int)(h1:∀w,Calls prog 73 #[.int .i64 a] w fun e w'=>e=.returned (.bool true)∧w'=w)(h2:∀w,Calls prog 73 #[.int .i64 a'] w fun e w'=>e=.returned (.bool true)∧w'=w)(h:∀w,CG 90 #[.int .i64 3,.int .i64 a,.int .i64 b,.int .i64 a',.int .i64 b'] w (.tuple #[V rk ra rb rs,.int .i64 c0]))(w:World):CG 47 #[.int .i64 3,V 3 a b s,V 3 a' b' s'] w (.tuple #[V rk ra rb rs,.int .i64 c0]):=by
 have H1:Hid _:=h1;have H2:Hid _:=h2;have H:Hid _:=h;clear h1 h2 h
 go_enter func47,ntmps47
 go_wp2_with fail
 refine(H1.out _).mono ?_;rintro e wx ⟨rfl,rfl⟩
 go_wp2_with fail
 refine(H2.out _).mono ?_;rintro e wx ⟨rfl,rfl⟩
 go_wp2_with fail
 refine(H.out _).mono ?_;rintro e w1 ⟨rfl,hb1⟩;have g1:G w w1:=((((G.refl w).alloc _).alloc _).alloc _).trans hb1;obtain⟨hc1,hf1⟩:=hb1.rules
 go_wp2
 exact bodyPost_ret (v:=.tuple #[V rk ra rb rs,.int .i64 c0]) (by simp[results,results47,go_sem,hc1]) rfl ⟨rfl,by
  repeat(first|exact g1|refine G.alloc ?_ _|refine G.setCell ?_ (by simp;try omega) _)⟩
theorem zOW(a b a' b':Int)(s s':ByteArray)(rk ra rb:Int)(rs:ByteArray)(c0:Int)(h:∀w,CG 89 #[.int .i64 4,.int .i64 a,.int .i64 a'] w (.tuple #[V rk ra rb rs,.int .i64 c0]))(w:World):CG 47 #[.int .i64 4,V 2 a b s,V 2 a' b' s'] w (.tuple #[V rk ra rb rs,.int .i64 c0]):=by
 have H:Hid _:=h;clear h
 go_enter func47,ntmps47
 go_wp2_with fail
 refine(H.out _).mono ?_;rintro e w1 ⟨rfl,hb1⟩;have g1:G w w1:=((((G.refl w).alloc _).alloc _).alloc _).trans hb1;obtain⟨hc1,hf1⟩:=hb1.rules
 go_wp2
 exact bodyPost_ret (v:=.tuple #[V rk ra rb rs,.int .i64 c0]) (by simp[results,results47,go_sem,hc1]) rfl ⟨rfl,by
  repeat(first|exact g1|refine G.alloc ?_ _|refine G.setCell ?_ (by simp;try omega) _)⟩
theorem zHF(a b a' b':Int)(s s':ByteArray)(rk ra rb:Int)(rs:ByteArray)(c0:Int)(h1:∀w,Calls prog 73 #[.int .i64 a] w fun e w'=>e=.returned (.bool true)∧w'=w)(h2:∀w,Calls prog 73 #[.int .i64 a'] w fun e w'=>e=.returned (.bool true)∧w'=w)(h:∀w,CG 90 #[.int .i64 4,.int .i64 a,.int .i64 b,.int .i64 a',.int .i64 b'] w (.tuple #[V rk ra rb rs,.int .i64 c0]))(w:World):CG 47 #[.int .i64 4,V 2 a b s,V 3 a' b' s'] w (.tuple #[V rk ra rb rs,.int .i64 c0]):=by
 have H1:Hid _:=h1;have H2:Hid _:=h2;have H:Hid _:=h;clear h1 h2 h
 go_enter func47,ntmps47
 go_wp2_with fail
 refine(H1.out _).mono ?_;rintro e wx ⟨rfl,rfl⟩
 go_wp2_with fail
 refine(H2.out _).mono ?_;rintro e wx ⟨rfl,rfl⟩
 go_wp2_with fail
 refine(H.out _).mono ?_;rintro e w1 ⟨rfl,hb1⟩;have g1:G w w1:=((((G.refl w).alloc _).alloc _).alloc _).trans hb1;obtain⟨hc1,hf1⟩:=hb1.rules
 go_wp2
 exact bodyPost_ret (v:=.tuple #[V rk ra rb rs,.int .i64 c0]) (by simp[results,results47,go_sem,hc1]) rfl ⟨rfl,by
  repeat(first|exact g1|refine G.alloc ?_ _|refine G.setCell ?_ (by simp;try omega) _)⟩
theorem zKy(a b a' b':Int)(s s':ByteArray)(h1:∀w,Calls prog 73 #[.int .i64 a] w fun e w'=>e=.returned (.bool false)∧w'=w)(w:World):CG 47 #[.int .i64 4,V 2 a b s,V 3 a' b' s'] w (.tuple #[V0,.int .i64 11]):=by
 have H1:Hid _:=h1;clear h1
 go_enter func47,ntmps47
 go_wp2_with fail
 refine(H1.out _).mono ?_;rintro e wx ⟨rfl,rfl⟩
 go_wp2
 exact bodyPost_ret (v:=.tuple #[V0,.int .i64 11]) (by simp[results,results47,go_sem]) rfl ⟨rfl,by
  repeat(first|exact G.refl _|refine G.alloc ?_ _|refine G.setCell ?_ (by simp;try omega) _)⟩
theorem zHE(a b a' b':Int)(s s':ByteArray)(rk ra rb:Int)(rs:ByteArray)(c0:Int)(h1:∀w,Calls prog 73 #[.int .i64 a] w fun e w'=>e=.returned (.bool true)∧w'=w)(h2:∀w,Calls prog 73 #[.int .i64 a'] w fun e w'=>e=.returned (.bool true)∧w'=w)(h:∀w,CG 90 #[.int .i64 4,.int .i64 a,.int .i64 b,.int .i64 a',.int .i64 b'] w (.tuple #[V rk ra rb rs,.int .i64 c0]))(w:World):CG 47 #[.int .i64 4,V 3 a b s,V 2 a' b' s'] w (.tuple #[V rk ra rb rs,.int .i64 c0]):=by
 have H1:Hid _:=h1;have H2:Hid _:=h2;have H:Hid _:=h;clear h1 h2 h
 go_enter func47,ntmps47
 go_wp2_with fail
 refine(H1.out _).mono ?_;rintro e wx ⟨rfl,rfl⟩
 go_wp2_with fail
 refine(H2.out _).mono ?_;rintro e wx ⟨rfl,rfl⟩
 go_wp2_with fail
 refine(H.out _).mono ?_;rintro e w1 ⟨rfl,hb1⟩;have g1:G w w1:=((((G.refl w).alloc _).alloc _).alloc _).trans hb1;obtain⟨hc1,hf1⟩:=hb1.rules
 go_wp2
 exact bodyPost_ret (v:=.tuple #[V rk ra rb rs,.int .i64 c0]) (by simp[results,results47,go_sem,hc1]) rfl ⟨rfl,by
  repeat(first|exact g1|refine G.alloc ?_ _|refine G.setCell ?_ (by simp;try omega) _)⟩
theorem zKx(a b a' b':Int)(s s':ByteArray)(h1:∀w,Calls prog 73 #[.int .i64 a] w fun e w'=>e=.returned (.bool true)∧w'=w)(h2:∀w,Calls prog 73 #[.int .i64 a'] w fun e w'=>e=.returned (.bool false)∧w'=w)(w:World):CG 47 #[.int .i64 4,V 3 a b s,V 2 a' b' s'] w (.tuple #[V0,.int .i64 11]):=by
 have H1:Hid _:=h1;have H2:Hid _:=h2;clear h1 h2
 go_enter func47,ntmps47
 go_wp2_with fail
 refine(H1.out _).mono ?_;rintro e wx ⟨rfl,rfl⟩
 go_wp2_with fail
 refine(H2.out _).mono ?_;rintro e wx ⟨rfl,rfl⟩
 go_wp2
 exact bodyPost_ret (v:=.tuple #[V0,.int .i64 11]) (by simp[results,results47,go_sem]) rfl ⟨rfl,by
  repeat(first|exact G.refl _|refine G.alloc ?_ _|refine G.setCell ?_ (by simp;try omega) _)⟩
theorem zHD(a b a' b':Int)(s s':ByteArray)(rk ra rb:Int)(rs:ByteArray)(c0:Int)(h1:∀w,Calls prog 73 #[.int .i64 a] w fun e w'=>e=.returned (.bool true)∧w'=w)(h2:∀w,Calls prog 73 #[.int .i64 a'] w fun e w'=>e=.returned (.bool true)∧w'=w)(h:∀w,CG 90 #[.int .i64 4,.int .i64 a,.int .i64 b,.int .i64 a',.int .i64 b'] w (.tuple #[V rk ra rb rs,.int .i64 c0]))(w:World):CG 47 #[.int .i64 4,V 3 a b s,V 3 a' b' s'] w (.tuple #[V rk ra rb rs,.int .i64 c0]):=by
 have H1:Hid _:=h1;have H2:Hid _:=h2;have H:Hid _:=h;clear h1 h2 h
 go_enter func47,ntmps47
 go_wp2_with fail
 refine(H1.out _).mono ?_;rintro e wx ⟨rfl,rfl⟩
 go_wp2_with fail
 refine(H2.out _).mono ?_;rintro e wx ⟨rfl,rfl⟩
 go_wp2_with fail
 refine(H.out _).mono ?_;rintro e w1 ⟨rfl,hb1⟩;have g1:G w w1:=((((G.refl w).alloc _).alloc _).alloc _).trans hb1;obtain⟨hc1,hf1⟩:=hb1.rules
 go_wp2
 exact bodyPost_ret (v:=.tuple #[V rk ra rb rs,.int .i64 c0]) (by simp[results,results47,go_sem,hc1]) rfl ⟨rfl,by
  repeat(first|exact g1|refine G.alloc ?_ _|refine G.setCell ?_ (by simp;try omega) _)⟩
theorem zOV(a b a' b':Int)(s s':ByteArray)(rk ra rb:Int)(rs:ByteArray)(c0:Int)(h:∀w,CG 89 #[.int .i64 5,.int .i64 a,.int .i64 a'] w (.tuple #[V rk ra rb rs,.int .i64 c0]))(w:World):CG 47 #[.int .i64 5,V 2 a b s,V 2 a' b' s'] w (.tuple #[V rk ra rb rs,.int .i64 c0]):=by
 have H:Hid _:=h;clear h
 go_enter func47,ntmps47
 go_wp2_with fail
 refine(H.out _).mono ?_;rintro e w1 ⟨rfl,hb1⟩;have g1:G w w1:=((((G.refl w).alloc _).alloc _).alloc _).trans hb1;obtain⟨hc1,hf1⟩:=hb1.rules
 go_wp2
 exact bodyPost_ret (v:=.tuple #[V rk ra rb rs,.int .i64 c0]) (by simp[results,results47,go_sem,hc1]) rfl ⟨rfl,by
  repeat(first|exact g1|refine G.alloc ?_ _|refine G.setCell ?_ (by simp;try omega) _)⟩
theorem zHC(a b a' b':Int)(s s':ByteArray)(rk ra rb:Int)(rs:ByteArray)(c0:Int)(h1:∀w,Calls prog 73 #[.int .i64 a] w fun e w'=>e=.returned (.bool true)∧w'=w)(h2:∀w,Calls prog 73 #[.int .i64 a'] w fun e w'=>e=.returned (.bool true)∧w'=w)(h:∀w,CG 90 #[.int .i64 5,.int .i64 a,.int .i64 b,.int .i64 a',.int .i64 b'] w (.tuple #[V rk ra rb rs,.int .i64 c0]))(w:World):CG 47 #[.int .i64 5,V 2 a b s,V 3 a' b' s'] w (.tuple #[V rk ra rb rs,.int .i64 c0]):=by
 have H1:Hid _:=h1;have H2:Hid _:=h2;have H:Hid _:=h;clear h1 h2 h
 go_enter func47,ntmps47
 go_wp2_with fail
 refine(H1.out _).mono ?_;rintro e wx ⟨rfl,rfl⟩
 go_wp2_with fail
 refine(H2.out _).mono ?_;rintro e wx ⟨rfl,rfl⟩
 go_wp2_with fail
 refine(H.out _).mono ?_;rintro e w1 ⟨rfl,hb1⟩;have g1:G w w1:=((((G.refl w).alloc _).alloc _).alloc _).trans hb1;obtain⟨hc1,hf1⟩:=hb1.rules
 go_wp2
 exact bodyPost_ret (v:=.tuple #[V rk ra rb rs,.int .i64 c0]) (by simp[results,results47,go_sem,hc1]) rfl ⟨rfl,by
  repeat(first|exact g1|refine G.alloc ?_ _|refine G.setCell ?_ (by simp;try omega) _)⟩
theorem zKw(a b a' b':Int)(s s':ByteArray)(h1:∀w,Calls prog 73 #[.int .i64 a] w fun e w'=>e=.returned (.bool false)∧w'=w)(w:World):CG 47 #[.int .i64 5,V 2 a b s,V 3 a' b' s'] w (.tuple #[V0,.int .i64 11]):=by
 have H1:Hid _:=h1;clear h1
 go_enter func47,ntmps47
 go_wp2_with fail
 refine(H1.out _).mono ?_;rintro e wx ⟨rfl,rfl⟩
 go_wp2
 exact bodyPost_ret (v:=.tuple #[V0,.int .i64 11]) (by simp[results,results47,go_sem]) rfl ⟨rfl,by
  repeat(first|exact G.refl _|refine G.alloc ?_ _|refine G.setCell ?_ (by simp;try omega) _)⟩
theorem zHB(a b a' b':Int)(s s':ByteArray)(rk ra rb:Int)(rs:ByteArray)(c0:Int)(h1:∀w,Calls prog 73 #[.int .i64 a] w fun e w'=>e=.returned (.bool true)∧w'=w)(h2:∀w,Calls prog 73 #[.int .i64 a'] w fun e w'=>e=.returned (.bool true)∧w'=w)(h:∀w,CG 90 #[.int .i64 5,.int .i64 a,.int .i64 b,.int .i64 a',.int .i64 b'] w (.tuple #[V rk ra rb rs,.int .i64 c0]))(w:World):CG 47 #[.int .i64 5,V 3 a b s,V 2 a' b' s'] w (.tuple #[V rk ra rb rs,.int .i64 c0]):=by
 have H1:Hid _:=h1;have H2:Hid _:=h2;have H:Hid _:=h;clear h1 h2 h
 go_enter func47,ntmps47
 go_wp2_with fail
 refine(H1.out _).mono ?_;rintro e wx ⟨rfl,rfl⟩
 go_wp2_with fail
 refine(H2.out _).mono ?_;rintro e wx ⟨rfl,rfl⟩
 go_wp2_with fail
 refine(H.out _).mono ?_;rintro e w1 ⟨rfl,hb1⟩;have g1:G w w1:=((((G.refl w).alloc _).alloc _).alloc _).trans hb1;obtain⟨hc1,hf1⟩:=hb1.rules
 go_wp2
 exact bodyPost_ret (v:=.tuple #[V rk ra rb rs,.int .i64 c0]) (by simp[results,results47,go_sem,hc1]) rfl ⟨rfl,by
  repeat(first|exact g1|refine G.alloc ?_ _|refine G.setCell ?_ (by simp;try omega) _)⟩
theorem zKv(a b a' b':Int)(s s':ByteArray)(h1:∀w,Calls prog 73 #[.int .i64 a] w fun e w'=>e=.returned (.bool true)∧w'=w)(h2:∀w,Calls prog 73 #[.int .i64 a'] w fun e w'=>e=.returned (.bool false)∧w'=w)(w:World):CG 47 #[.int .i64 5,V 3 a b s,V 2 a' b' s'] w (.tuple #[V0,.int .i64 11]):=by
 have H1:Hid _:=h1;have H2:Hid _:=h2;clear h1 h2
 go_enter func47,ntmps47
 go_wp2_with fail
 refine(H1.out _).mono ?_;rintro e wx ⟨rfl,rfl⟩
 go_wp2_with fail
 refine(H2.out _).mono ?_;rintro e wx ⟨rfl,rfl⟩
 go_wp2
 exact bodyPost_ret (v:=.tuple #[V0,.int .i64 11]) (by simp[results,results47,go_sem]) rfl ⟨rfl,by
  repeat(first|exact G.refl _|refine G.alloc ?_ _|refine G.setCell ?_ (by simp;try omega) _)⟩
theorem zHA(a b a' b':Int)(s s':ByteArray)(rk ra rb:Int)(rs:ByteArray)(c0:Int)(h1:∀w,Calls prog 73 #[.int .i64 a] w fun e w'=>e=.returned (.bool true)∧w'=w)(h2:∀w,Calls prog 73 #[.int .i64 a'] w fun e w'=>e=.returned (.bool true)∧w'=w)(h:∀w,CG 90 #[.int .i64 5,.int .i64 a,.int .i64 b,.int .i64 a',.int .i64 b'] w (.tuple #[V rk ra rb rs,.int .i64 c0]))(w:World):CG 47 #[.int .i64 5,V 3 a b s,V 3 a' b' s'] w (.tuple #[V rk ra rb rs,.int .i64 c0]):=by
 have H1:Hid _:=h1;have H2:Hid _:=h2;have H:Hid _:=h;clear h1 h2 h
 go_enter func47,ntmps47
 go_wp2_with fail
 refine(H1.out _).mono ?_;rintro e wx ⟨rfl,rfl⟩
 go_wp2_with fail
 refine(H2.out _).mono ?_;rintro e wx ⟨rfl,rfl⟩
 go_wp2_with fail
 refine(H.out _).mono ?_;rintro e w1 ⟨rfl,hb1⟩;have g1:G w w1:=((((G.refl w).alloc _).alloc _).alloc _).trans hb1;obtain⟨hc1,hf1⟩:=hb1.rules
 go_wp2
 exact bodyPost_ret (v:=.tuple #[V rk ra rb rs,.int .i64 c0]) (by simp[results,results47,go_sem,hc1]) rfl ⟨rfl,by
  repeat(first|exact g1|refine G.alloc ?_ _|refine G.setCell ?_ (by simp;try omega) _)⟩
end
end Go.Proofs.YthmdjhfbhbheeaaGreatDoor
