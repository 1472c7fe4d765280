import Derived.Test.YthmdjhfbhbheeaaGreatDoorFl
namespace Go.Proofs.YthmdjhfbhbheeaaGreatDoor
section
open Ieee
theorem Fl.norm{x:Nat}{n:Int}(h:Fl x n)(hn:n≠0):∃k:Nat,double.read x=.number (decide (n<0)) (n.natAbs*2^k) (-(k:Int))∧2^52≤n.natAbs*2^k∧n.natAbs*2^k<2^53:=by
 obtain⟨_,s,k,rx,hs⟩:=h;have e:=hs hn;subst e;refine⟨k,rx,?_⟩;unfold Format.read at rx;rw[d_sw,zG1,zCk,zF9] at rx;generalize x%9223372036854775808=r at rx;simp only at rx
 split at rx
 ·rename_i c
  injection rx with _ h1 h2
  exfalso;have hp:2^52≤2^k:=Nat.pow_le_pow_right (by decide) (by omega);have h3:2^k≤n.natAbs*2^k:=Nat.le_mul_of_pos_left _ (by omega);have h4:2^52≤n.natAbs*2^k:=Nat.le_trans hp h3;rw[←h1] at h4;omega
 ·split at rx
  ·injection rx with _ h1 _
   rw[←h1];have:=Nat.mod_lt r (show 4503599627370496>0 by decide)
   constructor<;>omega
  ·split at rx<;>cases rx
theorem zQb(neg:Bool)(n e:Nat)(hl:e≤n.log2):2*(Toward.even.cut neg n e*2^e)≤2*n+2^e∧2*n≤2*(Toward.even.cut neg n e*2^e)+2^e:=by
 unfold Toward.cut
 have hm:min e (n.log2+2)=e:=by omega
 have e1:1 <<< e=2^e:=by rw[Nat.shiftLeft_eq];omega
 simp only[hm,e1];have hp:0<2^e:=Nat.two_pow_pos e;generalize 2^e=g at hp;have hd:=Nat.div_add_mod n g;have hr:=Nat.mod_lt n hp;have hc:g*(n/g)=n/g*g:=Nat.mul_comm _ _;generalize n/g=a at *;generalize n%g=r at *
 have hx:(a+1)*g=a*g+g:=by rw[Nat.add_mul];omega
 by_cases c:(decide (g<2*r) || (g==2*r&&a%2==1))=true
 ·rw[c]
  simp only[Bool.toNat_true,hx]
  have:g≤2*r:=by
   simp at c;rcases c with c|c
   iterate 2
    ·omega
  generalize a*g=t at *;omega
 ·have c':(decide (g<2*r) || (g==2*r&&a%2==1))=false:=by simpa using c
  rw[c'];simp only[Bool.toNat_false,Nat.add_zero]
  have:2*r≤g:=by
   simp at c;omega
  generalize a*g=t at *;omega
section claims
variable {kept m n' E H J Kk T N d C:Nat}
theorem zJC(K:Nat)(hE:E=2*H)(hH:0<H)(hd:0<d)(hJ:0<J)(hn:n'=d*J)(hm:m=N*Kk)(hT:C*Kk=E*J*T)(k2:m*C≤kept*E*n'+H*n')(h:K*d≤N):K*T≤kept:=by
 refine Nat.not_lt.1 fun c=>?_;have c1:kept+1≤K*T:=c;have hp:0<H*n':=Nat.mul_pos hH (by rw[hn];exact Nat.mul_pos hd hJ);have s1:(kept+1)*(E*n')≤K*T*(E*n'):=Nat.mul_le_mul_right _ c1
 have s2:K*T*(E*n')=K*d*(C*Kk):=by rw[hT,hn];ac_rfl
 have s3:K*d*(C*Kk)≤N*(C*Kk):=Nat.mul_le_mul_right _ h
 have s4:N*(C*Kk)=m*C:=by rw[hm];ac_rfl
 have s5:(kept+1)*(E*n')=kept*E*n'+2*(H*n'):=by rw[hE,Nat.add_mul,Nat.one_mul,Nat.mul_assoc 2 H n',Nat.mul_assoc kept (2*H) n',Nat.mul_assoc 2 H n']
 omega
theorem zJD(K:Nat)(hE:E=2*H)(hH:0<H)(hd:0<d)(hJ:0<J)(hn:n'=d*J)(hm:m=N*Kk)(hT:C*Kk=E*J*T)(k1:kept*E*n'≤m*C+H*n')(h:N≤K*d):kept≤K*T:=by
 refine Nat.not_lt.1 fun c=>?_;have c1:K*T+1≤kept:=c;have hp:0<H*n':=Nat.mul_pos hH (by rw[hn];exact Nat.mul_pos hd hJ)
 have s2:K*T*(E*n')=K*d*(C*Kk):=by rw[hT,hn];ac_rfl
 have s3:N*(C*Kk)≤K*d*(C*Kk):=Nat.mul_le_mul_right _ h
 have s4:N*(C*Kk)=m*C:=by rw[hm];ac_rfl
 have s1:(K*T+1)*(E*n')≤kept*(E*n'):=Nat.mul_le_mul_right _ c1
 have s5:(K*T+1)*(E*n')=K*T*(E*n')+2*(H*n'):=by rw[hE,Nat.add_mul,Nat.one_mul];rw[Nat.mul_assoc 2]
 have s6:kept*(E*n')=kept*E*n':=(Nat.mul_assoc _ _ _).symm;omega
theorem zJB(hE:E=2*H)(hH:0<H)(hJ:0<J)(hn:n'=d*J)(hT:C*Kk=E*J*T)(h:C*Kk≤H*n'):2*T≤d:=by
 have s1:2*T*(H*J)≤d*(H*J):=by
  have a1:2*T*(H*J)=E*J*T:=by rw[hE];ac_rfl
  have a2:d*(H*J)=H*n':=by rw[hn];ac_rfl
  rw[a1,a2,←hT];exact h
 exact Nat.le_of_mul_le_mul_right s1 (Nat.mul_pos hH hJ)
theorem zQf(K:Nat)(hE:E=2*H)(hH:0<H)(hd:0<d)(hJ:0<J)(hn:n'=d*J)(hm:m=N*Kk)(hT:C*Kk=E*J*T)(k1:kept*E*n'≤m*C+H*n')(h52:4503599627370496≤kept)(hN:N≤9007199254740990)(h:N<K*d):kept<K*T:=by
 refine Nat.lt_of_le_of_ne (zJD K hE hH hd hJ hn hm hT k1 (Nat.le_of_lt h)) fun he=>?_
 have s2:K*T*(E*n')=K*d*(C*Kk):=by rw[hT,hn];ac_rfl
 have s3:(N+1)*(C*Kk)≤K*d*(C*Kk):=Nat.mul_le_mul_right _ h
 have s40:N*(C*Kk)=m*C:=by rw[hm];ac_rfl
 have s4:(N+1)*(C*Kk)=m*C+C*Kk:=by rw[Nat.add_mul,Nat.one_mul,s40]
 rw[←he] at s2;have s6:kept*E*n'=kept*(E*n'):=Nat.mul_assoc _ _ _;have t1:2*T≤d:=zJB hE hH hJ hn hT (by omega)
 have t2:kept*E*n'=2*kept*d*(H*J):=by rw[hE,hn];ac_rfl
 have t3:m*C=2*N*T*(H*J):=by rw[←s40,hT,hE];ac_rfl
 have t4:H*n'=d*(H*J):=by rw[hn];ac_rfl
 have t5:2*kept*d*(H*J)≤(2*N*T+d)*(H*J):=by rw[Nat.add_mul,←t2,←t3,←t4];exact k1
 have t6:2*kept*d≤2*N*T+d:=Nat.le_of_mul_le_mul_right t5 (Nat.mul_pos hH hJ);have t7:N*(2*T)≤N*d:=Nat.mul_le_mul_left _ t1
 have t8:N*(2*T)=2*N*T:=by ac_rfl
 have t9:2*kept*d≤(N+1)*d:=by rw[Nat.add_mul,Nat.one_mul];omega
 have:=Nat.le_of_mul_le_mul_right t9 hd;omega
theorem zQg(K:Nat)(hE:E=2*H)(hH:0<H)(hd:0<d)(hJ:0<J)(hn:n'=d*J)(hm:m=N*Kk)(hT:C*Kk=E*J*T)(k2:m*C≤kept*E*n'+H*n')(h52:4503599627370496≤kept)(hN:N≤9007199254740990)(h:K*d<N):K*T<kept:=by
 refine Nat.lt_of_le_of_ne (zJC K hE hH hd hJ hn hm hT k2 (Nat.le_of_lt h)) fun he=>?_
 have s2:K*T*(E*n')=K*d*(C*Kk):=by rw[hT,hn];ac_rfl
 have s3:(K*d+1)*(C*Kk)≤N*(C*Kk):=Nat.mul_le_mul_right _ h
 have s4:N*(C*Kk)=m*C:=by rw[hm];ac_rfl
 have s4':(K*d+1)*(C*Kk)=K*d*(C*Kk)+C*Kk:=by rw[Nat.add_mul,Nat.one_mul]
 rw[he] at s2;have s6:kept*E*n'=kept*(E*n'):=Nat.mul_assoc _ _ _;have t1:2*T≤d:=zJB hE hH hJ hn hT (by omega);have t2:K*(2*T)≤K*d:=Nat.mul_le_mul_left _ t1
 have t3:K*(2*T)=2*(K*T):=by ac_rfl
 omega
end claims
theorem zO7{x y:Nat}{s:Bool}{p q:Int}{n':Nat}(rx:double.read x=.number s 0 p)(ry:double.read y=.number false n' q)(ny:n'≠0):floatBits .quo .f64 x y=some (double.word s 0):=by
 show((double.read x).quotient (double.fractionBits+2) (double.read y)).map double.write=_;rw[rx,ry];simp only[Datum.quotient,if_neg ny,Option.map_some,Format.write,Bool.xor_false,Nat.zero_shiftLeft,Nat.zero_div,Nat.zero_mod,Nat.mul_zero,Nat.zero_add];unfold Format.nearest;simp
theorem zO8{x y:Nat}{s:Bool}{k j:Nat}{m n':Nat}(rx:double.read x=.number s m (-(k:Int)))(ry:double.read y=.number false n' (-(j:Int)))(ny:n'≠0)(lm:m.log2=52)(ln:n'.log2=52) :
  floatBits .quo .f64 x y=some (double.nearest s (2*(m*2^54/n')+(m*2^54%n' != 0).toNat) (-(k:Int)+(j:Int)-55)):=by
 show((double.read x).quotient (double.fractionBits+2) (double.read y)).map double.write=_;rw[rx,ry];have e:double.fractionBits+2+52-52=54:=rfl;simp only[Datum.quotient,if_neg ny,lm,ln,Nat.shiftLeft_eq,Option.map_some,Format.write,Bool.xor_false,e]
 have p:-(k:Int) - -(j:Int)-((54:Nat):Int)-1 = -(k:Int)+(j:Int)-55:=by omega
 rw[p]
theorem zMA(s:Bool)(Q e L:Nat)(pl:Int)(hp:pl = -(L:Int)-e)(he:2≤e)(hQ1:2^(e+52)≤Q)(hQ2:Q<2^(e+53))(hL1:1≤L)(hL2:L≤1000) :
  ∃M P kept:Nat,double.read (double.nearest s Q pl)=.number s M (-(P:Int))∧M*2^L=kept*2^P∧2*(kept*2^e)≤2*Q+2^e∧2*Q≤2*(kept*2^e)+2^e∧4503599627370496≤kept:=by
 have hq0:Q≠0:=by have:=Nat.two_pow_pos (e+52);omega
 have hl:Q.log2=e+52:=by rw[Nat.log2_eq_iff hq0];exact⟨hQ1,hQ2⟩
 have hc:=zQb s Q e (by omega);have hpe:0<2^e:=Nat.two_pow_pos e
 have h52:2^(e+52)=4503599627370496*2^e:=by rw[Nat.pow_add,Nat.mul_comm]
 have h53:2^(e+53)=9007199254740992*2^e:=by rw[Nat.pow_add,Nat.mul_comm]
 have kb:4503599627370496≤Toward.even.cut s Q e∧Toward.even.cut s Q e≤9007199254740992:=by
  generalize Toward.even.cut s Q e=t at hc;constructor
  ·refine Nat.not_lt.1 fun c=>?_
   have:(t+1)*2^e≤4503599627370496*2^e:=Nat.mul_le_mul_right _ c;rw[Nat.add_mul,Nat.one_mul] at this;omega
  ·refine Nat.not_lt.1 fun c=>?_
   have:(9007199254740992+1)*2^e≤t*2^e:=Nat.mul_le_mul_right _ c;rw[Nat.add_mul,Nat.one_mul] at this;omega
 have en:double.nearest s Q pl=double.word s ((1074-L)*4503599627370496+Toward.even.cut s Q e):=by
  unfold Format.nearest;rw[if_neg hq0,hl,d_fb,zCk,zG1,zF9]
  have e1:max (pl+((e+52:Nat):Int)-((52:Nat):Int)) (-1074) = -(L:Int):=by omega
  rw[e1]
  have e2:(pl - -(L:Int)).toNat=0:=by omega
  have e3:(-(L:Int)-pl).toNat=e:=by omega
  have e4:(-(L:Int) - -1074).toNat=1074-L:=by omega
  simp only[e2,e3,e4,Nat.shiftLeft_zero]
  have hmin:min ((1074-L)*4503599627370496+Toward.even.cut s Q e) 9218868437227405312=(1074-L)*4503599627370496+Toward.even.cut s Q e:=Nat.min_eq_left (by
   have h:=kb.2;generalize Toward.even.cut s Q e=t at h⊢
   omega)
  rw[hmin]
 rw[en];generalize Toward.even.cut s Q e=t at kb hc
 by_cases c:t<9007199254740992
 ·refine⟨t,L,t,?_,rfl,hc.1,hc.2,kb.1⟩
  have hr:(1074-L)*4503599627370496+t<9223372036854775808:=by omega
  obtain⟨a1,a2⟩:=zB7 s _ hr;unfold Format.read;rw[d_sw,zG1,zF9,zCk,a1,a2]
  have b1:¬(1074-L)*4503599627370496+t<4503599627370496:=by omega
  have b2:(1074-L)*4503599627370496+t<9218868437227405312:=by omega
  simp only[b1,b2,if_false,if_true]
  have b3:4503599627370496+((1074-L)*4503599627370496+t)%4503599627370496=t:=by omega
  have b4:((1074-L)*4503599627370496+t)/4503599627370496=1074-L+1:=by omega
  rw[b3,b4]
  have b5:(-1074:Int)+((1074-L+1-1:Nat):Int) = -(L:Int):=by omega
  rw[b5];cases s<;>rfl
 ·have ht:t=9007199254740992:=by omega
  refine⟨4503599627370496,L-1,t,?_,?_,hc.1,hc.2,kb.1⟩
  ·subst ht
   have hr:(1074-L)*4503599627370496+9007199254740992<9223372036854775808:=by omega
   obtain⟨a1,a2⟩:=zB7 s _ hr;unfold Format.read;rw[d_sw,zG1,zF9,zCk,a1,a2]
   have b1:¬(1074-L)*4503599627370496+9007199254740992<4503599627370496:=by omega
   have b2:(1074-L)*4503599627370496+9007199254740992<9218868437227405312:=by omega
   simp only[b1,b2,if_false,if_true]
   have b3:4503599627370496+((1074-L)*4503599627370496+9007199254740992)%4503599627370496=4503599627370496:=by omega
   have b4:((1074-L)*4503599627370496+9007199254740992)/4503599627370496=1074-L+2:=by omega
   rw[b3,b4]
   have b5:(-1074:Int)+((1074-L+2-1:Nat):Int) = -((L-1:Nat):Int):=by omega
   rw[b5];cases s<;>rfl
  ·have e1:2^L=2*2^(L-1):=by
    have:L=L-1+1:=by omega
    conv=>lhs;rw[this,Nat.pow_succ]
    rw[Nat.mul_comm]
   rw[ht,e1];generalize 2^(L-1)=g;omega
structure Quo(N d M P:Nat):Prop where
 lo:N/d*2^P≤M
 hi:M<(N/d+1)*2^P
 ex:M=N/d*2^P↔N=N/d*d
theorem zVz(m n' a z Q:Nat)(xb1:4503599627370496≤m)(xb2:m<9007199254740992)(yb1:4503599627370496≤n')(yb2:n'<9007199254740992)(hdm:n'*a+z=m*18014398509481984)(hrm:z<n')(hQ:Q=2*a+(z != 0).toNat) :
  (18014398509481984≤Q∧Q<72057594037927936)∧∀t h,t%2=0→h%2=0→(t≤Q+h→t*n'≤m*36028797018963968+h*n')∧(Q≤t+h→m*36028797018963968≤t*n'+h*n'):=by
 have qlo:9007199254740992≤a:=by
  refine Nat.not_lt.1 fun c=>?_;have h1:n'*(a+1)≤n'*9007199254740992:=Nat.mul_le_mul_left _ c;rw[Nat.mul_add,Nat.mul_one] at h1;omega
 have qhi:a<36028797018963968:=by
  refine Nat.not_le.1 fun c=>?_;have h1:n'*36028797018963968≤n'*a:=Nat.mul_le_mul_left _ c;omega
 have h55:m*36028797018963968=2*(m*18014398509481984):=by omega
 have hc:n'*a=a*n':=Nat.mul_comm _ _;have h2:2*a*n'=2*(a*n'):=Nat.mul_assoc _ _ _
 by_cases c:z=0
 ·have e:(z != 0).toNat=0:=by rw[c];rfl
  rw[e] at hQ;refine⟨by omega,fun t h _ _=>⟨fun k=>?_,fun k=>?_⟩⟩
  ·have:=Nat.mul_le_mul_right n' (show t≤2*a+h by omega)
   rw[Nat.add_mul] at this;omega
  ·have:=Nat.mul_le_mul_right n' (show 2*a≤t+h by omega)
   rw[Nat.add_mul] at this;omega
 ·have e:(z != 0).toNat=1:=by simp[c]
  rw[e] at hQ;refine⟨by omega,fun t h ht hh=>⟨fun k=>?_,fun k=>?_⟩⟩
  ·have:=Nat.mul_le_mul_right n' (show t≤2*a+h by omega)
   rw[Nat.add_mul] at this;omega
  ·have:=Nat.mul_le_mul_right n' (show 2*a+2≤t+h by omega)
   rw[Nat.add_mul,Nat.add_mul] at this;omega
theorem zSQ(m n' Q:Nat)(xb1:4503599627370496≤m)(xb2:m<9007199254740992)(yb1:4503599627370496≤n')(yb2:n'<9007199254740992)(hQ:Q=2*(m*18014398509481984/n')+(m*18014398509481984%n' != 0).toNat) :
  (18014398509481984≤Q∧Q<72057594037927936)∧∀t h,t%2=0→h%2=0→(t≤Q+h→t*n'≤m*36028797018963968+h*n')∧(Q≤t+h→m*36028797018963968≤t*n'+h*n'):=
 zVz m n' _ _ Q xb1 xb2 yb1 yb2 (Nat.div_add_mod (m*18014398509481984) n') (Nat.mod_lt (m*18014398509481984) (show n'>0 by omega)) hQ
theorem k_bd(N k:Nat)(hN:0<N)(xb2:N*2^k<2^53):k≤52:=by
 refine Nat.not_lt.1 fun c=>?_;have h1:2^53≤2^k:=Nat.pow_le_pow_right (by decide) c;have h2:2^k≤N*2^k:=Nat.le_mul_of_pos_left _ hN;omega
theorem zXQ(N k:Nat)(hN:N<4503599627370496)(xb1:2^52≤N*2^k):1≤k:=by
 refine Nat.not_lt.1 fun c=>?_
 have:k=0:=by omega
 subst this;rw[Nat.pow_zero,Nat.mul_one] at xb1;omega
theorem zSP(s:Bool)(N d k j:Nat)(hN:0<N)(hd:0<d)(hb:N≤9007199254740990)(hb2:N<4503599627370496∨2≤d)(xb1:2^52≤N*2^k)(xb2:N*2^k<2^53)(yb1:2^52≤d*2^j)(yb2:d*2^j<2^53) :
  ∃M P:Nat,double.read (double.nearest s (2*(N*2^k*2^54/(d*2^j))+(N*2^k*2^54%(d*2^j) != 0).toNat) (-(k:Int)+(j:Int)-55))=.number s M (-(P:Int))∧Quo N d M P:=by
 have hk1:1≤k∨j≤51:=by
  rcases hb2 with c|c
  ·exact .inl (zXQ N k c xb1)
  ·refine .inr (Nat.not_lt.1 fun c2=>?_)
   have h1:2^52≤2^j:=Nat.pow_le_pow_right (by decide) c2;have h2:2*2^j≤d*2^j:=Nat.mul_le_mul_right _ c;omega
 have hk2:=k_bd N k hN xb2;have hj2:=k_bd d j hd yb2;have hQe:∃Q,Q=2*(N*2^k*2^54/(d*2^j))+(N*2^k*2^54%(d*2^j) != 0).toNat:=⟨_,rfl⟩;obtain⟨Q,hQ⟩:=hQe;rw[←hQ];have F:=zSQ (N*2^k) (d*2^j) Q xb1 xb2 yb1 yb2 hQ;clear hQ xb1 xb2 yb1 yb2;obtain⟨Qb,q12⟩:=F
 have hee:∃e,2≤e∧e≤3∧2^(e+52)≤Q∧Q<2^(e+53):=by
  by_cases c:Q<36028797018963968
  ·exact⟨2,by decide,by decide,Qb.1,c⟩
  ·exact⟨3,by decide,by decide,Nat.not_lt.1 c,Qb.2⟩
 obtain⟨e,e2,e3,hQ1,hQ2⟩:=hee;obtain⟨M,P,kept,hread,hMP,k1,k2,h52⟩:=zMA s Q e (k+55-j-e) (-(k:Int)+(j:Int)-55) (by omega) e2 hQ1 hQ2 (by omega) (by omega);refine⟨M,P,hread,?_⟩
 have hE:2^e=2*2^(e-1):=by
  have:e=e-1+1:=by omega
  conv=>lhs;rw[this,Nat.pow_succ]
  rw[Nat.mul_comm]
 have hH:0<2^(e-1):=Nat.two_pow_pos _
 have hH2:2^(e-1)%2=0:=by
  have:e-1=e-2+1:=by omega
  rw[this,Nat.pow_succ];omega
 have hE2:kept*2^e%2=0:=by
  rw[hE,←Nat.mul_assoc,Nat.mul_comm kept 2,Nat.mul_assoc];omega
 have hT:36028797018963968*2^k=2^e*2^j*2^(k+55-j-e):=by
  have h:36028797018963968=2^55:=rfl;rw[h,←Nat.pow_add,←Nat.pow_add,←Nat.pow_add];exact congrArg _ (by omega)
 have K1:kept*2^e≤Q+2^(e-1):=by omega
 have K2:Q≤kept*2^e+2^(e-1):=by omega
 obtain⟨R1,R2⟩:=q12 (kept*2^e) (2^(e-1)) hE2 hH2;have k1':=R1 K1;have k2':=R2 K2;have hJp:0<2^j:=Nat.two_pow_pos j;have hPp:0<2^P:=Nat.two_pow_pos P;have hLp:0<2^(k+55-j-e):=Nat.two_pow_pos _
 -- from kept over T to M over 2^P
 have hle:∀K,K*2^(k+55-j-e)≤kept→K*2^P≤M:=fun K h=>by
  have h1:K*2^P*2^(k+55-j-e)≤M*2^(k+55-j-e):=by
   rw[hMP];have:=Nat.mul_le_mul_right (2^P) h
   have e:K*2^P*2^(k+55-j-e)=K*2^(k+55-j-e)*2^P:=by ac_rfl
   rw[e];exact this
  exact Nat.le_of_mul_le_mul_right h1 hLp
 have hlt:∀K,kept<K*2^(k+55-j-e)→M<K*2^P:=fun K h=>by
  have h1:M*2^(k+55-j-e)<K*2^P*2^(k+55-j-e):=by
   rw[hMP];have:=Nat.mul_lt_mul_of_pos_right h hPp
   have e:K*2^P*2^(k+55-j-e)=K*2^(k+55-j-e)*2^P:=by ac_rfl
   rw[e];exact this
  exact Nat.lt_of_mul_lt_mul_right h1
 have hge:∀K,kept≤K*2^(k+55-j-e)→M≤K*2^P:=fun K h=>by
  have h1:M*2^(k+55-j-e)≤K*2^P*2^(k+55-j-e):=by
   rw[hMP];have:=Nat.mul_le_mul_right (2^P) h
   have e:K*2^P*2^(k+55-j-e)=K*2^(k+55-j-e)*2^P:=by ac_rfl
   rw[e];exact this
  exact Nat.le_of_mul_le_mul_right h1 hLp
 have hgt:∀K,K*2^(k+55-j-e)<kept→K*2^P<M:=fun K h=>by
  have h1:K*2^P*2^(k+55-j-e)<M*2^(k+55-j-e):=by
   rw[hMP];have:=Nat.mul_lt_mul_of_pos_right h hPp
   have e:K*2^P*2^(k+55-j-e)=K*2^(k+55-j-e)*2^P:=by ac_rfl
   rw[e];exact this
  exact Nat.lt_of_mul_lt_mul_right h1
 have D1:N/d*d≤N:=Nat.div_mul_le_self _ _
 have D2:N<(N/d+1)*d:=by rw[Nat.add_mul,Nat.one_mul];exact Nat.lt_div_mul_add hd
 have D3:(N/d+1)*d=N/d*d+d:=by rw[Nat.add_mul,Nat.one_mul]
 have A1:=zJC (N/d) hE hH hd hJp rfl rfl hT k2' D1;have A2:=zQf (N/d+1) hE hH hd hJp rfl rfl hT k1' h52 hb D2;refine⟨hle _ A1,hlt _ A2,?_,?_⟩
 ·intro he
  refine Nat.le_antisymm (Nat.not_lt.1 fun c=>?_) D1;have:=hgt _ (zQg (N/d) hE hH hd hJp rfl rfl hT k2' h52 hb c);omega
 ·intro he
  exact Nat.le_antisymm (hge _ (zJD (N/d) hE hH hd hJp rfl rfl hT k1' (Nat.le_of_eq he))) (hle _ A1)
end
end Go.Proofs.YthmdjhfbhbheeaaGreatDoor
