import Derived.Test.YthmdjhfbhbheeaaGreatDoorFlDiv
import Derived.Test.YthmdjhfbhbheeaaGreatDoorCpx
namespace Go.Proofs.YthmdjhfbhbheeaaGreatDoor
open Go.Proofs.Tryz
set_option maxHeartbeats 1000000
set_option maxRecDepth 100000
section
open Ieee Go.RowKit
theorem zXC(d P:Nat):Quo 0 d 0 P:=by
 have hp:=Nat.two_pow_pos P;refine⟨?_,?_,?_⟩
 ·rw[Nat.zero_div,Nat.zero_mul];exact Nat.le_refl _
 ·rw[Nat.zero_div,Nat.zero_add,Nat.one_mul];exact hp
 ·rw[Nat.zero_div,Nat.zero_mul,Nat.zero_mul]
theorem Fl.quo{x y:Nat}{n d:Int}(hx:Fl x n)(hy:Fl y d)(hd:0<d)(hb:n.natAbs≤9007199254740990)(hb2:n.natAbs<4503599627370496∨2≤d.natAbs) :
  ∃(r:Nat) (s:Bool) (M P:Nat),floatBits .quo .f64 x y=some r∧r<2^64∧double.read r=.number s M (-(P:Int))∧(n≠0→s=decide (n<0))∧Quo n.natAbs d.natAbs M P:=by
 obtain⟨j,ry,yb1,yb2⟩:=hy.norm (by omega)
 have hdn:decide (d<0)=false:=by simp;omega
 rw[hdn] at ry
 by_cases hn0:n=0
 ·subst hn0
  obtain⟨_,s,k,rx,_⟩:=hx
  have rx':double.read x=.number s 0 (-(k:Int)):=by simpa using rx
  refine⟨double.word s 0,s,0,1074,zO7 rx' ry (by omega),?_,?_,fun h=>absurd rfl h,zXC _ _⟩
  ·exact double.word_lt s (by rw[d_sw];decide)
  ·obtain⟨e1,e2⟩:=zB7 s 0 (by decide)
   unfold Format.read;rw[d_sw,zG1,zCk,e1,e2];cases s<;>rfl
 ·obtain⟨k,rx,xb1,xb2⟩:=hx.norm hn0
  have lm:(n.natAbs*2^k).log2=52:=by rw[Nat.log2_eq_iff (by omega)];exact⟨xb1,xb2⟩
  have ln:(d.natAbs*2^j).log2=52:=by rw[Nat.log2_eq_iff (by omega)];exact⟨yb1,yb2⟩
  obtain⟨M,P,hr,hq⟩:=zSP (decide (n<0)) n.natAbs d.natAbs k j (by omega) (by omega) hb hb2 xb1 xb2 yb1 yb2;exact⟨_,_,M,P,zO8 rx ry (by omega) lm ln,double.nearest_lt _ _ _,hr,fun _=>rfl,hq⟩
theorem Quo.div{N d M P:Nat}(h:Quo N d M P):M/2^P=N/d:=by
 have hp:=Nat.two_pow_pos P;have h1:N/d≤M/2^P:=(Nat.le_div_iff_mul_le hp).2 h.lo;have h2:M/2^P<N/d+1:=(Nat.div_lt_iff_lt_mul hp).2 h.hi;omega
theorem Quo.mod{N d M P:Nat}(h:Quo N d M P):M%2^P=0↔N%d=0:=by
 have h1:=Nat.div_add_mod M (2^P);have h2:=Nat.div_add_mod N d;have h3:=h.ex;rw[h.div,Nat.mul_comm] at h1;rw[Nat.mul_comm] at h2;constructor
 ·intro e
  have:=h3.1 (by omega);omega
 ·intro e
  have:=h3.2 (by omega);omega
theorem Fl.quo_exact{r:Nat}{n d F:Int}{s:Bool}{M P:Nat}(hr:r<2^64)(rd:double.read r=.number s M (-(P:Int)))(hs:n≠0→s=decide (n<0))(hq:Quo n.natAbs d.natAbs M P)(hd:0<d)(h:n=F*d):Fl r F:=by
 have e1:n.natAbs=F.natAbs*d.natAbs:=by rw[h,Int.natAbs_mul]
 have e2:n.natAbs/d.natAbs=F.natAbs:=by rw[e1];exact Nat.mul_div_cancel _ (by omega)
 have e3:=hq.ex.2 (by rw[e2];exact e1);rw[e2] at e3;refine⟨hr,s,P,by rw[rd,e3],?_⟩;intro hF
 have hn:n≠0:=by rw[h];exact Int.mul_ne_zero hF (by omega)
 rw[hs hn,h]
 by_cases c:F<0
 ·have:F*d<0:=Int.mul_neg_of_neg_of_pos c hd
  simp[c,this]
 ·have:0<F*d:=Int.mul_pos (by omega) hd
  have c2:¬F*d<0:=by omega
  simp[c,c2]
theorem zQc(s:Bool)(M P:Nat):Toward.down.cut s M P=M/2^P+(s&&M%2^P != 0).toNat:=by
 unfold Toward.cut
 by_cases c:P≤M.log2+2
 ·have hm:min P (M.log2+2)=P:=by omega
  have e1:1 <<< P=2^P:=by rw[Nat.shiftLeft_eq];omega
  simp only[hm,e1]
 ·have hm:min P (M.log2+2)=M.log2+2:=by omega
  have e1:1 <<< (M.log2+2)=2^(M.log2+2):=by rw[Nat.shiftLeft_eq];omega
  have hM:M<2^(M.log2+2):=by
   by_cases z:M=0
   ·rw[z];exact Nat.two_pow_pos _
   ·have:=((Nat.log2_eq_iff z).1 rfl).2
    exact Nat.lt_of_lt_of_le this (Nat.pow_le_pow_right (by decide) (by omega))
  have hM2:M<2^P:=Nat.lt_of_lt_of_le hM (Nat.pow_le_pow_right (by decide) (by omega));simp only[hm,e1,Nat.div_eq_of_lt hM,Nat.mod_eq_of_lt hM,Nat.div_eq_of_lt hM2,Nat.mod_eq_of_lt hM2]
theorem zGR(N d F:Nat)(hd:0<d)(h1:F*d≤N)(h2:N<(F+1)*d):N/d=F:=by
 have a:F≤N/d:=(Nat.le_div_iff_mul_le hd).2 h1;have b:N/d<F+1:=(Nat.div_lt_iff_lt_mul hd).2 h2;omega
theorem zQk(N d G:Nat)(hd:0<d)(h1:N≤G*d)(h2:G*d<N+d):N/d+(N%d != 0).toNat=G:=by
 have hN:=Nat.div_add_mod N d;have hr:=Nat.mod_lt N hd;rw[Nat.mul_comm] at hN
 by_cases c:N%d=0
 ·have:N/d=G:=by
   refine zGR N d G hd ?_ ?_
   ·have a:N/d≤G:=by
     refine Nat.not_lt.1 fun c2=>?_;have:=Nat.mul_le_mul_right d (show G+1≤N/d from c2);rw[Nat.add_mul,Nat.one_mul] at this;omega
    have b:G≤N/d:=by
     refine Nat.not_lt.1 fun c2=>?_;have:=Nat.mul_le_mul_right d (show N/d+1≤G from c2);rw[Nat.add_mul,Nat.one_mul] at this;omega
    have e:N/d=G:=by omega
    rw[←e];omega
   ·rw[Nat.add_mul,Nat.one_mul];omega
  simp[c,this]
 ·have hz:(N%d != 0).toNat=1:=by simp[c]
  rw[hz]
  have a:N/d<G:=by
   refine Nat.not_le.1 fun c2=>?_;have:=Nat.mul_le_mul_right d c2;omega
  have b:G≤N/d+1:=by
   refine Nat.not_lt.1 fun c2=>?_;have:=Nat.mul_le_mul_right d (show N/d+2≤G from c2);rw[Nat.add_mul] at this;omega
  omega
theorem Fl.quo_floor{r:Nat}{n d F:Int}{s:Bool}{M P:Nat}(rd:double.read r=.number s M (-(P:Int)))(hs:n≠0→s=decide (n<0))(hq:Quo n.natAbs d.natAbs M P)(hd:0<d)(h1:F*d≤n)(h2:n<(F+1)*d)(hF:F.natAbs<2^53) :
  Fl (double.write ((double.read r).integral .down)) F:=by
 rw[rd];simp only[Datum.integral]
 have e1:(-(P:Int)).toNat=0:=by omega
 have e2:(- -(P:Int)).toNat=P:=by omega
 rw[e1,e2,Nat.shiftLeft_zero,zQc,hq.div]
 have hmod:(M%2^P != 0)=(n.natAbs%d.natAbs != 0):=by
  by_cases c:n.natAbs%d.natAbs=0
  ·have:=hq.mod.2 c;simp[c,this]
  ·have h:M%2^P≠0:=fun e=>c (hq.mod.1 e)
   rw[bne_iff_ne.2 h,bne_iff_ne.2 c]
 rw[hmod]
 have hdd:(d.natAbs:Int)=d:=by omega
 have key:n.natAbs/d.natAbs+(s&&n.natAbs%d.natAbs != 0).toNat=F.natAbs∧(F≠0→s=decide (F<0)):=by
  by_cases c:0≤n
  ·have hF0:0≤F:=by
    refine Int.not_lt.1 fun c2=>?_;have:(F+1)*d≤0:=Int.mul_nonpos_of_nonpos_of_nonneg (by omega) (by omega);omega
   have a1:F.natAbs*d.natAbs≤n.natAbs:=by
    have:(F.natAbs:Int)*(d.natAbs:Int)≤(n.natAbs:Int):=by rw[Int.natAbs_of_nonneg hF0,hdd,Int.natAbs_of_nonneg c];exact h1
    exact_mod_cast this
   have a2:n.natAbs<(F.natAbs+1)*d.natAbs:=by
    have:(n.natAbs:Int)<((F.natAbs:Int)+1)*(d.natAbs:Int):=by rw[Int.natAbs_of_nonneg hF0,hdd,Int.natAbs_of_nonneg c];exact h2
    exact_mod_cast this
   have hdiv:=zGR _ _ _ (by omega) a1 a2
   by_cases z:n=0
   ·have hF1:F=0:=by
     refine Int.le_antisymm (Int.not_lt.1 fun c2=>?_) hF0;have:0<F*d:=Int.mul_pos c2 hd;omega
    subst z;subst hF1;simp
   ·have:=hs z
    have c3:decide (n<0)=false:=by simp;omega
    rw[c3] at this;subst this;refine⟨by simpa using hdiv,fun _=>?_⟩
    have:¬F<0:=by omega
    simp[this]
  ·have hn:n<0:=by omega
   have hse:=hs (by omega)
   have c3:decide (n<0)=true:=by simp;omega
   rw[c3] at hse;subst hse
   have hF0:F<0:=by
    refine Int.not_le.1 fun c2=>?_;have:0≤F*d:=Int.mul_nonneg c2 (by omega);omega
   have f1:(F.natAbs:Int) = -F:=by omega
   have f2:(n.natAbs:Int) = -n:=by omega
   have a1:n.natAbs≤F.natAbs*d.natAbs:=by
    have:(n.natAbs:Int)≤(F.natAbs:Int)*(d.natAbs:Int):=by rw[f1,f2,hdd,Int.neg_mul];omega
    exact_mod_cast this
   have a2:F.natAbs*d.natAbs<n.natAbs+d.natAbs:=by
    have:(F.natAbs:Int)*(d.natAbs:Int)<(n.natAbs:Int)+(d.natAbs:Int):=by
     rw[f1,f2,hdd,Int.neg_mul];rw[Int.add_mul,Int.one_mul] at h2;omega
    exact_mod_cast this
   refine⟨?_,fun _=>by simp[hF0]⟩
   simpa using zQk _ _ _ (by omega) a1 a2
 rw[key.1];have:=zBt s F 0 hF key.2
 simpa using this
theorem Fl.two:Fl 4611686018427387904 2:=by
 have:=Fl.ofInt 2 (by decide)
 have e:floatOfInt .f64 2=4611686018427387904:=by decide +kernel
 rwa [e] at this
theorem zFq(x y:Nat)(n d F:Int)(hx:Fl x n)(hy:Fl y d)(hd:0<d)(hb:n.natAbs≤2251799813685248)(hb':d.natAbs≤2251799813685248)(h1:F*(2*d)≤2*n+d)(h2:2*n+d<(F+1)*(2*d))(hF:F.natAbs<2^53) :
  ∃r,Fl r F∧∀w,Calls prog 173 #[.float .f64 x,.float .f64 y] w fun e w'=>e=.returned (.float .f64 r)∧w'=w:=by
 obtain⟨a,ka,fa⟩:=Fl.two.mul hx (by omega);obtain⟨b,kb,fb⟩:=fa.add hy (by omega);obtain⟨c,kc,fc⟩:=Fl.two.mul hy (by omega);obtain⟨q,s,M,P,kq,hq,rd,hs,hQ⟩:=fb.quo fc (by omega) (by omega) (.inr (by omega));have fr:=Fl.quo_floor rd hs hQ (by omega) h1 h2 hF;have ht:=fun w=>zLB q w rd;have e1:=fun w=>run_float_arith (P:=prog) w .mul 84 .f64 4611686018427387904 x a ka;have e2:=fun w=>run_float_arith (P:=prog) w .add 84 .f64 a y b kb;have e3:=fun w=>run_float_arith (P:=prog) w .mul 84 .f64 4611686018427387904 y c kc;have e4:=fun w=>run_float_arith (P:=prog) w .quo 84 .f64 b c q kq;generalize double.write ((double.read q).integral .down)=r at fr ht;refine⟨r,fr,fun w=>?_⟩;clear ka fa kb fb kc fc kq hq rd hs hQ fr hx hy hd hb hb' h1 h2 hF
 go_enter func173,ntmps173
 go_wp2
 go_ret;exact⟨rfl,rfl⟩
end
section
open Ieee
theorem zGa(s:Bool)(M P:Nat):Toward.zero.cut s M P=M/2^P:=by
 unfold Toward.cut
 by_cases c:P≤M.log2+2
 ·have hm:min P (M.log2+2)=P:=by omega
  have e1:1 <<< P=2^P:=by rw[Nat.shiftLeft_eq];omega
  simp only[hm,e1,Bool.toNat_false,Nat.add_zero]
 ·have hm:min P (M.log2+2)=M.log2+2:=by omega
  have e1:1 <<< (M.log2+2)=2^(M.log2+2):=by rw[Nat.shiftLeft_eq];omega
  have hM:M<2^(M.log2+2):=by
   by_cases z:M=0
   ·rw[z];exact Nat.two_pow_pos _
   ·have:=((Nat.log2_eq_iff z).1 rfl).2
    exact Nat.lt_of_lt_of_le this (Nat.pow_le_pow_right (by decide) (by omega))
  have hM2:M<2^P:=Nat.lt_of_lt_of_le hM (Nat.pow_le_pow_right (by decide) (by omega));simp only[hm,e1,Nat.div_eq_of_lt hM,Nat.div_eq_of_lt hM2,Bool.toNat_false]
def tr(x:Nat):Nat:=double.write ((double.read x).integral .zero)
theorem zJU{x:Nat}{s:Bool}{M P:Nat}(rd:double.read x=.number s M (-(P:Int)))(h:M/2^P<2^53) :
  Fl (tr x) (if s then -((M/2^P:Nat):Int)else((M/2^P:Nat):Int)):=by
 unfold tr;rw[rd];simp only[Datum.integral]
 have e1:(-(P:Int)).toNat=0:=by omega
 have e2:(- -(P:Int)).toNat=P:=by omega
 rw[e1,e2,Nat.shiftLeft_zero,zGa];generalize M/2^P=q at h;cases s
 ·have:=zBt false (q:Int) 0 (by simpa using h) (fun _=>by simp)
  simpa using this
 ·have:=zBt true (-(q:Int)) 0 (by simpa using h) (fun hq=>by simp;omega)
  simpa using this
theorem zKN{x:Nat}{s:Bool}{M:Nat}{p:Int}(rd:double.read x=.number s M p):double.order x x=some .eq:=by
 show(double.read x).order (double.read x)=_;rw[rd];simp[Datum.order,compare,compareOfLessAndEq]
theorem zBI(s:Bool)(m up:Nat):(signed s m up).natAbs=m*2^up:=by
 unfold signed;rw[Nat.shiftLeft_eq];generalize m*2^up=q;cases s<;>simp
theorem zHU{x:Nat}{s:Bool}{M P:Nat}(rd:double.read x=.number s M (-(P:Int)))(h:M/2^P<2^53)(hne:M%2^P≠0):(double.order (tr x) x != some .eq)=true:=by
 obtain⟨_,t,k,rt,_⟩:=zJU rd h;show((double.read (tr x)).order (double.read x) != some .eq)=true;rw[rt,rd]
 have eb:min (-(k:Int)) (-(P:Int)) = -((max k P:Nat):Int):=by omega
 have e1:(-(k:Int) - -((max k P:Nat):Int)).toNat=max k P-k:=by omega
 have e2:(-(P:Int) - -((max k P:Nat):Int)).toNat=max k P-P:=by omega
 simp only[Datum.order,eb,e1,e2]
 have ha:(if s=true then -((M/2^P:Nat):Int)else((M/2^P:Nat):Int)).natAbs=M/2^P:=by
  generalize M/2^P=q;cases s<;>simp
 rw[ha]
 have key:signed t (M/2^P*2^k) (max k P-k)≠signed s M (max k P-P):=fun he=>by
  have h1:=congrArg Int.natAbs he;rw[zBI,zBI] at h1
  have h2:M/2^P*2^k*2^(max k P-k)=M/2^P*2^P*2^(max k P-P):=by
   rw[Nat.mul_assoc,Nat.mul_assoc,←Nat.pow_add,←Nat.pow_add]
   congr 2;omega
  rw[h2] at h1;have h3:=Nat.eq_of_mul_eq_mul_right (Nat.two_pow_pos _) h1;have h4:=Nat.div_add_mod M (2^P);rw[Nat.mul_comm] at h4;omega
 generalize signed t (M/2^P*2^k) (max k P-k)=a at key;generalize signed s M (max k P-P)=b at key;simp only[compare,compareOfLessAndEq]
 by_cases c:a<b
 ·simp[c]
 ·simp[c,key]
theorem zHV{x:Nat}{a:Int}(h:Fl x a)(ha:a.natAbs<2^53):(double.order (tr x) x != some .eq)=false:=by
 have e:double.order (tr x) x=some (compare a a):=(h.integral ha .zero).1.order h;rw[e];simp[compare,compareOfLessAndEq]
theorem zKO{x:Nat}{s:Bool}{M P:Nat}(hx:x<2^64)(rd:double.read x=.number s M (-(P:Int)))(h:M≤33554432*2^P):(double.order (x%9223372036854775808) 4719772409484279808==some .gt)=false:=by
 obtain⟨_,t,k,rt,ht⟩:=Fl.most;have ht':=ht (by decide);simp at ht';subst ht';have r2:=zDg x hx rd;show((double.read (x%9223372036854775808)).order (double.read 4719772409484279808)==some .gt)=false;rw[r2,rt]
 have eb:min (-(P:Int)) (-(k:Int)) = -((max k P:Nat):Int):=by omega
 have e1:(-(k:Int) - -((max k P:Nat):Int)).toNat=max k P-k:=by omega
 have e2:(-(P:Int) - -((max k P:Nat):Int)).toNat=max k P-P:=by omega
 simp only[Datum.order,eb,e1,e2]
 have key:signed false M (max k P-P)≤signed false (Int.natAbs 33554432*2^k) (max k P-k):=by
  unfold signed;simp only[Nat.shiftLeft_eq,Bool.false_eq_true,if_false]
  have h2:Int.natAbs 33554432*2^k*2^(max k P-k)=33554432*2^P*2^(max k P-P):=by
   rw[Nat.mul_assoc,Nat.mul_assoc,←Nat.pow_add,←Nat.pow_add]
   have:k+(max k P-k)=P+(max k P-P):=by omega
   rw[this];rfl
  rw[h2]
  exact_mod_cast Nat.mul_le_mul_right _ h
 generalize signed false M (max k P-P)=a at key;generalize signed false (Int.natAbs 33554432*2^k) (max k P-k)=b at key;simp only[compare,compareOfLessAndEq]
 by_cases c:a<b
 ·simp[c]
 ·have:a=b:=by omega
  simp[this]
theorem Quo.le{N d M P K:Nat}(h:Quo N d M P)(hN:N≤K*d):M≤K*2^P:=by
 have h1:N/d≤K:=Nat.div_le_of_le_mul (by rw[Nat.mul_comm];exact hN)
 rcases Nat.lt_or_ge (N/d) K with c|c
 ·exact Nat.le_of_lt (Nat.lt_of_lt_of_le h.hi (Nat.mul_le_mul_right _ c))
 ·have e:N/d=K:=by omega
  have e2:N=N/d*d:=by
   have:=Nat.div_mul_le_self N d;rw[e] at this⊢;omega
  rw[h.ex.2 e2,e];exact Nat.le_refl _
end
end Go.Proofs.YthmdjhfbhbheeaaGreatDoor
