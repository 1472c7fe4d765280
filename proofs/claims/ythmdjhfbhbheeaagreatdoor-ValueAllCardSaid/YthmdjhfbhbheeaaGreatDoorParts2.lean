import Derived.Test.YthmdjhfbhbheeaaGreatDoorDec11
namespace Go.Proofs.YthmdjhfbhbheeaaGreatDoor
open Go.Proofs.Tryz
set_option maxHeartbeats 100000000
set_option maxRecDepth 100000
section
open Go.RowKit Go.Shelf Go.PlainAid Go.Lib
theorem dcs_none(kind op k a b:Int)(s:ByteArray)(k' a' b':Int)(s':ByteArray)(vs:Value)(st tt:ByteArray)(n x y o1 o2:Int)(w:World)(hT:Tabs w):Calls prog 22 #[.agg #[I kind,I op,I k,I a,I b,.string s,I k',I a',I b',.string s',vs,.string st,.string tt,.slice none 0 0,I n,I x,I y,I o1,I o2]] w fun r w'=>r=.returned (.bool true)∧G w w':=by
 obtain⟨i0,hi,hz0,hz1,hz2⟩:=info_parts info_u8
 have hv:=eqV
 go_enter func22,ntmps22
 go_wp2_with (at_builtin;refine wpList_append_own_none rfl _ _ 33 rfl 0 5 i0 1 underlying33 hi _ 0 [] rfl (World.ownsRow_nil _ _ _ _) rfl ?_;refine Hid.out ?_)
 obtain⟨w2,hw2⟩:∃w2,w2=w.alloc (.cells #[I kind,I op,I k,I a,I b,.string s,I k',I a',I b',.string s',vs,.string st,.string tt,.slice none 0 0,I n,I x,I y,I o1,I o2] 35):=⟨_,rfl⟩
 have hB2:Bw (w.alloc (.cells #[I kind,I op,I k,I a,I b,.string s,I k',I a',I b',.string s',vs,.string st,.string tt,.slice none 0 0,I n,I x,I y,I o1,I o2] 35)) w2 (.slice none 0 0) []:=by rw[hw2];exact Bw.nil _ _ (G.refl _)
 have HB2:Hid (Bw (w.alloc (.cells #[I kind,I op,I k,I a,I b,.string s,I k',I a',I b',.string s',vs,.string st,.string tt,.slice none 0 0,I n,I x,I y,I o1,I o2] 35)) w2 (.slice none 0 0) []):=hB2
 unfold Hid
 rw[←hw2]
 clear hw2 hB2
 have hs2:=HB2.out.g.size
 go_wp2_with (at_builtin;refine wpList_append_own _ rfl _ _ 33 rfl (w.alloc (.cells #[I kind,I op,I k,I a,I b,.string s,I k',I a',I b',.string s',vs,.string st,.string tt,.slice none 0 0,I n,I x,I y,I o1,I o2] 35)).heap.size 5 i0 (.int .u8 0) 1 1 underlying33 hi hz0 hz1 hz2 rfl (by decide) _ 0 [] rfl (World.ownsRow.alloc HB2.out.own _) ⟨w2.heap.size,0,none⟩ 3 3 [bv 201,bv 202,bv 203] rfl ?c0 ?c1 ?c2 ?c3 ?c4 ?c5 ?_)
 case c0=>rfl
 case c1=>
  intro j u hj
  match j,hj with
  | 0,hj=>simp at hj;subst hj;simp[Addr.add]
  | 1,hj=>simp at hj;subst hj;simp[Addr.add]
  | 2,hj=>simp at hj;subst hj;simp[Addr.add]
 case c2=>intro u hu;simp at hu;rcases hu with rfl|rfl|rfl<;>rfl
 case c3=>unfold maxLen;omega
 case c4=>omega
 case c5=>simp at hs2 ⊢;omega
 intro x4 w3 hown3 hgrow3 _
 have hB3:Bw (w.alloc (.cells #[I kind,I op,I k,I a,I b,.string s,I k',I a',I b',.string s',vs,.string st,.string tt,.slice none 0 0,I n,I x,I y,I o1,I o2] 35)) w3 x4 ([]++[201,202,203]):=(HB2.out.keep ((G.refl _).alloc _)).app [201,202,203] 3 rfl (by simpa using hown3) hgrow3
 rw[List.nil_append] at hB3
 clear hown3 hgrow3 HB2 hs2
 rcases hB3.at with ⟨_,he⟩|⟨g,cap4,rfl,hg1,hg2,hcap4,hcells⟩
 ·cases he
 have hcap4':3≤cap4:=hcap4
 have hE3:∀o,w3.cell? {block:=w.heap.size,off:=o}=[I kind,I op,I k,I a,I b,.string s,I k',I a',I b',.string s',vs,.string st,.string tt,.slice none 0 0,I n,I x,I y,I o1,I o2][o]?:=G.cells hB3.g (fun o=>by simp) (by simp)
 have hzE:w.heap.size<w3.heap.size:=by have:=hB3.g.size;simp at this;omega
 have hG3:G w w3:=((G.refl w).alloc _).trans hB3.g
 have hrowb:RowB w3 (.slice (some ⟨g,0,none⟩) 0 cap4) []:=⟨_,cap4,rfl,Nat.zero_le _,fun i d hi=>by simp at hi⟩
 have HD:Hid (∀W,G w3 W→Calls prog 59 #[.slice (some ⟨g,0,none⟩) 0 cap4] W (DecA [] W)):=fun W gg=>decB_any _ [] W (hT.G (hG3.trans gg)) (hrowb.G gg) (by simp) (by simp)
 have HR:Hid (∀W,G w3 W→Calls prog 60 #[.slice none 0 0] W (DecA [] W)):=fun W gg=>rde_any none 0 [] W (row_nil W) (by simp) (by simp) (Nat.zero_le _)
 have HS:Hid (∀W,G w3 W→Calls prog 10 #[.slice (some ⟨g,0,none⟩) 0 cap4,.slice none 0 0] W fun e w'=>e=.returned (.bool true)∧G W w'):=fun W gg=>same_wide _ _ [] W (hrowb.G gg) (row_nil W) (by simp)
 have hm1:=hcells 0 201 rfl
 have hm2:=hcells 1 202 rfl
 have hm3:=hcells 2 203 rfl
 have hsl:=slice_front (some ⟨g,0,none⟩) 3 cap4 0 (by omega)
 have HG3:Hid (G w w3):=hG3
 clear hcells hrowb hB3 hG3 hg1 hcap4
 go_wp2_with fail
 refine(HD.out _ (G.refl _)).mono ?_
 rintro e w4 ⟨k1,a1,b1,s1,n1,c1,rfl,hda,hb4⟩
 have hE4:∀o,w4.cell? {block:=w.heap.size,off:=o}=[I kind,I op,I k,I a,I b,.string s,I k',I a',I b',.string s',vs,.string st,.string tt,.slice none 0 0,I n,I x,I y,I o1,I o2][o]?:=G.cells hb4 hE3 hzE
 have HG4:Hid (G w3 w4):=hb4
 have hz4:w3.heap.size≤w4.heap.size:=hb4.size
 have hzE4:w.heap.size<w4.heap.size:=by omega
 have HDA:Hid _:=hda
 clear hb4 HD hE3 hda
 go_wp2_with fail
 refine(HR.out _ (HG4.out.alloc _)).mono ?_
 rintro e w5 ⟨k2,a2,b2,s2,n2,c2,rfl,hda2,hb5⟩
 obtain⟨rfl,rfl,rfl,rfl,rfl,rfl⟩:=DAns.one HDA.out hda2
 have hc5:∀o,w5.cell? {block:=w4.heap.size,off:=o}=[I k1,I a1,I b1,.string s1][o]?:=G.cells hb5 (fun o=>by simp) (by simp)
 have hz5:w4.heap.size<w5.heap.size:=by have:=hb5.size;simp at this;omega
 have hzE5:w.heap.size<w5.heap.size:=by omega
 have HG5:Hid (G w3 w5):=(HG4.out.alloc _).trans hb5
 have hE5:∀o,w5.cell? {block:=w.heap.size,off:=o}=[I kind,I op,I k,I a,I b,.string s,I k',I a',I b',.string s',vs,.string st,.string tt,.slice none 0 0,I n,I x,I y,I o1,I o2][o]?:=G.cells (((G.refl w4).alloc _).trans hb5) hE4 (by omega)
 clear hb5 HR hE4 hda2 HDA
 go_wp2_with fail
 refine(HS.out _ (HG5.out.alloc _)).mono ?_
 rintro e w6 ⟨rfl,hb6⟩
 have HG6:Hid (G w3 w6):=(HG5.out.alloc _).trans hb6
 have hm1':w6.cell? ⟨g,0,none⟩=some (bv 201):=(HG6.out.cell hg2).trans hm1
 have hm2':w6.cell? ⟨g,1,none⟩=some (bv 202):=(HG6.out.cell hg2).trans hm2
 have hm3':w6.cell? ⟨g,2,none⟩=some (bv 203):=(HG6.out.cell hg2).trans hm3
 have HG7:Hid (G w w6):=HG3.out.trans HG6.out
 clear hb6 HS hm1 hm2 hm3 hE5 hc5 HG6 HG5 HG4 HG3
 go_wp2
 go_ret
 exact⟨by simp,by repeat(first|exact G.refl _|assumption|exact HG7.out|refine G.alloc ?_ _|refine G.drewNE ?_ _|refine G.drew ?_|refine G.setCell ?_ (by simp) _)⟩
theorem dcs_all(e:Ent)(w:World)(hT:Tabs w)(h:BsOk w e.bb):Calls prog 22 #[e.V] w fun r w'=>r=.returned (.bool true)∧G w w':=by
 obtain⟨kind,op,k,a,b,s,k',a',b',s',vs,st,tt,bb,n,x,y,o1,o2⟩:=e
 simp only at h⊢
 obtain⟨p,cap,bs,rfl,hrow,hb,hl,hcap,hc⟩:=bs_list h
 rcases hc with ⟨rfl,rfl,rfl⟩|⟨ad,rfl,hfl⟩
 ·exact dcs_none kind op k a b s k' a' b' s' vs st tt n x y o1 o2 w hT
 ·exact dcs_some kind op k a b s k' a' b' s' vs st tt n x y o1 o2 w hT ad cap bs hfl hrow hb hl hcap
theorem BsOk.G{w w':World}{x:Value}(h:BsOk w x)(g:G w w'):BsOk w' x:=by
 rcases h with h|⟨a,len,cap,f,rfl,h1,h2,h3⟩
 ·exact .inl h
 ·exact .inr ⟨a,len,cap,f,rfl,h1,h2,fun i hi=>⟨(Below.cell g (World.block_lt_of_cell? w _ (h3 i hi).1)).trans (h3 i hi).1,(h3 i hi).2⟩⟩
theorem plays_9(e:Ent)(hk:e.kind=9)(w:World)(hT:Tabs w)(h:BsOk w e.bb):Calls prog 7 #[e.V] w fun r w'=>r=.returned (.bool true)∧G w w':=by
 have HF:Hid (∀W,G w W→Calls prog 22 #[e.V] W fun r w'=>r=.returned (.bool true)∧G W w'):=fun W g=>dcs_all e W (hT.G g) (h.G g)
 obtain⟨kind,op,k,a,b,s,k',a',b',s',vs,st,tt,bb,n,x,y,o1,o2⟩:=e
 simp only at hk
 subst hk
 clear h hT
 have hr:(w.alloc (.cells #[I 9,I op,I k,I a,I b,.string s,I k',I a',I b',.string s',vs,.string st,.string tt,bb,I n,I x,I y,I o1,I o2] 35)).rangeAt w.heap.size 0 [I 9,I op,I k,I a,I b,.string s,I k',I a',I b',.string s',vs,.string st,.string tt,bb,I n,I x,I y,I o1,I o2]:=fun j v hv=>by rw[Nat.zero_add];simpa using hv
 go_enter func7,ntmps7
 go_wp2_with (first|(refine wpList_load_mid rfl 35 _ rfl w.heap.size 0 rfl [I 9,I op,I k,I a,I b,.string s,I k',I a',I b',.string s',vs,.string st,.string tt,bb,I n,I x,I y,I o1,I o2] _ hr underlying35 rfl (by kernel_rfl) ?_)|(go_at_call 22;refine(HF.out _ ((G.refl w).alloc _)).mono ?_;rintro e w1 ⟨rfl,hb1⟩))
 go_wp2
 go_ret
 exact⟨rfl,((G.refl w).alloc _).trans hb1⟩
theorem decode_plays(W:World)(hT:Tabs W)(e:Ent)(h:EntOk W e)(h1:9≤e.kind)(h2:e.kind≤9)(w':World)(g:G W w'):Calls prog 7 #[e.V] w' fun r w''=>r=.returned (.bool true)∧G w' w'':=
 plays_9 e (by omega) w' (hT.G g) (h.bb.G g)
end
section
open Ieee
theorem signed_eq(s:Bool)(m u:Nat):signed s m u=(if s then -1 else 1)*((m*2^u:Nat):Int):=by
 unfold signed
 rw[Nat.shiftLeft_eq]
 cases s<;>simp
theorem signed_add(s:Bool)(m u v:Nat):signed s m (u+v)=signed s m u*((2^v:Nat):Int):=by
 rw[signed_eq,signed_eq,Nat.pow_add,←Nat.mul_assoc,Int.natCast_mul,Int.mul_assoc]
theorem compare_mul(a b:Int)(c:Nat)(h:0<c):compare (a*(c:Int)) (b*(c:Int))=compare a b:=by
 have h1:a*(c:Int)<b*(c:Int)↔a<b:=Int.mul_lt_mul_right (by omega)
 have h2:a*(c:Int)=b*(c:Int)↔a=b:=Int.mul_eq_mul_right_iff (by omega)
 simp only[compare,compareOfLessAndEq,h1,h2]
def Nu(x:Nat)(v:Int):Prop:=∃(s:Bool) (m:Nat) (p:Int),double.read x=.number s m p∧-1074≤p∧signed s m (p+1074).toNat=v
theorem read_cases(x:Nat):(∃s f,double.read x=.nan s f)∨(∃s,double.read x=.infinity s)∨∃v,Nu x v:=by
 have e:∀D,double.read x=D→(∃s f,D=.nan s f)∨(∃s,D=.infinity s)∨∃s m p,D=.number s m p∧(-1074:Int)≤p:=by
  intro D hD
  unfold Format.read at hD
  dsimp only at hD
  rw[d_least] at hD
  split at hD
  ·exact .inr (.inr ⟨_,_,_,hD.symm,by omega⟩)
  ·split at hD
   ·exact .inr (.inr ⟨_,_,_,hD.symm,by omega⟩)
   ·split at hD
    ·exact .inr (.inl ⟨_,hD.symm⟩)
    ·exact .inl ⟨_,_,hD.symm⟩
 rcases e _ rfl with h|h|⟨s,m,p,h,hp⟩
 ·exact .inl h
 ·exact .inr (.inl h)
 ·exact .inr (.inr ⟨_,s,m,p,h,hp,rfl⟩)
theorem Nu.order{x y:Nat}{v u:Int}(hx:Nu x v)(hy:Nu y u):double.order x y=some (compare v u):=by
 obtain⟨s,m,i,rx,hi,rfl⟩:=hx
 obtain⟨t,n,j,ry,hj,rfl⟩:=hy
 show(double.read x).order (double.read y)=_
 rw[rx,ry]
 simp only[Datum.order]
 have e1:(i+1074).toNat=(i-min i j).toNat+(min i j+1074).toNat:=by omega
 have e2:(j+1074).toNat=(j-min i j).toNat+(min i j+1074).toNat:=by omega
 rw[e1,e2,signed_add,signed_add,compare_mul _ _ _ (Nat.two_pow_pos _)]
theorem Nu.read{x:Nat}{v:Int}(h:Nu x v):∃s m p,double.read x=.number s m p:=by
 obtain⟨s,m,p,h,_⟩:=h
 exact⟨s,m,p,h⟩
theorem Fl.nu{y:Nat}{n:Int}(h:Fl y n)(L:Nat)(hL:L=1074):Nu y (n*2^L):=by
 obtain⟨_,s,k,hr,hs⟩:=h
 rcases read_cases y with ⟨_,_,h1⟩|⟨_,h1⟩|⟨v,s',m',p',h1,hp,hv⟩
 iterate 2
  ·rw[hr] at h1;cases h1
 ·rw[hr] at h1
  obtain⟨rfl,rfl,rfl⟩:s=s'∧n.natAbs*2^k=m'∧-(k:Int)=p':=by cases h1;exact⟨rfl,rfl,rfl⟩
  refine⟨s,_,_,hr,hp,?_⟩
  have e:(-(k:Int)+1074).toNat=L-k:=by omega
  rw[e,signed_of hs,show k+(L-k)=L by omega]
theorem Nu.strike{x:Nat}{v:Int}(hx:x<2^64)(h:Nu x v):Nu (x%9223372036854775808) (v.natAbs:Int):=by
 obtain⟨s,m,p,hr,hp,rfl⟩:=h
 refine⟨false,m,p,read_strike x hx hr,hp,?_⟩
 rw[signed_abs,signed_eq]
 simp
theorem nat_of{n L:Nat}(h:(n:Int)≤33554432*2^L):n≤33554432*2^L:=Int.ofNat_le.1 (by rw[Int.natCast_mul,Int.natCast_pow];exact h)
theorem Nu.whole{x:Nat}{v:Int}(h:Nu x v)(L:Nat)(hL:L=1074)(hv:v.natAbs≤33554432*2^L):∃n:Int,n.natAbs≤33554432∧Go.floatToIntVal .f64 x .i64=some n∧Fl (tr x) n:=by
 obtain⟨s,m,p,hr,hp,rfl⟩:=h
 rw[signed_abs] at hv
 have hq:(m <<< p.toNat)/2^(-p).toNat≤33554432:=by
  rw[Nat.shiftLeft_eq]
  refine Nat.div_le_of_le_mul ?_
  have hU:(0:Nat)<2^L:=Nat.two_pow_pos _
  rcases Int.le_total p 0 with c|c
  ·have e1:p.toNat=0:=by omega
   have e2:L=(p+1074).toNat+(-p).toNat:=by omega
   rw[e1,Nat.pow_zero,Nat.mul_one]
   generalize hk:(p+1074).toNat=k at *
   generalize (-p).toNat=j at *
   rw[e2,Nat.pow_add] at hv
   have:m*2^k≤(2^j*33554432)*2^k:=by
    have e3:(2^j*33554432)*2^k=33554432*(2^k*2^j):=by
     rw[Nat.mul_comm (2^j) 33554432,Nat.mul_assoc,Nat.mul_comm (2^j) (2^k)]
    rw[e3];exact hv
   exact Nat.le_of_mul_le_mul_right this (Nat.two_pow_pos _)
  ·have e1:(-p).toNat=0:=by omega
   have e2:(p+1074).toNat=p.toNat+L:=by omega
   rw[e1,Nat.pow_zero,Nat.one_mul]
   rw[e2,Nat.pow_add,←Nat.mul_assoc] at hv
   exact Nat.le_of_mul_le_mul_right hv hU
 refine⟨signed s ((m <<< p.toNat)/2^(-p).toNat) 0,?_,?_,?_⟩
 ·rw[signed_abs,Nat.pow_zero,Nat.mul_one];exact hq
 ·have e:(FloatKind.f64.decode x).toInt .zero=some (signed s ((m <<< p.toNat)/2^(-p).toNat) 0):=by
   show(double.read x).toInt .zero=_
   rw[hr]
   simp only[Datum.toInt,Datum.integral,cut_zero]
  have hb:(signed s ((m <<< p.toNat)/2^(-p).toNat) 0).natAbs≤33554432:=by rw[signed_abs,Nat.pow_zero,Nat.mul_one];exact hq
  unfold Go.floatToIntVal
  rw[e]
  generalize signed s ((m <<< p.toNat)/2^(-p).toNat) 0=n at hb
  have h1:IntKind.i64.min = -9223372036854775808:=by decide
  have h2:IntKind.i64.max=9223372036854775807:=by decide
  exact if_pos ⟨by rw[h1];omega,by rw[h2];omega⟩
 ·unfold tr
  rw[hr]
  simp only[Datum.integral,cut_zero]
  generalize (m <<< p.toNat)/2^(-p).toNat=q at hq
  have e:signed s q 0=if s then -(q:Int)else(q:Int):=by unfold signed;cases s<;>simp
  rw[e]
  cases s
  ·have:=fl_write false (q:Int) 0 (by simp;omega) (fun _=>by simp)
   simpa using this
  ·have:=fl_write true (-(q:Int)) 0 (by simp;omega) (fun hq=>by simp;omega)
   simpa using this
theorem Fl.least:Fl 13943144446339055616 (-33554432):=by
 have:=Fl.most.neg
 exact(show Go.Op.negFloat .f64 4719772409484279808=13943144446339055616 by decide +kernel)▸this
def bigB(x:Nat):Bool:=double.order (x%9223372036854775808) 4719772409484279808==some .gt
def frB(x:Nat):Bool:=double.order (tr x) x != some .eq
theorem gt_beq(a b:Int):(some (compare a b)==some Ordering.gt)=decide (b<a):=by
 simp only[compare,compareOfLessAndEq]
 by_cases h:a<b
 ·simp[h];omega
 ·by_cases h2:a=b
  ·simp[h2]
  ·simp[h,h2];omega
theorem lt_beq(a b:Int):(some (compare a b)==some Ordering.lt)=decide (a<b):=by
 simp only[compare,compareOfLessAndEq]
 by_cases h:a<b
 ·simp[h]
 ·by_cases h2:a=b
  ·simp[h2]
  ·simp[h,h2]
theorem dbl_cases(x:Nat)(hx:x<2^64) :
  double.order x x=none
  ∨ (double.order x x=some .eq∧bigB x=true∧((double.order x 13943144446339055616==some .lt)=true∨((double.order x 13943144446339055616==some .lt)=false∧(double.order x 4719772409484279808==some .gt)=true)))
  ∨ (double.order x x=some .eq∧bigB x=false∧(double.order x 13943144446339055616==some .lt)=false∧(double.order x 4719772409484279808==some .gt)=false∧
    (∃s m p,double.read x=.number s m p)∧∃n:Int,n.natAbs≤33554432∧Go.floatToIntVal .f64 x .i64=some n∧Fl (tr x) n∧(double.order (floatOfInt .f64 n) x != some .eq)=frB x):=by
 obtain⟨L,hL⟩:∃L:Nat,L=1074:=⟨_,rfl⟩
 rcases read_cases x with ⟨s,f,h⟩|⟨s,h⟩|⟨v,h⟩
 ·refine .inl ?_
  show(double.read x).order (double.read x)=_
  rw[h];rfl
 ·refine .inr (.inl ?_)
  obtain⟨sm,mm,pm,hm⟩:=(Fl.most.nu L hL).read
  obtain⟨sl,ml,pl,hl⟩:=(Fl.least.nu L hL).read
  have hs:double.read (x%9223372036854775808)=.infinity false:=by
   have:x%9223372036854775808=9218868437227405312:=by
    unfold Format.read at h
    dsimp only at h
    rw[d_sw,d_inf] at h
    split at h
    ·cases h
    ·split at h
     ·cases h
     ·split at h
      ·assumption
      ·cases h
   rw[this];decide +kernel
  refine⟨?_,?_,?_⟩
  ·show(double.read x).order (double.read x)=_
   rw[h];cases s<;>rfl
  ·show((double.read (x%9223372036854775808)).order (double.read 4719772409484279808)==some .gt)=true
   rw[hs,hm];rfl
  ·cases s
   ·refine .inr ⟨?_,?_⟩
    ·show((double.read x).order (double.read 13943144446339055616)==some .lt)=false
     rw[h,hl];rfl
    ·show((double.read x).order (double.read 4719772409484279808)==some .gt)=true
     rw[h,hm];rfl
   ·refine .inl ?_
    show((double.read x).order (double.read 13943144446339055616)==some .lt)=true
    rw[h,hl];rfl
 ·have h0:double.order x x=some .eq:=by rw[h.order h];simp[compare,compareOfLessAndEq]
  have hb:bigB x=decide ((33554432*2^L:Int)<v.natAbs):=by
   unfold bigB
   rw[(h.strike hx).order (Fl.most.nu L hL),gt_beq]
  have hl:(double.order x 13943144446339055616==some .lt)=decide (v < -33554432*2^L):=by rw[h.order (Fl.least.nu L hL),lt_beq]
  have hg:(double.order x 4719772409484279808==some .gt)=decide ((33554432*2^L:Int)<v):=by rw[h.order (Fl.most.nu L hL),gt_beq]
  have key:∀U:Int,U=2^L→(bigB x=true∧((double.order x 13943144446339055616==some .lt)=true∨((double.order x 13943144446339055616==some .lt)=false∧(double.order x 4719772409484279808==some .gt)=true)))
    ∨ (bigB x=false∧(double.order x 13943144446339055616==some .lt)=false∧(double.order x 4719772409484279808==some .gt)=false∧(v.natAbs:Int)≤33554432*U):=by
   intro U hU
   rw[←hU] at hb hl hg
   rw[hb,hl,hg]
   have hU0:0<U:=by rw[hU];exact pow2_pos L
   clear hb hl hg hU h0 h
   by_cases c:33554432*U<v.natAbs
   ·refine .inl ⟨by simp[c],?_⟩
    by_cases d:v < -33554432*U
    ·exact .inl (by simp[d])
    ·exact .inr ⟨by simp[d],by simp;omega⟩
   ·exact .inr ⟨by simp[c],by simp;omega,by simp;omega,by omega⟩
  rcases key _ rfl with ⟨k1,k2⟩|⟨k1,k2,k3,k4⟩
  ·exact .inr (.inl ⟨h0,k1,k2⟩)
  ·refine .inr (.inr ⟨h0,k1,k2,k3,h.read,?_⟩)
   obtain⟨n,hn,hi,hf⟩:=h.whole L hL (nat_of k4)
   refine⟨n,hn,hi,hf,?_⟩
   unfold frB
   rw[(hf.nu L hL).order h,((Fl.ofInt n (by omega)).nu L hL).order h]
end
section
open Go.RowKit
abbrev ordD(x y:Nat):Option Ordering:=FloatKind.f64.format.order x y
theorem nan_yes(x:Nat)(ho:ordD x x=none)(w:World):Calls prog 144 #[.float .f64 x] w fun e w'=>e=.returned (.bool true)∧w'=w:=by
 go_enter func144,ntmps144
 go_wp2
 go_ret
 exact⟨by simp,rfl⟩
theorem nan_no(x:Nat)(ho:ordD x x=some .eq)(w:World):Calls prog 144 #[.float .f64 x] w fun e w'=>e=.returned (.bool false)∧w'=w:=by
 go_enter func144,ntmps144
 go_wp2
 go_ret
 exact⟨by simp,rfl⟩
theorem abs_any(x:Nat)(h:x<2^64)(w:World):Calls prog 145 #[.float .f64 x] w fun e w'=>e=.returned (.float .f64 (strike x))∧w'=w:=by
 have h1:=f64bits x
 have h2:=f64from (strike x:Int)
 have h3:bits .andNot .u64 (x:Int) 9223372036854775808=(strike x:Int):=bits_strike x h
 clear h
 rw[Int.toNat_natCast] at h2
 go_enter func145,ntmps145
 go_wp2
 go_ret
 exact⟨rfl,rfl⟩
theorem trunc_num(x:Nat)(h:∃s m p,Ieee.double.read x=.number s m p)(w:World):Calls prog 146 #[.float .f64 x] w fun e w'=>e=.returned (.float .f64 (tr x))∧w'=w:=by
 obtain⟨s,m,p,hd⟩:=h
 have ht:∀w,_:=fun w=>run_trunc x w hd
 have e:Ieee.double.write ((Ieee.double.read x).integral .zero)=tr x:=rfl
 rw[e] at ht
 clear hd e
 go_enter func146,ntmps146
 go_wp2
 go_ret
 exact⟨rfl,rfl⟩
theorem ft_n1(x y:Nat)(hx:x<2^64)(hy:y<2^64)(qx:ordD x x=none)(w:World):Calls prog 106 #[.complex .f64 x y] w fun e w'=>e=.returned (.tuple #[.nilIface,.int .i64 13])∧w'=w:=by
 have QX:Hid _:=qx
 clear qx
 have HX:Hid _:=hx
 have HY:Hid _:=hy
 clear hx hy
 go_enter func106,ntmps106
 go_wp2_with fail
 refine(nan_yes x QX.out _).mono ?_
 rintro e w1 ⟨rfl,rfl⟩
 go_wp2
 go_ret2
 exact⟨rfl,rfl⟩
theorem ft_n2(x y:Nat)(hx:x<2^64)(hy:y<2^64)(qx:ordD x x=some .eq)(qy:ordD y y=none)(w:World):Calls prog 106 #[.complex .f64 x y] w fun e w'=>e=.returned (.tuple #[.nilIface,.int .i64 13])∧w'=w:=by
 have QX:Hid _:=qx
 clear qx
 have QY:Hid _:=qy
 clear qy
 have HX:Hid _:=hx
 have HY:Hid _:=hy
 clear hx hy
 go_enter func106,ntmps106
 go_wp2_with fail
 refine(nan_no x QX.out _).mono ?_
 rintro e w1 ⟨rfl,rfl⟩
 go_wp2_with fail
 refine(nan_yes y QY.out _).mono ?_
 rintro e w1 ⟨rfl,rfl⟩
 go_wp2
 go_ret2
 exact⟨rfl,rfl⟩
theorem ft_b1(x y:Nat)(hx:x<2^64)(hy:y<2^64)(qx:ordD x x=some .eq)(qy:ordD y y=some .eq)(bigx:bigB x=true)(w:World):Calls prog 106 #[.complex .f64 x y] w fun e w'=>e=.returned (.tuple #[.nilIface,.int .i64 11])∧w'=w:=by
 have QX:Hid _:=qx
 clear qx
 have QY:Hid _:=qy
 clear qy
 have HX:Hid _:=hx
 have HY:Hid _:=hy
 clear hx hy
 have obx:(ordD (strike x) 4719772409484279808==some .gt)=_:=bigx
 clear bigx
 go_enter func106,ntmps106
 go_wp2_with fail
 refine(nan_no x QX.out _).mono ?_
 rintro e w1 ⟨rfl,rfl⟩
 go_wp2_with fail
 refine(nan_no y QY.out _).mono ?_
 rintro e w1 ⟨rfl,rfl⟩
 go_wp2_with fail
 refine(abs_any x HX.out _).mono ?_
 rintro e w1 ⟨rfl,rfl⟩
 go_wp2
 go_ret2
 exact⟨rfl,rfl⟩
theorem ft_b2(x y:Nat)(hx:x<2^64)(hy:y<2^64)(qx:ordD x x=some .eq)(qy:ordD y y=some .eq)(bigx:bigB x=false)(bigy:bigB y=true)(w:World):Calls prog 106 #[.complex .f64 x y] w fun e w'=>e=.returned (.tuple #[.nilIface,.int .i64 11])∧w'=w:=by
 have QX:Hid _:=qx
 clear qx
 have QY:Hid _:=qy
 clear qy
 have HX:Hid _:=hx
 have HY:Hid _:=hy
 clear hx hy
 have obx:(ordD (strike x) 4719772409484279808==some .gt)=_:=bigx
 clear bigx
 have oby:(ordD (strike y) 4719772409484279808==some .gt)=_:=bigy
 clear bigy
 go_enter func106,ntmps106
 go_wp2_with fail
 refine(nan_no x QX.out _).mono ?_
 rintro e w1 ⟨rfl,rfl⟩
 go_wp2_with fail
 refine(nan_no y QY.out _).mono ?_
 rintro e w1 ⟨rfl,rfl⟩
 go_wp2_with fail
 refine(abs_any x HX.out _).mono ?_
 rintro e w1 ⟨rfl,rfl⟩
 go_wp2_with fail
 refine(abs_any y HY.out _).mono ?_
 rintro e w1 ⟨rfl,rfl⟩
 go_wp2
 go_ret2
 exact⟨rfl,rfl⟩
theorem ft_f1(x y:Nat)(hx:x<2^64)(hy:y<2^64)(qx:ordD x x=some .eq)(qy:ordD y y=some .eq)(bigx:bigB x=false)(bigy:bigB y=false)(rx:∃s m p,Ieee.double.read x=.number s m p)(fx:frB x=true)(w:World):Calls prog 106 #[.complex .f64 x y] w fun e w'=>e=.returned (.tuple #[.nilIface,.int .i64 13])∧w'=w:=by
 have QX:Hid _:=qx
 clear qx
 have QY:Hid _:=qy
 clear qy
 have RX:Hid _:=rx
 clear rx
 have HX:Hid _:=hx
 have HY:Hid _:=hy
 clear hx hy
 have obx:(ordD (strike x) 4719772409484279808==some .gt)=_:=bigx
 clear bigx
 have oby:(ordD (strike y) 4719772409484279808==some .gt)=_:=bigy
 clear bigy
 have ofx:(ordD (tr x) x != some .eq)=_:=fx
 clear fx
 go_enter func106,ntmps106
 go_wp2_with fail
 refine(nan_no x QX.out _).mono ?_
 rintro e w1 ⟨rfl,rfl⟩
 go_wp2_with fail
 refine(nan_no y QY.out _).mono ?_
 rintro e w1 ⟨rfl,rfl⟩
 go_wp2_with fail
 refine(abs_any x HX.out _).mono ?_
 rintro e w1 ⟨rfl,rfl⟩
 go_wp2_with fail
 refine(abs_any y HY.out _).mono ?_
 rintro e w1 ⟨rfl,rfl⟩
 go_wp2_with fail
 refine(trunc_num x RX.out _).mono ?_
 rintro e w1 ⟨rfl,rfl⟩
 go_wp2
 go_ret2
 exact⟨rfl,rfl⟩
theorem ft_f2(x y:Nat)(hx:x<2^64)(hy:y<2^64)(qx:ordD x x=some .eq)(qy:ordD y y=some .eq)(bigx:bigB x=false)(bigy:bigB y=false)(rx:∃s m p,Ieee.double.read x=.number s m p)(fx:frB x=false)(ry:∃s m p,Ieee.double.read y=.number s m p)(fy:frB y=true)(w:World):Calls prog 106 #[.complex .f64 x y] w fun e w'=>e=.returned (.tuple #[.nilIface,.int .i64 13])∧w'=w:=by
 have QX:Hid _:=qx
 clear qx
 have QY:Hid _:=qy
 clear qy
 have RX:Hid _:=rx
 clear rx
 have RY:Hid _:=ry
 clear ry
 have HX:Hid _:=hx
 have HY:Hid _:=hy
 clear hx hy
 have obx:(ordD (strike x) 4719772409484279808==some .gt)=_:=bigx
 clear bigx
 have oby:(ordD (strike y) 4719772409484279808==some .gt)=_:=bigy
 clear bigy
 have ofx:(ordD (tr x) x != some .eq)=_:=fx
 clear fx
 have ofy:(ordD (tr y) y != some .eq)=_:=fy
 clear fy
 go_enter func106,ntmps106
 go_wp2_with fail
 refine(nan_no x QX.out _).mono ?_
 rintro e w1 ⟨rfl,rfl⟩
 go_wp2_with fail
 refine(nan_no y QY.out _).mono ?_
 rintro e w1 ⟨rfl,rfl⟩
 go_wp2_with fail
 refine(abs_any x HX.out _).mono ?_
 rintro e w1 ⟨rfl,rfl⟩
 go_wp2_with fail
 refine(abs_any y HY.out _).mono ?_
 rintro e w1 ⟨rfl,rfl⟩
 go_wp2_with fail
 refine(trunc_num x RX.out _).mono ?_
 rintro e w1 ⟨rfl,rfl⟩
 go_wp2_with fail
 refine(trunc_num y RY.out _).mono ?_
 rintro e w1 ⟨rfl,rfl⟩
 go_wp2
 go_ret2
 exact⟨rfl,rfl⟩
theorem ft_ok(x y:Nat)(hx:x<2^64)(hy:y<2^64)(qx:ordD x x=some .eq)(qy:ordD y y=some .eq)(bigx:bigB x=false)(bigy:bigB y=false)(rx:∃s m p,Ieee.double.read x=.number s m p)(fx:frB x=false)(ry:∃s m p,Ieee.double.read y=.number s m p)(fy:frB y=false)(w:World):Calls prog 106 #[.complex .f64 x y] w fun e w'=>e=.returned (.tuple #[.iface 136 (.complex .f64 x y),.int .i64 0])∧w'=w:=by
 have QX:Hid _:=qx
 clear qx
 have QY:Hid _:=qy
 clear qy
 have RX:Hid _:=rx
 clear rx
 have RY:Hid _:=ry
 clear ry
 have HX:Hid _:=hx
 have HY:Hid _:=hy
 clear hx hy
 have obx:(ordD (strike x) 4719772409484279808==some .gt)=_:=bigx
 clear bigx
 have oby:(ordD (strike y) 4719772409484279808==some .gt)=_:=bigy
 clear bigy
 have ofx:(ordD (tr x) x != some .eq)=_:=fx
 clear fx
 have ofy:(ordD (tr y) y != some .eq)=_:=fy
 clear fy
 go_enter func106,ntmps106
 go_wp2_with fail
 refine(nan_no x QX.out _).mono ?_
 rintro e w1 ⟨rfl,rfl⟩
 go_wp2_with fail
 refine(nan_no y QY.out _).mono ?_
 rintro e w1 ⟨rfl,rfl⟩
 go_wp2_with fail
 refine(abs_any x HX.out _).mono ?_
 rintro e w1 ⟨rfl,rfl⟩
 go_wp2_with fail
 refine(abs_any y HY.out _).mono ?_
 rintro e w1 ⟨rfl,rfl⟩
 go_wp2_with fail
 refine(trunc_num x RX.out _).mono ?_
 rintro e w1 ⟨rfl,rfl⟩
 go_wp2_with fail
 refine(trunc_num y RY.out _).mono ?_
 rintro e w1 ⟨rfl,rfl⟩
 go_wp2
 go_ret2
 exact⟨rfl,rfl⟩
theorem cv_int(t:TypeId)(x:Nat)(a:Int)(h:floatToIntVal .f64 x .i64=some a)(ht:(prog.underlying t).isSome=true)(w:World):(convert t 2 (.float .f64 x)).run prog w=.ok (.int .i64 a) w:=
 run_convert_float_int w t 2 .f64 .i64 x a ht underlying2 h
theorem parts_i(x y:Nat)(a b:Int)(hx:floatToIntVal .f64 x .i64=some a)(hy:floatToIntVal .f64 y .i64=some b)(w:World) :
  Calls prog 150 #[.complex .f64 x y] w fun e w'=>e=.returned (.tuple #[.int .i64 a,.int .i64 b])∧w'=w:=by
 have c1:=fun w=>cv_int 84 x a hx (by kernel_rfl) w
 have c2:=fun w=>cv_int 84 y b hy (by kernel_rfl) w
 clear hx hy
 go_enter func150,ntmps150
 go_wp2
 go_ret2
 exact⟨rfl,rfl⟩
theorem val_i(x y:Nat)(a b:Int)(hx:floatToIntVal .f64 x .i64=some a)(hy:floatToIntVal .f64 y .i64=some b)(w:World) :
  Calls prog 255 #[.complex .f64 x y] w fun e w'=>e=.returned (V 3 a b E0)∧G w w':=by
 go_enter func255,ntmps255
 go_wp2_with fail
 refine(parts_i x y a b hx hy _).mono ?_
 rintro e w1 ⟨rfl,rfl⟩
 go_wp2
 exact bodyPost_ret (v:=V 3 a b E0) (by simp[results,results255,go_sem]) rfl ⟨rfl,by repeat(first|exact G.refl _|assumption|refine G.alloc ?_ _|refine G.drew ?_|refine G.setCell ?_ (by simp) _|refine G.trans ?_ (by assumption))⟩
theorem answer_i(x y:Nat)(a b:Int)(hx:floatToIntVal .f64 x .i64=some a)(hy:floatToIntVal .f64 y .i64=some b)(w:World) :
  Calls prog 35 #[.iface 136 (.complex .f64 x y),.int .i64 0] w fun e w'=>e=.returned (.tuple #[V 3 a b E0,.int .i64 0])∧G w w':=by
 have hm:=m_val_cpx x y
 have HV:Hid (∀w,Calls prog 255 #[.complex .f64 x y] w fun e w'=>e=.returned (V 3 a b E0)∧G w w'):=fun w=>val_i x y a b hx hy w
 clear hx hy
 go_enter func35,ntmps35
 go_wp2_with (go_at_call 255;refine(HV.out _).mono ?_;rintro e w2 ⟨rfl,hb2⟩;obtain⟨hc2,hf2⟩:=hb2.rules;have hz2:w.heap.size<w2.heap.size:=by have:=hb2.size;simp at this;omega)
 exact bodyPost_ret (v:=.tuple #[V 3 a b E0,.int .i64 0]) (by simp[results,results35,go_sem,hc2]) rfl ⟨rfl,by repeat(first|exact G.refl _|assumption|refine G.alloc ?_ _|refine G.drew ?_|refine G.setCell ?_ (by simp) _|refine G.trans ?_ (by assumption))⟩
theorem answer_er(x:Value)(c:Int)(h:(c != 0)=true)(w:World):Calls prog 35 #[x,.int .i64 c] w fun e w'=>e=.returned (.tuple #[V0,.int .i64 c])∧G w w':=by
 go_enter func35,ntmps35
 go_wp2
 exact bodyPost_ret (v:=.tuple #[V0,.int .i64 c]) (by simp[results,results35,go_sem]) rfl ⟨rfl,by repeat(first|exact G.refl _|assumption|refine G.alloc ?_ _|refine G.drew ?_|refine G.setCell ?_ (by simp) _|refine G.trans ?_ (by assumption))⟩
theorem fc_of(x y:Nat)(q:Value)(c:Int)(k a b c':Int)(h1:∀w,Calls prog 106 #[.complex .f64 x y] w fun e w'=>e=.returned (.tuple #[q,.int .i64 c])∧w'=w)
  (h2:∀w,Calls prog 35 #[q,.int .i64 c] w fun e w'=>e=.returned (.tuple #[V k a b E0,.int .i64 c'])∧G w w') (w:World):Calls prog 64 #[.complex .f64 x y] w fun e w'=>e=.returned (.tuple #[V k a b E0,.int .i64 c'])∧G w w':=by
 have H1:Hid _:=h1
 have H2:Hid _:=h2
 clear h1 h2
 go_enter func64,ntmps64
 go_wp2_with fail
 refine(H1.out _).mono ?_
 rintro e w1 ⟨rfl,rfl⟩
 go_wp2_with fail
 refine(H2.out _).mono ?_
 rintro e w2 ⟨rfl,hb2⟩
 obtain⟨hc2,hf2⟩:=hb2.rules
 have hz2:=hb2.size
 go_wp2
 exact bodyPost_ret (v:=.tuple #[V k a b E0,.int .i64 c']) (by simp[results,results64,go_sem,hc2]) rfl ⟨rfl,by repeat(first|exact G.refl _|assumption|refine G.alloc ?_ _|refine G.drew ?_|refine G.setCell ?_ (by simp) _|refine G.trans ?_ (by assumption))⟩
end
section
open Go.RowKit
theorem rpair_any(a b:Int)(w:World):Calls prog 80 #[.int .i64 a,.int .i64 b] w fun e w'=>e=.returned (V 3 a b E0)∧G w w':=by
 go_enter func80,ntmps80
 go_wp2
 exact bodyPost_ret (v:=V 3 a b E0) (by simp[results,results80,go_sem]) rfl ⟨rfl,by repeat(first|exact G.refl _|assumption|refine G.alloc ?_ _|refine G.drew ?_|refine G.setCell ?_ (by simp) _|refine G.trans ?_ (by assumption))⟩
theorem rfp_n1(x y:Nat)(qx:ordD x x=none)(w:World):Calls prog 65 #[.float .f64 x,.float .f64 y] w fun e w'=>e=.returned (.tuple #[V0,.int .i64 13])∧G w w':=by
 go_enter func65,ntmps65
 go_wp2
 exact bodyPost_ret (v:=.tuple #[V0,.int .i64 13]) (by simp[results,results65,go_sem]) rfl ⟨rfl,by repeat(first|exact G.refl _|assumption|refine G.alloc ?_ _|refine G.drew ?_|refine G.setCell ?_ (by simp) _|refine G.trans ?_ (by assumption))⟩
theorem rfp_n2(x y:Nat)(qx:ordD x x=some .eq)(qy:ordD y y=none)(w:World):Calls prog 65 #[.float .f64 x,.float .f64 y] w fun e w'=>e=.returned (.tuple #[V0,.int .i64 13])∧G w w':=by
 go_enter func65,ntmps65
 go_wp2
 exact bodyPost_ret (v:=.tuple #[V0,.int .i64 13]) (by simp[results,results65,go_sem]) rfl ⟨rfl,by repeat(first|exact G.refl _|assumption|refine G.alloc ?_ _|refine G.drew ?_|refine G.setCell ?_ (by simp) _|refine G.trans ?_ (by assumption))⟩
theorem rfp_b1(x y:Nat)(qx:ordD x x=some .eq)(qy:ordD y y=some .eq)(lx:(ordD x 13943144446339055616==some .lt)=true)(w:World):Calls prog 65 #[.float .f64 x,.float .f64 y] w fun e w'=>e=.returned (.tuple #[V0,.int .i64 11])∧G w w':=by
 go_enter func65,ntmps65
 go_wp2
 exact bodyPost_ret (v:=.tuple #[V0,.int .i64 11]) (by simp[results,results65,go_sem]) rfl ⟨rfl,by repeat(first|exact G.refl _|assumption|refine G.alloc ?_ _|refine G.drew ?_|refine G.setCell ?_ (by simp) _|refine G.trans ?_ (by assumption))⟩
theorem rfp_b2(x y:Nat)(qx:ordD x x=some .eq)(qy:ordD y y=some .eq)(lx:(ordD x 13943144446339055616==some .lt)=false)(gx:(ordD x 4719772409484279808==some .gt)=true)(w:World):Calls prog 65 #[.float .f64 x,.float .f64 y] w fun e w'=>e=.returned (.tuple #[V0,.int .i64 11])∧G w w':=by
 go_enter func65,ntmps65
 go_wp2
 exact bodyPost_ret (v:=.tuple #[V0,.int .i64 11]) (by simp[results,results65,go_sem]) rfl ⟨rfl,by repeat(first|exact G.refl _|assumption|refine G.alloc ?_ _|refine G.drew ?_|refine G.setCell ?_ (by simp) _|refine G.trans ?_ (by assumption))⟩
theorem rfp_b3(x y:Nat)(qx:ordD x x=some .eq)(qy:ordD y y=some .eq)(lx:(ordD x 13943144446339055616==some .lt)=false)(gx:(ordD x 4719772409484279808==some .gt)=false)(ly:(ordD y 13943144446339055616==some .lt)=true)(w:World):Calls prog 65 #[.float .f64 x,.float .f64 y] w fun e w'=>e=.returned (.tuple #[V0,.int .i64 11])∧G w w':=by
 go_enter func65,ntmps65
 go_wp2
 exact bodyPost_ret (v:=.tuple #[V0,.int .i64 11]) (by simp[results,results65,go_sem]) rfl ⟨rfl,by repeat(first|exact G.refl _|assumption|refine G.alloc ?_ _|refine G.drew ?_|refine G.setCell ?_ (by simp) _|refine G.trans ?_ (by assumption))⟩
theorem rfp_b4(x y:Nat)(qx:ordD x x=some .eq)(qy:ordD y y=some .eq)(lx:(ordD x 13943144446339055616==some .lt)=false)(gx:(ordD x 4719772409484279808==some .gt)=false)(ly:(ordD y 13943144446339055616==some .lt)=false)(gy:(ordD y 4719772409484279808==some .gt)=true)(w:World):Calls prog 65 #[.float .f64 x,.float .f64 y] w fun e w'=>e=.returned (.tuple #[V0,.int .i64 11])∧G w w':=by
 go_enter func65,ntmps65
 go_wp2
 exact bodyPost_ret (v:=.tuple #[V0,.int .i64 11]) (by simp[results,results65,go_sem]) rfl ⟨rfl,by repeat(first|exact G.refl _|assumption|refine G.alloc ?_ _|refine G.drew ?_|refine G.setCell ?_ (by simp) _|refine G.trans ?_ (by assumption))⟩
theorem rfp_f1(x y:Nat)(qx:ordD x x=some .eq)(qy:ordD y y=some .eq)(lx:(ordD x 13943144446339055616==some .lt)=false)(gx:(ordD x 4719772409484279808==some .gt)=false)(ly:(ordD y 13943144446339055616==some .lt)=false)(gy:(ordD y 4719772409484279808==some .gt)=false)(n m:Int)(ix:floatToIntVal .f64 x .i64=some n)(iy:floatToIntVal .f64 y .i64=some m)(dx:(ordD (floatOfInt .f64 n) x != some .eq)=true)(w:World):Calls prog 65 #[.float .f64 x,.float .f64 y] w fun e w'=>e=.returned (.tuple #[V0,.int .i64 13])∧G w w':=by
 have c1:=fun w=>cv_int 84 x n ix (by kernel_rfl) w
 have c2:=fun w=>cv_int 84 y m iy (by kernel_rfl) w
 clear ix iy
 go_enter func65,ntmps65
 go_wp2
 exact bodyPost_ret (v:=.tuple #[V0,.int .i64 13]) (by simp[results,results65,go_sem]) rfl ⟨rfl,by repeat(first|exact G.refl _|assumption|refine G.alloc ?_ _|refine G.drew ?_|refine G.setCell ?_ (by simp) _|refine G.trans ?_ (by assumption))⟩
theorem rfp_f2(x y:Nat)(qx:ordD x x=some .eq)(qy:ordD y y=some .eq)(lx:(ordD x 13943144446339055616==some .lt)=false)(gx:(ordD x 4719772409484279808==some .gt)=false)(ly:(ordD y 13943144446339055616==some .lt)=false)(gy:(ordD y 4719772409484279808==some .gt)=false)(n m:Int)(ix:floatToIntVal .f64 x .i64=some n)(iy:floatToIntVal .f64 y .i64=some m)(dx:(ordD (floatOfInt .f64 n) x != some .eq)=false)(dy:(ordD (floatOfInt .f64 m) y != some .eq)=true)(w:World):Calls prog 65 #[.float .f64 x,.float .f64 y] w fun e w'=>e=.returned (.tuple #[V0,.int .i64 13])∧G w w':=by
 have c1:=fun w=>cv_int 84 x n ix (by kernel_rfl) w
 have c2:=fun w=>cv_int 84 y m iy (by kernel_rfl) w
 clear ix iy
 go_enter func65,ntmps65
 go_wp2
 exact bodyPost_ret (v:=.tuple #[V0,.int .i64 13]) (by simp[results,results65,go_sem]) rfl ⟨rfl,by repeat(first|exact G.refl _|assumption|refine G.alloc ?_ _|refine G.drew ?_|refine G.setCell ?_ (by simp) _|refine G.trans ?_ (by assumption))⟩
theorem rfp_ok(x y:Nat)(qx:ordD x x=some .eq)(qy:ordD y y=some .eq)(lx:(ordD x 13943144446339055616==some .lt)=false)(gx:(ordD x 4719772409484279808==some .gt)=false)(ly:(ordD y 13943144446339055616==some .lt)=false)(gy:(ordD y 4719772409484279808==some .gt)=false)(n m:Int)(ix:floatToIntVal .f64 x .i64=some n)(iy:floatToIntVal .f64 y .i64=some m)(dx:(ordD (floatOfInt .f64 n) x != some .eq)=false)(dy:(ordD (floatOfInt .f64 m) y != some .eq)=false)(w:World):Calls prog 65 #[.float .f64 x,.float .f64 y] w fun e w'=>e=.returned (.tuple #[V 3 n m E0,.int .i64 0])∧G w w':=by
 have c1:=fun w=>cv_int 84 x n ix (by kernel_rfl) w
 have c2:=fun w=>cv_int 84 y m iy (by kernel_rfl) w
 clear ix iy
 go_enter func65,ntmps65
 go_wp2_with fail
 refine(rpair_any n m _).mono ?_
 rintro e w1 ⟨rfl,hb1⟩
 obtain⟨hc1,hf1⟩:=hb1.rules
 have hz1:w.heap.size<w1.heap.size:=by have:=hb1.size;simp at this;omega
 go_wp2
 exact bodyPost_ret (v:=.tuple #[V 3 n m E0,.int .i64 0]) (by simp[results,results65,go_sem,hc1]) rfl ⟨rfl,by repeat(first|exact G.refl _|assumption|refine G.alloc ?_ _|refine G.drew ?_|refine G.setCell ?_ (by simp) _|refine G.trans ?_ (by assumption))⟩
theorem fc_both(x y:Nat)(hx:x<2^64)(hy:y<2^64):∃(k a b c:Int),
  (∀w,Calls prog 64 #[.complex .f64 x y] w fun e w'=>e=.returned (.tuple #[V k a b E0,.int .i64 c])∧G w w')∧
  (∀w,Calls prog 65 #[.float .f64 x,.float .f64 y] w fun e w'=>e=.returned (.tuple #[V k a b E0,.int .i64 c])∧G w w'):=by
 rcases dbl_cases x hx with h|⟨q1,b1,l1⟩|⟨q1,b1,l1,g1,r1,n,hn,i1,t1,d1⟩
 ·exact⟨0,0,0,13,fc_of x y _ 13 0 0 0 13 (ft_n1 x y hx hy h) (answer_er _ 13 (by decide)),rfp_n1 x y h⟩
 all_goals rcases dbl_cases y hy with h'|⟨q2,b2,l2⟩|⟨q2,b2,l2,g2,r2,m,hm,i2,t2,d2⟩
 ·exact⟨0,0,0,13,fc_of x y _ 13 0 0 0 13 (ft_n2 x y hx hy q1 h') (answer_er _ 13 (by decide)),rfp_n2 x y q1 h'⟩
 iterate 2
  ·refine⟨0,0,0,11,fc_of x y _ 11 0 0 0 11 (ft_b1 x y hx hy q1 q2 b1) (answer_er _ 11 (by decide)),?_⟩
   rcases l1 with l1|⟨l1,g1⟩
   ·exact rfp_b1 x y q1 q2 l1
   ·exact rfp_b2 x y q1 q2 l1 g1
 ·exact⟨0,0,0,13,fc_of x y _ 13 0 0 0 13 (ft_n2 x y hx hy q1 h') (answer_er _ 13 (by decide)),rfp_n2 x y q1 h'⟩
 ·refine⟨0,0,0,11,fc_of x y _ 11 0 0 0 11 (ft_b2 x y hx hy q1 q2 b1 b2) (answer_er _ 11 (by decide)),?_⟩
  rcases l2 with l2|⟨l2,g2⟩
  ·exact rfp_b3 x y q1 q2 l1 g1 l2
  ·exact rfp_b4 x y q1 q2 l1 g1 l2 g2
 ·cases e1:frB x
  ·cases e2:frB y
   ·exact⟨3,n,m,0,fc_of x y _ 0 3 n m 0 (ft_ok x y hx hy q1 q2 b1 b2 r1 e1 r2 e2) (answer_i x y n m i1 i2),rfp_ok x y q1 q2 l1 g1 l2 g2 n m i1 i2 (d1.trans e1) (d2.trans e2)⟩
   ·exact⟨0,0,0,13,fc_of x y _ 13 0 0 0 13 (ft_f2 x y hx hy q1 q2 b1 b2 r1 e1 r2 e2) (answer_er _ 13 (by decide)),rfp_f2 x y q1 q2 l1 g1 l2 g2 n m i1 i2 (d1.trans e1) (d2.trans e2)⟩
  ·exact⟨0,0,0,13,fc_of x y _ 13 0 0 0 13 (ft_f1 x y hx hy q1 q2 b1 b2 r1 e1) (answer_er _ 13 (by decide)),rfp_f1 x y q1 q2 l1 g1 l2 g2 n m i1 i2 (d1.trans e1)⟩
end
end Go.Proofs.YthmdjhfbhbheeaaGreatDoor
