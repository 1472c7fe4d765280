import Derived.BigQuiet
import Derived.Test.YthmdjhfbhbheeaaGreatDoorCmp2
namespace Go.Proofs.YthmdjhfbhbheeaaGreatDoor
open Go.Proofs.Tryz
set_option maxHeartbeats 1000000
set_option maxRecDepth 100000
section
open Go.RowKit Go.Lib Go.Shelf
theorem zNk :IVal (.iface 110 (.agg #[])) 0 0 0 E0:=⟨_,235,_,rfl,zC2,fun w=>by simp[go_sem],zD5⟩
theorem zJg(n:Int):IVal (.iface 135 (.int .i64 n)) 2 n 0 E0:=⟨_,247,_,rfl,zCf n,fun w=>by simp[go_sem],zDq n⟩
theorem zRg(t:ByteArray):IVal (.iface 137 (.string t)) 4 0 0 t:=⟨_,260,_,rfl,zEG t,fun w=>by simp[go_sem],zHn t⟩
theorem zTE(n:Int):IVal (.iface 138 (.int .i64 n)) 5 n 0 E0:=⟨_,268,_,rfl,zDM n,fun w=>by simp[go_sem],zFE n⟩
theorem zTF(n:Int):IVal (.iface 139 (.int .i64 n)) 6 n 0 E0:=⟨_,273,_,rfl,zDN n,fun w=>by simp[go_sem],zFF n⟩
theorem zXU:IVal (.iface 111 (.bool false)) 1 0 0 E0:=⟨_,240,_,rfl,zEd,fun w=>by simp[go_sem],zGt⟩
theorem zXT:IVal (.iface 111 (.bool true)) 1 1 0 E0:=⟨_,240,_,rfl,zEc,fun w=>by simp[go_sem],zGs⟩
theorem zRh(x y:Nat)(a b:Int)(hx:Fl x a)(hy:Fl y b)(ha:a.natAbs<2^53)(hb:b.natAbs<2^53):IVal (.iface 136 (.complex .f64 x y)) 3 a b E0:=
 ⟨_,255,_,rfl,zCI x y,fun w=>by simp[go_sem],zFG x y a b hx hy ha hb⟩
theorem ok_5{a b:Int}{s:ByteArray}(h:okV 5 a b s=true):b=0∧s=E0:=by
 simp[okV,Bool.and_eq_true] at h;exact⟨h.1.2,zBY (List.isEmpty_iff.2 h.2)⟩
theorem ok_6{a b:Int}{s:ByteArray}(h:okV 6 a b s=true):b=0∧s=E0:=by
 simp[okV,Bool.and_eq_true] at h;exact⟨h.1.2,zBY (List.isEmpty_iff.2 h.2)⟩
theorem zAA(k a b:Int)(s:ByteArray)(hok:okV k a b s=true):IVal (zAb k a b s) k a b s:=by
 have hk:=zAp k a b s hok
 have:k=0∨k=1∨k=2∨k=3∨k=4∨k=5∨k=6:=by omega
 rcases this with rfl|rfl|rfl|rfl|rfl|rfl|rfl
 ·obtain⟨rfl,rfl,rfl⟩:=ok_0 hok
  rw[zEK hok];exact zNk
 ·obtain⟨h,rfl,rfl⟩:=ok_1 hok
  rw[zDu hok]
  rcases h with rfl|rfl
  ·exact zXU
  ·exact zXT
 ·obtain⟨rfl,rfl⟩:=ok_2 hok
  rw[zAP hok];exact zJg a
 ·obtain⟨⟨a1,a2⟩,⟨b1,b2⟩,rfl⟩:=ok_3 hok
  rw[zBO hok];exact zRh _ _ a b (Fl.ofInt a (by omega)) (Fl.ofInt b (by omega)) (by omega) (by omega)
 ·obtain⟨rfl,rfl,_,_⟩:=ok_4 hok
  rw[zBB hok];exact zRg s
 ·obtain⟨rfl,rfl⟩:=ok_5 hok
  rw[zE4 hok];exact zTE a
 ·obtain⟨rfl,rfl⟩:=ok_6 hok
  rw[zE3 hok];exact zTF a
end
section
open Go.RowKit Go.Lib Go.PlainAid
theorem rnum(x y:Int)(w:World):Calls prog 50 #[.int .i64 x,.int .i64 y] w fun e w'=>e=.returned (.int .i64 (cI x y))∧w'=w:=by
 unfold cI
 by_cases h1:x<y
 ·go_enter func50,ntmps50
  go_wp2
  go_ret;exact⟨by first|rfl|(simp;done),rfl⟩
 ·by_cases h2:y<x
  iterate 2
   ·go_enter func50,ntmps50
    go_wp2
    go_ret;exact⟨by first|rfl|(simp;done),rfl⟩
def rkR(k:Int):Int:=if k=5 then 1 else if k=6 then 2 else if k=4 then 3 else if k=1 then 4 else if k=2 then 5 else if k=3 then 5 else 6
theorem rrank(k a b:Int)(s:ByteArray)(w:World):CG 51 #[V k a b s] w (.int .i64 (rkR k)):=by
 by_cases h5:k=5
 ·subst h5
  rw[show rkR 5=1 by decide]
  go_enter func51,ntmps51
  go_wp2
  go_ret;exact⟨rfl,(G.refl _).alloc _⟩
 by_cases h6:k=6
 ·subst h6
  rw[show rkR 6=2 by decide]
  go_enter func51,ntmps51
  go_wp2
  go_ret;exact⟨rfl,(G.refl _).alloc _⟩
 by_cases h4:k=4
 ·subst h4
  rw[show rkR 4=3 by decide]
  go_enter func51,ntmps51
  go_wp2
  go_ret;exact⟨rfl,(G.refl _).alloc _⟩
 by_cases h1:k=1
 ·subst h1
  rw[show rkR 1=4 by decide]
  go_enter func51,ntmps51
  go_wp2
  go_ret;exact⟨rfl,(G.refl _).alloc _⟩
 by_cases h2:k=2
 ·subst h2
  rw[show rkR 2=5 by decide]
  go_enter func51,ntmps51
  go_wp2
  go_ret;exact⟨rfl,(G.refl _).alloc _⟩
 by_cases h3:k=3
 ·subst h3
  rw[show rkR 3=5 by decide]
  go_enter func51,ntmps51
  go_wp2
  go_ret;exact⟨rfl,(G.refl _).alloc _⟩
 have n5:(k==5)=false:=by simpa using h5
 have n6:(k==6)=false:=by simpa using h6
 have n4:(k==4)=false:=by simpa using h4
 have n1:(k==1)=false:=by simpa using h1
 have n2:(k==2)=false:=by simpa using h2
 have n3:(k==3)=false:=by simpa using h3
 rw[show rkR k=6 by simp[rkR,h5,h6,h4,h1,h2,h3]];clear h5 h6 h4 h1 h2 h3
 go_enter func51,ntmps51
 go_wp2
 go_ret;exact⟨rfl,(G.refl _).alloc _⟩
theorem G.drewK{a w:World}(h:G a w)(n:Nat):G a (w.drewN n):=⟨h.os,h.tape,h.output,h.size,h.block⟩
theorem zNG(s:ByteArray)(i:Nat)(h:i<s.size):∃x:UInt8,s.data.toList.drop i=x::s.data.toList.drop (i+1)∧(x.toNat:Int)=bt s i:=by
 have hl:i<s.data.toList.length:=by simpa using h
 refine⟨s.data.toList[i],List.drop_eq_getElem_cons hl,?_⟩;unfold bt;rw[dif_pos h];rfl
theorem zWR(a b:List UInt8)(h:a=[]∨b=[]):compareBytes a b=cI a.length b.length:=by
 unfold cI
 rcases h with rfl|rfl
 ·cases b with
  | nil=>rfl
  | cons x t=>simp[compareBytes]
 ·cases a with
  | nil=>rfl
  | cons x t=>
   have h1:¬((t.length:Int)+1<0):=by omega
   have h2:(0:Int)<(t.length:Int)+1:=by omega
   simp[compareBytes,h1,h2]
theorem zUm(a b:ByteArray)(m:Nat)(h1:m<a.size)(h2:m<b.size) :
  compareBytes (a.data.toList.drop m) (b.data.toList.drop m)=if bt a m<bt b m then -1 else if bt b m<bt a m then 1 else compareBytes (a.data.toList.drop (m+1)) (b.data.toList.drop (m+1)):=by
 obtain⟨x,ex,hx⟩:=zNG a m h1;obtain⟨y,ey,hy⟩:=zNG b m h2;rw[ex,ey,←hx,←hy]
 have l1:(x<y)↔((x.toNat:Int)<(y.toNat:Int)):=by rw[UInt8.lt_iff_toNat_lt];omega
 have l2:(y<x)↔((y.toNat:Int)<(x.toNat:Int)):=by rw[UInt8.lt_iff_toNat_lt];omega
 simp only[compareBytes,l1,l2]
theorem rtexts(a b:ByteArray)(ha:a.size≤4611686018427387904)(hb:b.size≤4611686018427387904)(w:World) :
  CG 52 #[.string a,.string b] w (.int .i64 (compareBytes a.data.toList b.data.toList)):=by
 have hba:=get_bt a;have hbb:=get_bt b;have HQ:∀m,Hid (m<a.size→m<b.size→_):=fun m=>zUm a b m;have HN:Hid _:=zWR;generalize hg:compareBytes a.data.toList b.data.toList=g;have HG:Hid _:=hg;clear hg
 go_enter func52,ntmps52
 go_wp2
 go_loopw [5] (fun i W=>∃m:Nat,m≤a.size∧m≤b.size∧i=.int .i64 m∧G w W∧Hid (compareBytes (a.data.toList.drop m) (b.data.toList.drop m)=g)) (fun i _=>a.size-(RowKit.intOf i).toNat)
 case atStart=>exact⟨0,by omega,by omega,rfl,G.refl _,HG.out⟩
 case round=>
  obtain⟨m,hm1,hm2,rfl,hG,HI⟩:=hrel;have HW:Hid (G w wr):=hG;clear hG
  by_cases h1:m<a.size
  ·by_cases h2:m<b.size
   ·have HS:Hid _:=(HQ m).out h1 h2
    have i1:(m:Int)<(a.size:Int):=by omega
    have i2:(m:Int)<(b.size:Int):=by omega
    by_cases c1:bt a m<bt b m
    ·go_wp2
     go_quiet (fail)
     go_wp2
     go_ret;have:=HS.out;rw[HI.out,if_pos c1] at this;exact⟨by rw[this];rfl,by first|exact(HW.out.drewK _).drewK _|exact HW.out.drewK _⟩
    ·by_cases c2:bt b m<bt a m
     ·go_wp2
      go_quiet (fail)
      go_wp2
      go_quiet (fail)
      go_wp2
      go_ret;have:=HS.out;rw[HI.out,if_neg (Int.not_lt.2 c1),if_pos c2] at this;exact⟨by rw[this];rfl,by first|exact(HW.out.drewK _).drewK _|exact HW.out.drewK _⟩
     ·go_wp2
      go_quiet (fail)
      go_wp2
      go_quiet (fail)
      go_wp2
      go_roundw
      case rel=>
       have:=HS.out;rw[HI.out,if_neg (Int.not_lt.2 c1),if_neg (Int.not_lt.2 c2)] at this;exact⟨m+1,by omega,by omega,by go_num,by first|exact HW.out.drewK _|exact(HW.out.drewK _).drewK _,this.symm⟩
      case measure=>simp[RowKit.intOf];omega
   ·have i1:(m:Int)<(a.size:Int):=by omega
    have i2:¬(m:Int)<(b.size:Int):=by omega
    go_wp2_with (go_at_call 50;refine(rnum _ _ _).mono ?_;rintro e w1 ⟨rfl,rfl⟩)
    go_ret;have:=HN.out (a.data.toList.drop m) (b.data.toList.drop m) (.inr (List.drop_eq_nil_of_le (by simp;exact Nat.not_lt.1 h2)));rw[HI.out] at this;refine⟨?_,HW.out⟩;rw[this];unfold cI
    have l1:(a.data.toList.drop m).length=a.size-m:=by simp
    have l2:(b.data.toList.drop m).length=b.size-m:=by simp
    rw[l1,l2]
    have e1:((a.size:Int)<(b.size:Int))↔(((a.size-m:Nat):Int)<((b.size-m:Nat):Int)):=by omega
    have e2:((b.size:Int)<(a.size:Int))↔(((b.size-m:Nat):Int)<((a.size-m:Nat):Int)):=by omega
    simp only[e1,e2];rfl
  ·have i1:¬(m:Int)<(a.size:Int):=by omega
   go_wp2_with (go_at_call 50;refine(rnum _ _ _).mono ?_;rintro e w1 ⟨rfl,rfl⟩)
   go_ret;have:=HN.out (a.data.toList.drop m) (b.data.toList.drop m) (.inl (List.drop_eq_nil_of_le (by simp;exact Nat.not_lt.1 h1)));rw[HI.out] at this;refine⟨?_,HW.out⟩;rw[this];unfold cI
   have l1:(a.data.toList.drop m).length=a.size-m:=by simp
   have l2:(b.data.toList.drop m).length=b.size-m:=by simp
   rw[l1,l2]
   have e1:((a.size:Int)<(b.size:Int))↔(((a.size-m:Nat):Int)<((b.size-m:Nat):Int)):=by omega
   have e2:((b.size:Int)<(a.size:Int))↔(((b.size-m:Nat):Int)<((a.size-m:Nat):Int)):=by omega
   simp only[e1,e2];rfl
end
section
open Go.RowKit Go.Lib Go.PlainAid
section keep2
variable {w W W':World} {b c:Nat} {f g:Nat→Option Value}
def Two(w:World)(b c:Nat)(f g:Nat→Option Value)(W:World):Prop:=(∀o,W.cell? ⟨b,o,none⟩=f o)∧(∀o,W.cell? ⟨c,o,none⟩=g o)∧(∀o,W.frozen? ⟨b,o,none⟩=false)∧(∀o,W.frozen? ⟨c,o,none⟩=false)∧G w W∧b<W.heap.size∧c<W.heap.size
theorem Two.keep(hb:G W W')(h:Two w b c f g W):Two w b c f g W':=
 ⟨G.cells hb h.1 h.2.2.2.2.2.1,G.cells hb h.2.1 h.2.2.2.2.2.2,G.frozens hb h.2.2.1 h.2.2.2.2.2.1,G.frozens hb h.2.2.2.1 h.2.2.2.2.2.2,h.2.2.2.2.1.trans hb,Nat.lt_of_lt_of_le h.2.2.2.2.2.1 hb.size,Nat.lt_of_lt_of_le h.2.2.2.2.2.2 hb.size⟩
end keep2
section keep22
variable {w W W':World} {b c:Nat} {f g:Nat→Option Value}
theorem zV6(h1:∀o,W.cell? ⟨b,o,none⟩=f o)(h2:∀o,W.cell? ⟨c,o,none⟩=g o)(h3:G w W)(h4:b<W.heap.size)(h5:c<W.heap.size)(hb:G W W'):(∀o,W'.cell? ⟨b,o,none⟩=f o)∧(∀o,W'.cell? ⟨c,o,none⟩=g o)∧G w W'∧b<W'.heap.size∧c<W'.heap.size:=
 ⟨G.cells hb h1 h4,G.cells hb h2 h5,h3.trans hb,Nat.lt_of_lt_of_le h4 hb.size,Nat.lt_of_lt_of_le h5 hb.size⟩
theorem zA5(hb:G W W')(h:(∀o,W.cell? ⟨b,o,none⟩=f o)∧(∀o,W.cell? ⟨c,o,none⟩=g o)∧G w W∧b<W.heap.size∧c<W.heap.size):(∀o,W'.cell? ⟨b,o,none⟩=f o)∧(∀o,W'.cell? ⟨c,o,none⟩=g o)∧G w W'∧b<W'.heap.size∧c<W'.heap.size:=
 zV6 h.1 h.2.1 h.2.2.1 h.2.2.2.1 h.2.2.2.2 hb
theorem zBN(h:(∀o,W.cell? ⟨b,o,none⟩=f o)∧(∀o,W.cell? ⟨c,o,none⟩=g o)∧G w W∧b<W.heap.size∧c<W.heap.size):(∀o,W.drew.cell? ⟨b,o,none⟩=f o)∧(∀o,W.drew.cell? ⟨c,o,none⟩=g o)∧G w W.drew∧b<W.drew.heap.size∧c<W.drew.heap.size:=
 zA5 (G.refl _).drew h
end keep22
theorem zAM(w:World)(p:Addr)(v:Value):(w.setCell p v).heap.size=w.heap.size:=by simp[go_sem]
theorem zA6(w:World)(p q:Addr)(v:Value):(w.setCell p v).frozen? q=w.frozen? q:=by simp[go_sem]
theorem zD7{W:World}{B i:Nat}{x y:Value}(h:W.cell? ⟨B,i,none⟩=some x):(W.setCell ⟨B,i,none⟩ y).cell? ⟨B,i,none⟩=some y:=World.cell?_setCell_same _ _ _ h
theorem zAs{W:World}{B i b o:Nat}{y:Value}(h:¬(B=b∧i=o)):(W.setCell ⟨B,i,none⟩ y).cell? ⟨b,o,none⟩=W.cell? ⟨b,o,none⟩:=
 World.cell?_setCell_other _ _ _ _ (fun e=>h (by cases e;exact⟨rfl,rfl⟩))
theorem zNW(W:World)(B:Nat)(x0 x1 x2 x3 y0 y1 y2 y3:Value)(h:∀o,W.cell? ⟨B,o,none⟩=[x0,x1,x2,x3][o]?) :
  ∀o,((((W.setCell ⟨B,0,none⟩ y0).setCell ⟨B,1,none⟩ y1).setCell ⟨B,2,none⟩ y2).setCell ⟨B,3,none⟩ y3).cell? ⟨B,o,none⟩=[y0,y1,y2,y3][o]?:=by
 intro o;have h0:W.cell? ⟨B,0,none⟩=some x0:=h 0;have h1:W.cell? ⟨B,1,none⟩=some x1:=h 1;have h2:W.cell? ⟨B,2,none⟩=some x2:=h 2;have h3:W.cell? ⟨B,3,none⟩=some x3:=h 3
 by_cases e0:o=0
 ·subst e0
  rw[zAs (by omega),zAs (by omega),zAs (by omega),zD7 h0];rfl
 by_cases e1:o=1
 ·subst e1
  rw[zAs (by omega),zAs (by omega),zD7 (x:=x1) (by rw[zAs (by omega)];exact h1)];rfl
 by_cases e2:o=2
 ·subst e2
  rw[zAs (by omega),zD7 (x:=x2) (by rw[zAs (by omega),zAs (by omega)];exact h2)];rfl
 by_cases e3:o=3
 ·subst e3
  rw[zD7 (x:=x3) (by rw[zAs (by omega),zAs (by omega),zAs (by omega)];exact h3)];rfl
 rw[zAs (by omega),zAs (by omega),zAs (by omega),zAs (by omega),h];have a1:[x0,x1,x2,x3][o]?=none:=List.getElem?_eq_none (by simp;omega);have a2:[y0,y1,y2,y3][o]?=none:=List.getElem?_eq_none (by simp;omega);rw[a1,a2]
theorem zNX(W:World)(B b:Nat)(hb:B≠b)(y0 y1 y2 y3:Value) :
  ∀o,((((W.setCell ⟨B,0,none⟩ y0).setCell ⟨B,1,none⟩ y1).setCell ⟨B,2,none⟩ y2).setCell ⟨B,3,none⟩ y3).cell? ⟨b,o,none⟩=W.cell? ⟨b,o,none⟩:=by
 intro o;rw[zAs (by omega),zAs (by omega),zAs (by omega),zAs (by omega)]
theorem zBr{w W:World}{B c:Nat}{x0 x1 x2 x3:Value}{g:Nat→Option Value}(y0 y1 y2 y3:Value)(hc:B≠c)(hw:w.heap.size≤B)(h:Two w B c (fun o=>[x0,x1,x2,x3][o]?) g W) :
  Two w B c (fun o=>[y0,y1,y2,y3][o]?) g ((((W.setCell ⟨B,0,none⟩ y0).setCell ⟨B,1,none⟩ y1).setCell ⟨B,2,none⟩ y2).setCell ⟨B,3,none⟩ y3):=by
 obtain⟨h1,h2,f1,f2,h3,h4,h5⟩:=h;refine⟨zNW W B x0 x1 x2 x3 y0 y1 y2 y3 h1,fun o=>by rw[zNX W B c hc];exact h2 o,fun o=>by rw[zA6,zA6,zA6,zA6];exact f1 o,fun o=>by rw[zA6,zA6,zA6,zA6];exact f2 o,?_,?_,?_⟩
 ·exact(((h3.setCell hw _).setCell hw _).setCell hw _).setCell hw _
 ·rw[zAM,zAM,zAM,zAM];exact h4
 ·rw[zAM,zAM,zAM,zAM];exact h5
theorem zAI{w W:World}{b c:Nat}{f g:Nat→Option Value}(h:Two w b c f g W):Two w c b g f W:=⟨h.2.1,h.1,h.2.2.2.1,h.2.2.1,h.2.2.2.2.1,h.2.2.2.2.2.2,h.2.2.2.2.2.1⟩
def cmpR(k k' a b a' b':Int)(s s':ByteArray):Int:=or5 (cI (rkR k) (rkR k')) (compareBytes s.data.toList s'.data.toList) (cI a a') (cI k k') (cI b b')
theorem zSJ(k a b k' a' b':Int)(s s':ByteArray)(h1:∀w,CG 26 #[V k a b s] w (.bool false))(h2:∀w,CG 26 #[V k' a' b' s'] w (.bool false))(w:World) :
  CG 19 #[V k a b s,V k' a' b' s'] w (.int .i64 (cmpR 0 0 0 0 0 0 E0 E0)):=by
 have H1:Hid _:=h1;have H2:Hid _:=h2;have H3:Hid _:=rtexts E0 E0 (by decide) (by decide);unfold cmpR;generalize hc1:compareBytes E0.data.toList E0.data.toList=c1 at H3⊢
 have HC:Hid (c1=0):=by rw[←hc1];rfl
 clear hc1
 have hz0:w.heap.size<w.heap.size+1+1:=by omega
 clear h1 h2
 go_enter func19,ntmps19
 go_wp2_with fail
 refine(H1.out _).mono ?_;rintro e w1 ⟨rfl,hb1⟩
 have hP:Two w w.heap.size (w.heap.size+1) (fun o=>[I k,I a,I b,Value.string s][o]?) (fun o=>[I k',I a',I b',Value.string s'][o]?) w1:=
  Two.keep hb1 ⟨fun o=>by simp,fun o=>by simp,fun o=>by simp,fun o=>by simp,((G.refl w).alloc _).alloc _,by simp;omega,by simp⟩
 clear hb1;obtain⟨hA1,hB1,hF1,hE1,hg1,hz1,hz1'⟩:=hP;have hP:Two w w.heap.size (w.heap.size+1) (fun o=>[I k,I a,I b,Value.string s][o]?) (fun o=>[I k',I a',I b',Value.string s'][o]?) w1:=⟨hA1,hB1,hF1,hE1,hg1,hz1,hz1'⟩
 go_wp2_with fail
 clear hA1 hB1 hF1 hE1 hg1 hz1 hz1';have hQ:=zBr (I 0) (I 0) (I 0) (.string E0) (by omega) (Nat.le_refl _) hP;clear hP;generalize (((w1.setCell ⟨w.heap.size,0,none⟩ (I 0)).setCell ⟨w.heap.size,1,none⟩ (I 0)).setCell ⟨w.heap.size,2,none⟩ (I 0)).setCell ⟨w.heap.size,3,none⟩ (.string E0)=w1' at hQ⊢;have hP:=hQ;clear hQ;refine(H2.out _).mono ?_;rintro e w2 ⟨rfl,hb2⟩;have hP2:=Two.keep hb2 hP;clear hP hb2;have hP:=hP2;clear hP2;obtain⟨hA2,hB2,hF2,hE2,hg2,hz2,hz2'⟩:=hP;have hP:Two w w.heap.size (w.heap.size+1) _ _ w2:=⟨hA2,hB2,hF2,hE2,hg2,hz2,hz2'⟩
 go_wp2_with fail
 clear hA2 hB2 hF2 hE2 hz2 hz2' hg2;have hQ:=zAI (zBr (I 0) (I 0) (I 0) (.string E0) (by omega) (Nat.le_succ _) (zAI hP));clear hP;generalize (((w2.setCell ⟨w.heap.size+1,0,none⟩ (I 0)).setCell ⟨w.heap.size+1,1,none⟩ (I 0)).setCell ⟨w.heap.size+1,2,none⟩ (I 0)).setCell ⟨w.heap.size+1,3,none⟩ (.string E0)=w2' at hQ⊢;have hP:=hQ;clear hQ;obtain⟨hA3,hB3,_,_,hg3,hz3,hz3'⟩:=hP;have hS0:(∀(o:Nat),w2'.cell? {block:=w.heap.size,off:=o}=[I 0,I 0,I 0,Value.string E0][o]?)∧(∀(o:Nat),w2'.cell? {block:=w.heap.size+1,off:=o}=[I 0,I 0,I 0,Value.string E0][o]?)∧G w w2'∧w.heap.size<w2'.heap.size∧w.heap.size+1<w2'.heap.size:=⟨hA3,hB3,hg3,hz3,hz3'⟩;clear hA3 hB3 hg3 hz3 hz3'
 go_region_held3 (fun W=>(∀(o:Nat),W.cell? {block:=w.heap.size,off:=o}=[I 0,I 0,I 0,Value.string E0][o]?)∧(∀(o:Nat),W.cell? {block:=w.heap.size+1,off:=o}=[I 0,I 0,I 0,Value.string E0][o]?)∧G w W∧w.heap.size<W.heap.size∧w.heap.size+1<W.heap.size)
  ((first|assumption|exact zBN (by assumption)|exact zA5 hb5 (by assumption)|exact zA5 hb5 (zBN (by assumption))|exact zBN (zA5 hb5 (by assumption))))
  (first|(go_at_call 51;refine(rrank _ _ _ _ _).mono ?_;rintro e w5 ⟨rfl,hb5⟩)|(go_at_call 50;refine(rnum _ _ _).mono ?_;rintro e w5 ⟨rfl,rfl⟩)|fail)
 rename_i hH
 obtain⟨hA4,hB4,hg4,hz4,hz4'⟩:=hH
 have z0:cI (rkR 0) (rkR 0)=0:=by decide
 go_wp2_with fail
 refine(H3.out _).mono ?_;rintro e w6 ⟨rfl,hb6⟩;obtain⟨hA6,hB6,hg6,hz6,hz6'⟩:=zA5 hb6 ⟨hA4,hB4,hg4,hz4,hz4'⟩;clear hb6 hA4 hB4
 have z1:c1=0:=by exact HC.out
 go_wp2_with fail
 refine(rnum _ _ _).mono ?_;rintro e w7 ⟨rfl,rfl⟩
 have z2:cI 0 0=0:=by decide
 go_wp2_with fail
 refine(rnum _ _ _).mono ?_;rintro e w7 ⟨rfl,rfl⟩
 have z3:cI 0 0=0:=by decide
 go_wp2_with fail
 refine(rnum _ _ _).mono ?_;rintro e w7 ⟨rfl,rfl⟩
 have hr:or5 (cI (rkR 0) (rkR 0)) c1 (cI 0 0) (cI 0 0) (cI 0 0)=cI 0 0:=by simp[or5,z0,z1,z2]
 have HR:Hid _:=hr;clear hr
 go_wp2
 go_ret;refine⟨?_,hg6⟩;rw[HR.out];rfl
theorem zSI(k a b k' a' b':Int)(s s':ByteArray)(hs':s'.size≤4611686018427387904)(h1:∀w,CG 26 #[V k a b s] w (.bool false))(h2:∀w,CG 26 #[V k' a' b' s'] w (.bool true))(w:World) :
  CG 19 #[V k a b s,V k' a' b' s'] w (.int .i64 (cmpR 0 k' 0 0 a' b' E0 s')):=by
 have H1:Hid _:=h1;have H2:Hid _:=h2;have H3:Hid _:=rtexts E0 s' (by decide) hs';unfold cmpR;generalize hc1:compareBytes E0.data.toList s'.data.toList=c1 at H3⊢;clear hc1
 have hz0:w.heap.size<w.heap.size+1+1:=by omega
 clear h1 h2
 go_enter func19,ntmps19
 go_wp2_with fail
 refine(H1.out _).mono ?_;rintro e w1 ⟨rfl,hb1⟩
 have hP:Two w w.heap.size (w.heap.size+1) (fun o=>[I k,I a,I b,Value.string s][o]?) (fun o=>[I k',I a',I b',Value.string s'][o]?) w1:=
  Two.keep hb1 ⟨fun o=>by simp,fun o=>by simp,fun o=>by simp,fun o=>by simp,((G.refl w).alloc _).alloc _,by simp;omega,by simp⟩
 clear hb1;obtain⟨hA1,hB1,hF1,hE1,hg1,hz1,hz1'⟩:=hP;have hP:Two w w.heap.size (w.heap.size+1) (fun o=>[I k,I a,I b,Value.string s][o]?) (fun o=>[I k',I a',I b',Value.string s'][o]?) w1:=⟨hA1,hB1,hF1,hE1,hg1,hz1,hz1'⟩
 go_wp2_with fail
 clear hA1 hB1 hF1 hE1 hg1 hz1 hz1';have hQ:=zBr (I 0) (I 0) (I 0) (.string E0) (by omega) (Nat.le_refl _) hP;clear hP;generalize (((w1.setCell ⟨w.heap.size,0,none⟩ (I 0)).setCell ⟨w.heap.size,1,none⟩ (I 0)).setCell ⟨w.heap.size,2,none⟩ (I 0)).setCell ⟨w.heap.size,3,none⟩ (.string E0)=w1' at hQ⊢;have hP:=hQ;clear hQ;refine(H2.out _).mono ?_;rintro e w2 ⟨rfl,hb2⟩;have hP2:=Two.keep hb2 hP;clear hP hb2;have hP:=hP2;clear hP2;obtain⟨hA2,hB2,hF2,hE2,hg2,hz2,hz2'⟩:=hP;have hP:Two w w.heap.size (w.heap.size+1) _ _ w2:=⟨hA2,hB2,hF2,hE2,hg2,hz2,hz2'⟩
 go_wp2_with fail
 clear hA2 hB2 hF2 hE2 hz2 hz2' hg2;obtain⟨hA3,hB3,_,_,hg3,hz3,hz3'⟩:=hP;have hS0:(∀(o:Nat),w2.cell? {block:=w.heap.size,off:=o}=[I 0,I 0,I 0,Value.string E0][o]?)∧(∀(o:Nat),w2.cell? {block:=w.heap.size+1,off:=o}=[I k',I a',I b',Value.string s'][o]?)∧G w w2∧w.heap.size<w2.heap.size∧w.heap.size+1<w2.heap.size:=⟨hA3,hB3,hg3,hz3,hz3'⟩;clear hA3 hB3 hg3 hz3 hz3'
 go_region_held3 (fun W=>(∀(o:Nat),W.cell? {block:=w.heap.size,off:=o}=[I 0,I 0,I 0,Value.string E0][o]?)∧(∀(o:Nat),W.cell? {block:=w.heap.size+1,off:=o}=[I k',I a',I b',Value.string s'][o]?)∧G w W∧w.heap.size<W.heap.size∧w.heap.size+1<W.heap.size)
  ((first|assumption|exact zBN (by assumption)|exact zA5 hb5 (by assumption)|exact zA5 hb5 (zBN (by assumption))|exact zBN (zA5 hb5 (by assumption))))
  (first|(go_at_call 51;refine(rrank _ _ _ _ _).mono ?_;rintro e w5 ⟨rfl,hb5⟩)|(go_at_call 50;refine(rnum _ _ _).mono ?_;rintro e w5 ⟨rfl,rfl⟩)|fail)
 rename_i hH
 obtain⟨hA4,hB4,hg4,hz4,hz4'⟩:=hH
 by_cases z0:cI (rkR 0) (rkR k')=0
 rotate_left 1
 ·have n0:(cI (rkR 0) (rkR k')==0)=false:=by simpa using z0
  have hr:or5 (cI (rkR 0) (rkR k')) c1 (cI 0 a') (cI 0 k') (cI 0 b')=cI (rkR 0) (rkR k'):=by simp[or5,z0]
  have HR:Hid _:=hr;clear hr
  go_wp2
  go_ret;refine⟨?_,hg4⟩;rw[HR.out];rfl
 go_wp2_with fail
 refine(H3.out _).mono ?_;rintro e w6 ⟨rfl,hb6⟩;obtain⟨hA6,hB6,hg6,hz6,hz6'⟩:=zA5 hb6 ⟨hA4,hB4,hg4,hz4,hz4'⟩;clear hb6 hA4 hB4
 by_cases z1:c1=0
 rotate_left 1
 ·have n1:(c1==0)=false:=by simpa using z1
  have hr:or5 (cI (rkR 0) (rkR k')) c1 (cI 0 a') (cI 0 k') (cI 0 b')=c1:=by simp[or5,z0,z1]
  have HR:Hid _:=hr;clear hr
  go_wp2
  go_ret;refine⟨?_,hg6⟩;rw[HR.out];rfl
 go_wp2_with fail
 refine(rnum _ _ _).mono ?_;rintro e w7 ⟨rfl,rfl⟩
 by_cases z2:cI 0 a'=0
 rotate_left 1
 ·have n2:(cI 0 a'==0)=false:=by simpa using z2
  have hr:or5 (cI (rkR 0) (rkR k')) c1 (cI 0 a') (cI 0 k') (cI 0 b')=cI 0 a':=by simp[or5,z0,z1,z2]
  have HR:Hid _:=hr;clear hr
  go_wp2
  go_ret;refine⟨?_,hg6⟩;rw[HR.out];rfl
 go_wp2_with fail
 refine(rnum _ _ _).mono ?_;rintro e w7 ⟨rfl,rfl⟩
 by_cases z3:cI 0 k'=0
 rotate_left 1
 ·have n3:(cI 0 k'==0)=false:=by simpa using z3
  have hr:or5 (cI (rkR 0) (rkR k')) c1 (cI 0 a') (cI 0 k') (cI 0 b')=cI 0 k':=by simp[or5,z0,z1,z2,z3]
  have HR:Hid _:=hr;clear hr
  go_wp2
  go_ret;refine⟨?_,hg6⟩;rw[HR.out];rfl
 go_wp2_with fail
 refine(rnum _ _ _).mono ?_;rintro e w7 ⟨rfl,rfl⟩
 have hr:or5 (cI (rkR 0) (rkR k')) c1 (cI 0 a') (cI 0 k') (cI 0 b')=cI 0 b':=by simp[or5,z0,z1,z2,z3]
 have HR:Hid _:=hr;clear hr
 go_wp2
 go_ret;refine⟨?_,hg6⟩;rw[HR.out];rfl
theorem zSH(k a b k' a' b':Int)(s s':ByteArray)(hs:s.size≤4611686018427387904)(h1:∀w,CG 26 #[V k a b s] w (.bool true))(h2:∀w,CG 26 #[V k' a' b' s'] w (.bool false))(w:World) :
  CG 19 #[V k a b s,V k' a' b' s'] w (.int .i64 (cmpR k 0 a b 0 0 s E0)):=by
 have H1:Hid _:=h1;have H2:Hid _:=h2;have H3:Hid _:=rtexts s E0 hs (by decide);unfold cmpR;generalize hc1:compareBytes s.data.toList E0.data.toList=c1 at H3⊢;clear hc1
 have hz0:w.heap.size<w.heap.size+1+1:=by omega
 clear h1 h2
 go_enter func19,ntmps19
 go_wp2_with fail
 refine(H1.out _).mono ?_;rintro e w1 ⟨rfl,hb1⟩
 have hP:Two w w.heap.size (w.heap.size+1) (fun o=>[I k,I a,I b,Value.string s][o]?) (fun o=>[I k',I a',I b',Value.string s'][o]?) w1:=
  Two.keep hb1 ⟨fun o=>by simp,fun o=>by simp,fun o=>by simp,fun o=>by simp,((G.refl w).alloc _).alloc _,by simp;omega,by simp⟩
 clear hb1;obtain⟨hA1,hB1,hF1,hE1,hg1,hz1,hz1'⟩:=hP;have hP:Two w w.heap.size (w.heap.size+1) (fun o=>[I k,I a,I b,Value.string s][o]?) (fun o=>[I k',I a',I b',Value.string s'][o]?) w1:=⟨hA1,hB1,hF1,hE1,hg1,hz1,hz1'⟩
 go_wp2_with fail
 clear hA1 hB1 hF1 hE1 hg1 hz1 hz1';refine(H2.out _).mono ?_;rintro e w2 ⟨rfl,hb2⟩;have hP2:=Two.keep hb2 hP;clear hP hb2;have hP:=hP2;clear hP2;obtain⟨hA2,hB2,hF2,hE2,hg2,hz2,hz2'⟩:=hP;have hP:Two w w.heap.size (w.heap.size+1) _ _ w2:=⟨hA2,hB2,hF2,hE2,hg2,hz2,hz2'⟩
 go_wp2_with fail
 clear hA2 hB2 hF2 hE2 hz2 hz2' hg2;have hQ:=zAI (zBr (I 0) (I 0) (I 0) (.string E0) (by omega) (Nat.le_succ _) (zAI hP));clear hP;generalize (((w2.setCell ⟨w.heap.size+1,0,none⟩ (I 0)).setCell ⟨w.heap.size+1,1,none⟩ (I 0)).setCell ⟨w.heap.size+1,2,none⟩ (I 0)).setCell ⟨w.heap.size+1,3,none⟩ (.string E0)=w2' at hQ⊢;have hP:=hQ;clear hQ;obtain⟨hA3,hB3,_,_,hg3,hz3,hz3'⟩:=hP;have hS0:(∀(o:Nat),w2'.cell? {block:=w.heap.size,off:=o}=[I k,I a,I b,Value.string s][o]?)∧(∀(o:Nat),w2'.cell? {block:=w.heap.size+1,off:=o}=[I 0,I 0,I 0,Value.string E0][o]?)∧G w w2'∧w.heap.size<w2'.heap.size∧w.heap.size+1<w2'.heap.size:=⟨hA3,hB3,hg3,hz3,hz3'⟩;clear hA3 hB3 hg3 hz3 hz3'
 go_region_held3 (fun W=>(∀(o:Nat),W.cell? {block:=w.heap.size,off:=o}=[I k,I a,I b,Value.string s][o]?)∧(∀(o:Nat),W.cell? {block:=w.heap.size+1,off:=o}=[I 0,I 0,I 0,Value.string E0][o]?)∧G w W∧w.heap.size<W.heap.size∧w.heap.size+1<W.heap.size)
  ((first|assumption|exact zBN (by assumption)|exact zA5 hb5 (by assumption)|exact zA5 hb5 (zBN (by assumption))|exact zBN (zA5 hb5 (by assumption))))
  (first|(go_at_call 51;refine(rrank _ _ _ _ _).mono ?_;rintro e w5 ⟨rfl,hb5⟩)|(go_at_call 50;refine(rnum _ _ _).mono ?_;rintro e w5 ⟨rfl,rfl⟩)|fail)
 rename_i hH
 obtain⟨hA4,hB4,hg4,hz4,hz4'⟩:=hH
 by_cases z0:cI (rkR k) (rkR 0)=0
 rotate_left 1
 ·have n0:(cI (rkR k) (rkR 0)==0)=false:=by simpa using z0
  have hr:or5 (cI (rkR k) (rkR 0)) c1 (cI a 0) (cI k 0) (cI b 0)=cI (rkR k) (rkR 0):=by simp[or5,z0]
  have HR:Hid _:=hr;clear hr
  go_wp2
  go_ret;refine⟨?_,hg4⟩;rw[HR.out];rfl
 go_wp2_with fail
 refine(H3.out _).mono ?_;rintro e w6 ⟨rfl,hb6⟩;obtain⟨hA6,hB6,hg6,hz6,hz6'⟩:=zA5 hb6 ⟨hA4,hB4,hg4,hz4,hz4'⟩;clear hb6 hA4 hB4
 by_cases z1:c1=0
 rotate_left 1
 ·have n1:(c1==0)=false:=by simpa using z1
  have hr:or5 (cI (rkR k) (rkR 0)) c1 (cI a 0) (cI k 0) (cI b 0)=c1:=by simp[or5,z0,z1]
  have HR:Hid _:=hr;clear hr
  go_wp2
  go_ret;refine⟨?_,hg6⟩;rw[HR.out];rfl
 go_wp2_with fail
 refine(rnum _ _ _).mono ?_;rintro e w7 ⟨rfl,rfl⟩
 by_cases z2:cI a 0=0
 rotate_left 1
 ·have n2:(cI a 0==0)=false:=by simpa using z2
  have hr:or5 (cI (rkR k) (rkR 0)) c1 (cI a 0) (cI k 0) (cI b 0)=cI a 0:=by simp[or5,z0,z1,z2]
  have HR:Hid _:=hr;clear hr
  go_wp2
  go_ret;refine⟨?_,hg6⟩;rw[HR.out];rfl
 go_wp2_with fail
 refine(rnum _ _ _).mono ?_;rintro e w7 ⟨rfl,rfl⟩
 by_cases z3:cI k 0=0
 rotate_left 1
 ·have n3:(cI k 0==0)=false:=by simpa using z3
  have hr:or5 (cI (rkR k) (rkR 0)) c1 (cI a 0) (cI k 0) (cI b 0)=cI k 0:=by simp[or5,z0,z1,z2,z3]
  have HR:Hid _:=hr;clear hr
  go_wp2
  go_ret;refine⟨?_,hg6⟩;rw[HR.out];rfl
 go_wp2_with fail
 refine(rnum _ _ _).mono ?_;rintro e w7 ⟨rfl,rfl⟩
 have hr:or5 (cI (rkR k) (rkR 0)) c1 (cI a 0) (cI k 0) (cI b 0)=cI b 0:=by simp[or5,z0,z1,z2,z3]
 have HR:Hid _:=hr;clear hr
 go_wp2
 go_ret;refine⟨?_,hg6⟩;rw[HR.out];rfl
theorem zMc(k a b k' a' b':Int)(s s':ByteArray)(hs:s.size≤4611686018427387904)(hs':s'.size≤4611686018427387904)(h1:∀w,CG 26 #[V k a b s] w (.bool true))(h2:∀w,CG 26 #[V k' a' b' s'] w (.bool true))(w:World) :
  CG 19 #[V k a b s,V k' a' b' s'] w (.int .i64 (cmpR k k' a b a' b' s s')):=by
 have H1:Hid _:=h1;have H2:Hid _:=h2;have H3:Hid _:=rtexts s s' hs hs';unfold cmpR;generalize hc1:compareBytes s.data.toList s'.data.toList=c1 at H3⊢;clear hc1
 have hz0:w.heap.size<w.heap.size+1+1:=by omega
 clear h1 h2
 go_enter func19,ntmps19
 go_wp2_with fail
 refine(H1.out _).mono ?_;rintro e w1 ⟨rfl,hb1⟩
 have hP:Two w w.heap.size (w.heap.size+1) (fun o=>[I k,I a,I b,Value.string s][o]?) (fun o=>[I k',I a',I b',Value.string s'][o]?) w1:=
  Two.keep hb1 ⟨fun o=>by simp,fun o=>by simp,fun o=>by simp,fun o=>by simp,((G.refl w).alloc _).alloc _,by simp;omega,by simp⟩
 clear hb1;obtain⟨hA1,hB1,hF1,hE1,hg1,hz1,hz1'⟩:=hP;have hP:Two w w.heap.size (w.heap.size+1) (fun o=>[I k,I a,I b,Value.string s][o]?) (fun o=>[I k',I a',I b',Value.string s'][o]?) w1:=⟨hA1,hB1,hF1,hE1,hg1,hz1,hz1'⟩
 go_wp2_with fail
 clear hA1 hB1 hF1 hE1 hg1 hz1 hz1';refine(H2.out _).mono ?_;rintro e w2 ⟨rfl,hb2⟩;have hP2:=Two.keep hb2 hP;clear hP hb2;have hP:=hP2;clear hP2;obtain⟨hA2,hB2,hF2,hE2,hg2,hz2,hz2'⟩:=hP;have hP:Two w w.heap.size (w.heap.size+1) _ _ w2:=⟨hA2,hB2,hF2,hE2,hg2,hz2,hz2'⟩
 go_wp2_with fail
 clear hA2 hB2 hF2 hE2 hz2 hz2' hg2;obtain⟨hA3,hB3,_,_,hg3,hz3,hz3'⟩:=hP;have hS0:(∀(o:Nat),w2.cell? {block:=w.heap.size,off:=o}=[I k,I a,I b,Value.string s][o]?)∧(∀(o:Nat),w2.cell? {block:=w.heap.size+1,off:=o}=[I k',I a',I b',Value.string s'][o]?)∧G w w2∧w.heap.size<w2.heap.size∧w.heap.size+1<w2.heap.size:=⟨hA3,hB3,hg3,hz3,hz3'⟩;clear hA3 hB3 hg3 hz3 hz3'
 go_region_held3 (fun W=>(∀(o:Nat),W.cell? {block:=w.heap.size,off:=o}=[I k,I a,I b,Value.string s][o]?)∧(∀(o:Nat),W.cell? {block:=w.heap.size+1,off:=o}=[I k',I a',I b',Value.string s'][o]?)∧G w W∧w.heap.size<W.heap.size∧w.heap.size+1<W.heap.size)
  ((first|assumption|exact zBN (by assumption)|exact zA5 hb5 (by assumption)|exact zA5 hb5 (zBN (by assumption))|exact zBN (zA5 hb5 (by assumption))))
  (first|(go_at_call 51;refine(rrank _ _ _ _ _).mono ?_;rintro e w5 ⟨rfl,hb5⟩)|(go_at_call 50;refine(rnum _ _ _).mono ?_;rintro e w5 ⟨rfl,rfl⟩)|fail)
 rename_i hH
 obtain⟨hA4,hB4,hg4,hz4,hz4'⟩:=hH
 by_cases z0:cI (rkR k) (rkR k')=0
 rotate_left 1
 ·have n0:(cI (rkR k) (rkR k')==0)=false:=by simpa using z0
  have hr:or5 (cI (rkR k) (rkR k')) c1 (cI a a') (cI k k') (cI b b')=cI (rkR k) (rkR k'):=by simp[or5,z0]
  have HR:Hid _:=hr;clear hr
  go_wp2
  go_ret;refine⟨?_,hg4⟩;rw[HR.out];rfl
 go_wp2_with fail
 refine(H3.out _).mono ?_;rintro e w6 ⟨rfl,hb6⟩;obtain⟨hA6,hB6,hg6,hz6,hz6'⟩:=zA5 hb6 ⟨hA4,hB4,hg4,hz4,hz4'⟩;clear hb6 hA4 hB4
 by_cases z1:c1=0
 rotate_left 1
 ·have n1:(c1==0)=false:=by simpa using z1
  have hr:or5 (cI (rkR k) (rkR k')) c1 (cI a a') (cI k k') (cI b b')=c1:=by simp[or5,z0,z1]
  have HR:Hid _:=hr;clear hr
  go_wp2
  go_ret;refine⟨?_,hg6⟩;rw[HR.out];rfl
 go_wp2_with fail
 refine(rnum _ _ _).mono ?_;rintro e w7 ⟨rfl,rfl⟩
 by_cases z2:cI a a'=0
 rotate_left 1
 ·have n2:(cI a a'==0)=false:=by simpa using z2
  have hr:or5 (cI (rkR k) (rkR k')) c1 (cI a a') (cI k k') (cI b b')=cI a a':=by simp[or5,z0,z1,z2]
  have HR:Hid _:=hr;clear hr
  go_wp2
  go_ret;refine⟨?_,hg6⟩;rw[HR.out];rfl
 go_wp2_with fail
 refine(rnum _ _ _).mono ?_;rintro e w7 ⟨rfl,rfl⟩
 by_cases z3:cI k k'=0
 rotate_left 1
 ·have n3:(cI k k'==0)=false:=by simpa using z3
  have hr:or5 (cI (rkR k) (rkR k')) c1 (cI a a') (cI k k') (cI b b')=cI k k':=by simp[or5,z0,z1,z2,z3]
  have HR:Hid _:=hr;clear hr
  go_wp2
  go_ret;refine⟨?_,hg6⟩;rw[HR.out];rfl
 go_wp2_with fail
 refine(rnum _ _ _).mono ?_;rintro e w7 ⟨rfl,rfl⟩
 have hr:or5 (cI (rkR k) (rkR k')) c1 (cI a a') (cI k k') (cI b b')=cI b b':=by simp[or5,z0,z1,z2,z3]
 have HR:Hid _:=hr;clear hr
 go_wp2
 go_ret;refine⟨?_,hg6⟩;rw[HR.out];rfl
end
end Go.Proofs.YthmdjhfbhbheeaaGreatDoor
