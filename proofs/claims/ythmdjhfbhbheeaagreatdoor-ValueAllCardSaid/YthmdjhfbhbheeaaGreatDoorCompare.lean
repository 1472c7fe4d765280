import Derived.Test.YthmdjhfbhbheeaaGreatDoorRefCmp
namespace Go.Proofs.YthmdjhfbhbheeaaGreatDoor
open Go.Proofs.Tryz
set_option maxHeartbeats 1000000
set_option maxRecDepth 100000
section
open Go.RowKit Go.Lib Go.PlainAid
section keep2
variable {w W W':World} {b c:Nat} {f g:Nat→Option Value}
def Two(w:World)(b c:Nat)(f g:Nat→Option Value)(W:World):Prop:=(∀o,W.cell? ⟨b,o,none⟩=f o)∧(∀o,W.cell? ⟨c,o,none⟩=g o)∧(∀o,W.frozen? ⟨b,o,none⟩=false)∧(∀o,W.frozen? ⟨c,o,none⟩=false)∧G w W∧b<W.heap.size∧c<W.heap.size
theorem Two.keep(hb:G W W')(h:Two w b c f g W):Two w b c f g W':=
 ⟨G.cells hb h.1 h.2.2.2.2.2.1,G.cells hb h.2.1 h.2.2.2.2.2.2,G.frozens hb h.2.2.1 h.2.2.2.2.2.1,G.frozens hb h.2.2.2.1 h.2.2.2.2.2.2,h.2.2.2.2.1.trans hb,Nat.lt_of_lt_of_le h.2.2.2.2.2.1 hb.size,Nat.lt_of_lt_of_le h.2.2.2.2.2.2 hb.size⟩
end keep2
section keep22
variable {w W W':World} {b c:Nat} {f g:Nat→Option Value}
theorem keepG2(h1:∀o,W.cell? ⟨b,o,none⟩=f o)(h2:∀o,W.cell? ⟨c,o,none⟩=g o)(h3:G w W)(h4:b<W.heap.size)(h5:c<W.heap.size)(hb:G W W'):(∀o,W'.cell? ⟨b,o,none⟩=f o)∧(∀o,W'.cell? ⟨c,o,none⟩=g o)∧G w W'∧b<W'.heap.size∧c<W'.heap.size:=
 ⟨G.cells hb h1 h4,G.cells hb h2 h5,h3.trans hb,Nat.lt_of_lt_of_le h4 hb.size,Nat.lt_of_lt_of_le h5 hb.size⟩
theorem keepC2(hb:G W W')(h:(∀o,W.cell? ⟨b,o,none⟩=f o)∧(∀o,W.cell? ⟨c,o,none⟩=g o)∧G w W∧b<W.heap.size∧c<W.heap.size):(∀o,W'.cell? ⟨b,o,none⟩=f o)∧(∀o,W'.cell? ⟨c,o,none⟩=g o)∧G w W'∧b<W'.heap.size∧c<W'.heap.size:=
 keepG2 h.1 h.2.1 h.2.2.1 h.2.2.2.1 h.2.2.2.2 hb
theorem keepE2(h:(∀o,W.cell? ⟨b,o,none⟩=f o)∧(∀o,W.cell? ⟨c,o,none⟩=g o)∧G w W∧b<W.heap.size∧c<W.heap.size):(∀o,W.drew.cell? ⟨b,o,none⟩=f o)∧(∀o,W.drew.cell? ⟨c,o,none⟩=g o)∧G w W.drew∧b<W.drew.heap.size∧c<W.drew.heap.size:=
 keepC2 (G.refl _).drew h
end keep22
theorem size_setCell(w:World)(p:Addr)(v:Value):(w.setCell p v).heap.size=w.heap.size:=by simp[go_sem]
theorem frozen_set(w:World)(p q:Addr)(v:Value):(w.setCell p v).frozen? q=w.frozen? q:=by simp[go_sem]
theorem set_same{W:World}{B i:Nat}{x y:Value}(h:W.cell? ⟨B,i,none⟩=some x):(W.setCell ⟨B,i,none⟩ y).cell? ⟨B,i,none⟩=some y:=World.cell?_setCell_same _ _ _ h
theorem set_other{W:World}{B i b o:Nat}{y:Value}(h:¬(B=b∧i=o)):(W.setCell ⟨B,i,none⟩ y).cell? ⟨b,o,none⟩=W.cell? ⟨b,o,none⟩:=
 World.cell?_setCell_other _ _ _ _ (fun e=>h (by cases e;exact⟨rfl,rfl⟩))
theorem box_set(W:World)(B:Nat)(x0 x1 x2 x3 y0 y1 y2 y3:Value)(h:∀o,W.cell? ⟨B,o,none⟩=[x0,x1,x2,x3][o]?) :
  ∀o,((((W.setCell ⟨B,0,none⟩ y0).setCell ⟨B,1,none⟩ y1).setCell ⟨B,2,none⟩ y2).setCell ⟨B,3,none⟩ y3).cell? ⟨B,o,none⟩=[y0,y1,y2,y3][o]?:=by
 intro o
 have h0:W.cell? ⟨B,0,none⟩=some x0:=h 0
 have h1:W.cell? ⟨B,1,none⟩=some x1:=h 1
 have h2:W.cell? ⟨B,2,none⟩=some x2:=h 2
 have h3:W.cell? ⟨B,3,none⟩=some x3:=h 3
 by_cases e0:o=0
 ·subst e0
  rw[set_other (by omega),set_other (by omega),set_other (by omega),set_same h0];rfl
 by_cases e1:o=1
 ·subst e1
  rw[set_other (by omega),set_other (by omega),set_same (x:=x1) (by rw[set_other (by omega)];exact h1)];rfl
 by_cases e2:o=2
 ·subst e2
  rw[set_other (by omega),set_same (x:=x2) (by rw[set_other (by omega),set_other (by omega)];exact h2)];rfl
 by_cases e3:o=3
 ·subst e3
  rw[set_same (x:=x3) (by rw[set_other (by omega),set_other (by omega),set_other (by omega)];exact h3)];rfl
 rw[set_other (by omega),set_other (by omega),set_other (by omega),set_other (by omega),h]
 have a1:[x0,x1,x2,x3][o]?=none:=List.getElem?_eq_none (by simp;omega)
 have a2:[y0,y1,y2,y3][o]?=none:=List.getElem?_eq_none (by simp;omega)
 rw[a1,a2]
theorem box_other(W:World)(B b:Nat)(hb:B≠b)(y0 y1 y2 y3:Value) :
  ∀o,((((W.setCell ⟨B,0,none⟩ y0).setCell ⟨B,1,none⟩ y1).setCell ⟨B,2,none⟩ y2).setCell ⟨B,3,none⟩ y3).cell? ⟨b,o,none⟩=W.cell? ⟨b,o,none⟩:=by
 intro o
 rw[set_other (by omega),set_other (by omega),set_other (by omega),set_other (by omega)]
theorem two_set1{w W:World}{B c:Nat}{x0 x1 x2 x3:Value}{g:Nat→Option Value}(y0 y1 y2 y3:Value)(hc:B≠c)(hw:w.heap.size≤B)(h:Two w B c (fun o=>[x0,x1,x2,x3][o]?) g W) :
  Two w B c (fun o=>[y0,y1,y2,y3][o]?) g ((((W.setCell ⟨B,0,none⟩ y0).setCell ⟨B,1,none⟩ y1).setCell ⟨B,2,none⟩ y2).setCell ⟨B,3,none⟩ y3):=by
 obtain⟨h1,h2,f1,f2,h3,h4,h5⟩:=h
 refine⟨box_set W B x0 x1 x2 x3 y0 y1 y2 y3 h1,fun o=>by rw[box_other W B c hc];exact h2 o,fun o=>by rw[frozen_set,frozen_set,frozen_set,frozen_set];exact f1 o,fun o=>by rw[frozen_set,frozen_set,frozen_set,frozen_set];exact f2 o,?_,?_,?_⟩
 ·exact(((h3.setCell hw _).setCell hw _).setCell hw _).setCell hw _
 ·rw[size_setCell,size_setCell,size_setCell,size_setCell];exact h4
 ·rw[size_setCell,size_setCell,size_setCell,size_setCell];exact h5
theorem two_swap{w W:World}{b c:Nat}{f g:Nat→Option Value}(h:Two w b c f g W):Two w c b g f W:=⟨h.2.1,h.1,h.2.2.2.1,h.2.2.1,h.2.2.2.2.1,h.2.2.2.2.2.2,h.2.2.2.2.2.1⟩
def cmpR(k k' a b a' b':Int)(s s':ByteArray):Int:=or5 (cI (rkR k) (rkR k')) (compareBytes s.data.toList s'.data.toList) (cI a a') (cI k k') (cI b b')
theorem rCmp_00(k a b k' a' b':Int)(s s':ByteArray)(h1:∀w,Calls prog 26 #[V k a b s] w fun e w'=>e=.returned (.bool false)∧G w w')(h2:∀w,Calls prog 26 #[V k' a' b' s'] w fun e w'=>e=.returned (.bool false)∧G w w')(w:World) :
  Calls prog 19 #[V k a b s,V k' a' b' s'] w fun e w'=>e=.returned (.int .i64 (cmpR 0 0 0 0 0 0 E0 E0))∧G w w':=by
 have H1:Hid _:=h1
 have H2:Hid _:=h2
 have H3:Hid _:=rtexts E0 E0 (by decide) (by decide)
 unfold cmpR
 generalize hc1:compareBytes E0.data.toList E0.data.toList=c1 at H3⊢
 have HC:Hid (c1=0):=by rw[←hc1];rfl
 clear hc1
 have hz0:w.heap.size<w.heap.size+1+1:=by omega
 clear h1 h2
 go_enter func19,ntmps19
 go_wp2_with fail
 refine(H1.out _).mono ?_
 rintro e w1 ⟨rfl,hb1⟩
 have hP:Two w w.heap.size (w.heap.size+1) (fun o=>[I k,I a,I b,Value.string s][o]?) (fun o=>[I k',I a',I b',Value.string s'][o]?) w1:=
  Two.keep hb1 ⟨fun o=>by simp,fun o=>by simp,fun o=>by simp,fun o=>by simp,((G.refl w).alloc _).alloc _,by simp;omega,by simp⟩
 clear hb1
 obtain⟨hA1,hB1,hF1,hE1,hg1,hz1,hz1'⟩:=hP
 have hP:Two w w.heap.size (w.heap.size+1) (fun o=>[I k,I a,I b,Value.string s][o]?) (fun o=>[I k',I a',I b',Value.string s'][o]?) w1:=⟨hA1,hB1,hF1,hE1,hg1,hz1,hz1'⟩
 go_wp2_with fail
 clear hA1 hB1 hF1 hE1 hg1 hz1 hz1'
 have hQ:=two_set1 (I 0) (I 0) (I 0) (.string E0) (by omega) (Nat.le_refl _) hP
 clear hP
 generalize (((w1.setCell ⟨w.heap.size,0,none⟩ (I 0)).setCell ⟨w.heap.size,1,none⟩ (I 0)).setCell ⟨w.heap.size,2,none⟩ (I 0)).setCell ⟨w.heap.size,3,none⟩ (.string E0)=w1' at hQ⊢
 have hP:=hQ
 clear hQ
 refine(H2.out _).mono ?_
 rintro e w2 ⟨rfl,hb2⟩
 have hP2:=Two.keep hb2 hP
 clear hP hb2
 have hP:=hP2
 clear hP2
 obtain⟨hA2,hB2,hF2,hE2,hg2,hz2,hz2'⟩:=hP
 have hP:Two w w.heap.size (w.heap.size+1) _ _ w2:=⟨hA2,hB2,hF2,hE2,hg2,hz2,hz2'⟩
 go_wp2_with fail
 clear hA2 hB2 hF2 hE2 hz2 hz2' hg2
 have hQ:=two_swap (two_set1 (I 0) (I 0) (I 0) (.string E0) (by omega) (Nat.le_succ _) (two_swap hP))
 clear hP
 generalize (((w2.setCell ⟨w.heap.size+1,0,none⟩ (I 0)).setCell ⟨w.heap.size+1,1,none⟩ (I 0)).setCell ⟨w.heap.size+1,2,none⟩ (I 0)).setCell ⟨w.heap.size+1,3,none⟩ (.string E0)=w2' at hQ⊢
 have hP:=hQ
 clear hQ
 obtain⟨hA3,hB3,_,_,hg3,hz3,hz3'⟩:=hP
 have hS0:(∀(o:Nat),w2'.cell? {block:=w.heap.size,off:=o}=[I 0,I 0,I 0,Value.string E0][o]?)∧(∀(o:Nat),w2'.cell? {block:=w.heap.size+1,off:=o}=[I 0,I 0,I 0,Value.string E0][o]?)∧G w w2'∧w.heap.size<w2'.heap.size∧w.heap.size+1<w2'.heap.size:=⟨hA3,hB3,hg3,hz3,hz3'⟩
 clear hA3 hB3 hg3 hz3 hz3'
 go_region_held3 (fun W=>(∀(o:Nat),W.cell? {block:=w.heap.size,off:=o}=[I 0,I 0,I 0,Value.string E0][o]?)∧(∀(o:Nat),W.cell? {block:=w.heap.size+1,off:=o}=[I 0,I 0,I 0,Value.string E0][o]?)∧G w W∧w.heap.size<W.heap.size∧w.heap.size+1<W.heap.size)
  ((first|assumption|exact keepE2 (by assumption)|exact keepC2 hb5 (by assumption)|exact keepC2 hb5 (keepE2 (by assumption))|exact keepE2 (keepC2 hb5 (by assumption))))
  (first|(go_at_call 51;refine(rrank _ _ _ _ _).mono ?_;rintro e w5 ⟨rfl,hb5⟩)|(go_at_call 50;refine(rnum _ _ _).mono ?_;rintro e w5 ⟨rfl,rfl⟩)|fail)
 rename_i hH
 obtain⟨hA4,hB4,hg4,hz4,hz4'⟩:=hH
 have z0:cI (rkR 0) (rkR 0)=0:=by decide
 go_wp2_with fail
 refine(H3.out _).mono ?_
 rintro e w6 ⟨rfl,hb6⟩
 obtain⟨hA6,hB6,hg6,hz6,hz6'⟩:=keepC2 hb6 ⟨hA4,hB4,hg4,hz4,hz4'⟩
 clear hb6 hA4 hB4
 have z1:c1=0:=by exact HC.out
 go_wp2_with fail
 refine(rnum _ _ _).mono ?_
 rintro e w7 ⟨rfl,rfl⟩
 have z2:cI 0 0=0:=by decide
 go_wp2_with fail
 refine(rnum _ _ _).mono ?_
 rintro e w7 ⟨rfl,rfl⟩
 have z3:cI 0 0=0:=by decide
 go_wp2_with fail
 refine(rnum _ _ _).mono ?_
 rintro e w7 ⟨rfl,rfl⟩
 have hr:or5 (cI (rkR 0) (rkR 0)) c1 (cI 0 0) (cI 0 0) (cI 0 0)=cI 0 0:=by simp[or5,z0,z1,z2]
 have HR:Hid _:=hr
 clear hr
 go_wp2
 go_ret
 refine⟨?_,hg6⟩
 rw[HR.out]
 rfl
theorem rCmp_01(k a b k' a' b':Int)(s s':ByteArray)(hs':s'.size≤4611686018427387904)(h1:∀w,Calls prog 26 #[V k a b s] w fun e w'=>e=.returned (.bool false)∧G w w')(h2:∀w,Calls prog 26 #[V k' a' b' s'] w fun e w'=>e=.returned (.bool true)∧G w w')(w:World) :
  Calls prog 19 #[V k a b s,V k' a' b' s'] w fun e w'=>e=.returned (.int .i64 (cmpR 0 k' 0 0 a' b' E0 s'))∧G w w':=by
 have H1:Hid _:=h1
 have H2:Hid _:=h2
 have H3:Hid _:=rtexts E0 s' (by decide) hs'
 unfold cmpR
 generalize hc1:compareBytes E0.data.toList s'.data.toList=c1 at H3⊢
 clear hc1
 have hz0:w.heap.size<w.heap.size+1+1:=by omega
 clear h1 h2
 go_enter func19,ntmps19
 go_wp2_with fail
 refine(H1.out _).mono ?_
 rintro e w1 ⟨rfl,hb1⟩
 have hP:Two w w.heap.size (w.heap.size+1) (fun o=>[I k,I a,I b,Value.string s][o]?) (fun o=>[I k',I a',I b',Value.string s'][o]?) w1:=
  Two.keep hb1 ⟨fun o=>by simp,fun o=>by simp,fun o=>by simp,fun o=>by simp,((G.refl w).alloc _).alloc _,by simp;omega,by simp⟩
 clear hb1
 obtain⟨hA1,hB1,hF1,hE1,hg1,hz1,hz1'⟩:=hP
 have hP:Two w w.heap.size (w.heap.size+1) (fun o=>[I k,I a,I b,Value.string s][o]?) (fun o=>[I k',I a',I b',Value.string s'][o]?) w1:=⟨hA1,hB1,hF1,hE1,hg1,hz1,hz1'⟩
 go_wp2_with fail
 clear hA1 hB1 hF1 hE1 hg1 hz1 hz1'
 have hQ:=two_set1 (I 0) (I 0) (I 0) (.string E0) (by omega) (Nat.le_refl _) hP
 clear hP
 generalize (((w1.setCell ⟨w.heap.size,0,none⟩ (I 0)).setCell ⟨w.heap.size,1,none⟩ (I 0)).setCell ⟨w.heap.size,2,none⟩ (I 0)).setCell ⟨w.heap.size,3,none⟩ (.string E0)=w1' at hQ⊢
 have hP:=hQ
 clear hQ
 refine(H2.out _).mono ?_
 rintro e w2 ⟨rfl,hb2⟩
 have hP2:=Two.keep hb2 hP
 clear hP hb2
 have hP:=hP2
 clear hP2
 obtain⟨hA2,hB2,hF2,hE2,hg2,hz2,hz2'⟩:=hP
 have hP:Two w w.heap.size (w.heap.size+1) _ _ w2:=⟨hA2,hB2,hF2,hE2,hg2,hz2,hz2'⟩
 go_wp2_with fail
 clear hA2 hB2 hF2 hE2 hz2 hz2' hg2
 obtain⟨hA3,hB3,_,_,hg3,hz3,hz3'⟩:=hP
 have hS0:(∀(o:Nat),w2.cell? {block:=w.heap.size,off:=o}=[I 0,I 0,I 0,Value.string E0][o]?)∧(∀(o:Nat),w2.cell? {block:=w.heap.size+1,off:=o}=[I k',I a',I b',Value.string s'][o]?)∧G w w2∧w.heap.size<w2.heap.size∧w.heap.size+1<w2.heap.size:=⟨hA3,hB3,hg3,hz3,hz3'⟩
 clear hA3 hB3 hg3 hz3 hz3'
 go_region_held3 (fun W=>(∀(o:Nat),W.cell? {block:=w.heap.size,off:=o}=[I 0,I 0,I 0,Value.string E0][o]?)∧(∀(o:Nat),W.cell? {block:=w.heap.size+1,off:=o}=[I k',I a',I b',Value.string s'][o]?)∧G w W∧w.heap.size<W.heap.size∧w.heap.size+1<W.heap.size)
  ((first|assumption|exact keepE2 (by assumption)|exact keepC2 hb5 (by assumption)|exact keepC2 hb5 (keepE2 (by assumption))|exact keepE2 (keepC2 hb5 (by assumption))))
  (first|(go_at_call 51;refine(rrank _ _ _ _ _).mono ?_;rintro e w5 ⟨rfl,hb5⟩)|(go_at_call 50;refine(rnum _ _ _).mono ?_;rintro e w5 ⟨rfl,rfl⟩)|fail)
 rename_i hH
 obtain⟨hA4,hB4,hg4,hz4,hz4'⟩:=hH
 by_cases z0:cI (rkR 0) (rkR k')=0
 rotate_left 1
 ·have n0:(cI (rkR 0) (rkR k')==0)=false:=by simpa using z0
  have hr:or5 (cI (rkR 0) (rkR k')) c1 (cI 0 a') (cI 0 k') (cI 0 b')=cI (rkR 0) (rkR k'):=by simp[or5,z0]
  have HR:Hid _:=hr
  clear hr
  go_wp2
  go_ret
  refine⟨?_,hg4⟩
  rw[HR.out]
  rfl
 go_wp2_with fail
 refine(H3.out _).mono ?_
 rintro e w6 ⟨rfl,hb6⟩
 obtain⟨hA6,hB6,hg6,hz6,hz6'⟩:=keepC2 hb6 ⟨hA4,hB4,hg4,hz4,hz4'⟩
 clear hb6 hA4 hB4
 by_cases z1:c1=0
 rotate_left 1
 ·have n1:(c1==0)=false:=by simpa using z1
  have hr:or5 (cI (rkR 0) (rkR k')) c1 (cI 0 a') (cI 0 k') (cI 0 b')=c1:=by simp[or5,z0,z1]
  have HR:Hid _:=hr
  clear hr
  go_wp2
  go_ret
  refine⟨?_,hg6⟩
  rw[HR.out]
  rfl
 go_wp2_with fail
 refine(rnum _ _ _).mono ?_
 rintro e w7 ⟨rfl,rfl⟩
 by_cases z2:cI 0 a'=0
 rotate_left 1
 ·have n2:(cI 0 a'==0)=false:=by simpa using z2
  have hr:or5 (cI (rkR 0) (rkR k')) c1 (cI 0 a') (cI 0 k') (cI 0 b')=cI 0 a':=by simp[or5,z0,z1,z2]
  have HR:Hid _:=hr
  clear hr
  go_wp2
  go_ret
  refine⟨?_,hg6⟩
  rw[HR.out]
  rfl
 go_wp2_with fail
 refine(rnum _ _ _).mono ?_
 rintro e w7 ⟨rfl,rfl⟩
 by_cases z3:cI 0 k'=0
 rotate_left 1
 ·have n3:(cI 0 k'==0)=false:=by simpa using z3
  have hr:or5 (cI (rkR 0) (rkR k')) c1 (cI 0 a') (cI 0 k') (cI 0 b')=cI 0 k':=by simp[or5,z0,z1,z2,z3]
  have HR:Hid _:=hr
  clear hr
  go_wp2
  go_ret
  refine⟨?_,hg6⟩
  rw[HR.out]
  rfl
 go_wp2_with fail
 refine(rnum _ _ _).mono ?_
 rintro e w7 ⟨rfl,rfl⟩
 have hr:or5 (cI (rkR 0) (rkR k')) c1 (cI 0 a') (cI 0 k') (cI 0 b')=cI 0 b':=by simp[or5,z0,z1,z2,z3]
 have HR:Hid _:=hr
 clear hr
 go_wp2
 go_ret
 refine⟨?_,hg6⟩
 rw[HR.out]
 rfl
theorem rCmp_10(k a b k' a' b':Int)(s s':ByteArray)(hs:s.size≤4611686018427387904)(h1:∀w,Calls prog 26 #[V k a b s] w fun e w'=>e=.returned (.bool true)∧G w w')(h2:∀w,Calls prog 26 #[V k' a' b' s'] w fun e w'=>e=.returned (.bool false)∧G w w')(w:World) :
  Calls prog 19 #[V k a b s,V k' a' b' s'] w fun e w'=>e=.returned (.int .i64 (cmpR k 0 a b 0 0 s E0))∧G w w':=by
 have H1:Hid _:=h1
 have H2:Hid _:=h2
 have H3:Hid _:=rtexts s E0 hs (by decide)
 unfold cmpR
 generalize hc1:compareBytes s.data.toList E0.data.toList=c1 at H3⊢
 clear hc1
 have hz0:w.heap.size<w.heap.size+1+1:=by omega
 clear h1 h2
 go_enter func19,ntmps19
 go_wp2_with fail
 refine(H1.out _).mono ?_
 rintro e w1 ⟨rfl,hb1⟩
 have hP:Two w w.heap.size (w.heap.size+1) (fun o=>[I k,I a,I b,Value.string s][o]?) (fun o=>[I k',I a',I b',Value.string s'][o]?) w1:=
  Two.keep hb1 ⟨fun o=>by simp,fun o=>by simp,fun o=>by simp,fun o=>by simp,((G.refl w).alloc _).alloc _,by simp;omega,by simp⟩
 clear hb1
 obtain⟨hA1,hB1,hF1,hE1,hg1,hz1,hz1'⟩:=hP
 have hP:Two w w.heap.size (w.heap.size+1) (fun o=>[I k,I a,I b,Value.string s][o]?) (fun o=>[I k',I a',I b',Value.string s'][o]?) w1:=⟨hA1,hB1,hF1,hE1,hg1,hz1,hz1'⟩
 go_wp2_with fail
 clear hA1 hB1 hF1 hE1 hg1 hz1 hz1'
 refine(H2.out _).mono ?_
 rintro e w2 ⟨rfl,hb2⟩
 have hP2:=Two.keep hb2 hP
 clear hP hb2
 have hP:=hP2
 clear hP2
 obtain⟨hA2,hB2,hF2,hE2,hg2,hz2,hz2'⟩:=hP
 have hP:Two w w.heap.size (w.heap.size+1) _ _ w2:=⟨hA2,hB2,hF2,hE2,hg2,hz2,hz2'⟩
 go_wp2_with fail
 clear hA2 hB2 hF2 hE2 hz2 hz2' hg2
 have hQ:=two_swap (two_set1 (I 0) (I 0) (I 0) (.string E0) (by omega) (Nat.le_succ _) (two_swap hP))
 clear hP
 generalize (((w2.setCell ⟨w.heap.size+1,0,none⟩ (I 0)).setCell ⟨w.heap.size+1,1,none⟩ (I 0)).setCell ⟨w.heap.size+1,2,none⟩ (I 0)).setCell ⟨w.heap.size+1,3,none⟩ (.string E0)=w2' at hQ⊢
 have hP:=hQ
 clear hQ
 obtain⟨hA3,hB3,_,_,hg3,hz3,hz3'⟩:=hP
 have hS0:(∀(o:Nat),w2'.cell? {block:=w.heap.size,off:=o}=[I k,I a,I b,Value.string s][o]?)∧(∀(o:Nat),w2'.cell? {block:=w.heap.size+1,off:=o}=[I 0,I 0,I 0,Value.string E0][o]?)∧G w w2'∧w.heap.size<w2'.heap.size∧w.heap.size+1<w2'.heap.size:=⟨hA3,hB3,hg3,hz3,hz3'⟩
 clear hA3 hB3 hg3 hz3 hz3'
 go_region_held3 (fun W=>(∀(o:Nat),W.cell? {block:=w.heap.size,off:=o}=[I k,I a,I b,Value.string s][o]?)∧(∀(o:Nat),W.cell? {block:=w.heap.size+1,off:=o}=[I 0,I 0,I 0,Value.string E0][o]?)∧G w W∧w.heap.size<W.heap.size∧w.heap.size+1<W.heap.size)
  ((first|assumption|exact keepE2 (by assumption)|exact keepC2 hb5 (by assumption)|exact keepC2 hb5 (keepE2 (by assumption))|exact keepE2 (keepC2 hb5 (by assumption))))
  (first|(go_at_call 51;refine(rrank _ _ _ _ _).mono ?_;rintro e w5 ⟨rfl,hb5⟩)|(go_at_call 50;refine(rnum _ _ _).mono ?_;rintro e w5 ⟨rfl,rfl⟩)|fail)
 rename_i hH
 obtain⟨hA4,hB4,hg4,hz4,hz4'⟩:=hH
 by_cases z0:cI (rkR k) (rkR 0)=0
 rotate_left 1
 ·have n0:(cI (rkR k) (rkR 0)==0)=false:=by simpa using z0
  have hr:or5 (cI (rkR k) (rkR 0)) c1 (cI a 0) (cI k 0) (cI b 0)=cI (rkR k) (rkR 0):=by simp[or5,z0]
  have HR:Hid _:=hr
  clear hr
  go_wp2
  go_ret
  refine⟨?_,hg4⟩
  rw[HR.out]
  rfl
 go_wp2_with fail
 refine(H3.out _).mono ?_
 rintro e w6 ⟨rfl,hb6⟩
 obtain⟨hA6,hB6,hg6,hz6,hz6'⟩:=keepC2 hb6 ⟨hA4,hB4,hg4,hz4,hz4'⟩
 clear hb6 hA4 hB4
 by_cases z1:c1=0
 rotate_left 1
 ·have n1:(c1==0)=false:=by simpa using z1
  have hr:or5 (cI (rkR k) (rkR 0)) c1 (cI a 0) (cI k 0) (cI b 0)=c1:=by simp[or5,z0,z1]
  have HR:Hid _:=hr
  clear hr
  go_wp2
  go_ret
  refine⟨?_,hg6⟩
  rw[HR.out]
  rfl
 go_wp2_with fail
 refine(rnum _ _ _).mono ?_
 rintro e w7 ⟨rfl,rfl⟩
 by_cases z2:cI a 0=0
 rotate_left 1
 ·have n2:(cI a 0==0)=false:=by simpa using z2
  have hr:or5 (cI (rkR k) (rkR 0)) c1 (cI a 0) (cI k 0) (cI b 0)=cI a 0:=by simp[or5,z0,z1,z2]
  have HR:Hid _:=hr
  clear hr
  go_wp2
  go_ret
  refine⟨?_,hg6⟩
  rw[HR.out]
  rfl
 go_wp2_with fail
 refine(rnum _ _ _).mono ?_
 rintro e w7 ⟨rfl,rfl⟩
 by_cases z3:cI k 0=0
 rotate_left 1
 ·have n3:(cI k 0==0)=false:=by simpa using z3
  have hr:or5 (cI (rkR k) (rkR 0)) c1 (cI a 0) (cI k 0) (cI b 0)=cI k 0:=by simp[or5,z0,z1,z2,z3]
  have HR:Hid _:=hr
  clear hr
  go_wp2
  go_ret
  refine⟨?_,hg6⟩
  rw[HR.out]
  rfl
 go_wp2_with fail
 refine(rnum _ _ _).mono ?_
 rintro e w7 ⟨rfl,rfl⟩
 have hr:or5 (cI (rkR k) (rkR 0)) c1 (cI a 0) (cI k 0) (cI b 0)=cI b 0:=by simp[or5,z0,z1,z2,z3]
 have HR:Hid _:=hr
 clear hr
 go_wp2
 go_ret
 refine⟨?_,hg6⟩
 rw[HR.out]
 rfl
theorem rCmp_11(k a b k' a' b':Int)(s s':ByteArray)(hs:s.size≤4611686018427387904)(hs':s'.size≤4611686018427387904)(h1:∀w,Calls prog 26 #[V k a b s] w fun e w'=>e=.returned (.bool true)∧G w w')(h2:∀w,Calls prog 26 #[V k' a' b' s'] w fun e w'=>e=.returned (.bool true)∧G w w')(w:World) :
  Calls prog 19 #[V k a b s,V k' a' b' s'] w fun e w'=>e=.returned (.int .i64 (cmpR k k' a b a' b' s s'))∧G w w':=by
 have H1:Hid _:=h1
 have H2:Hid _:=h2
 have H3:Hid _:=rtexts s s' hs hs'
 unfold cmpR
 generalize hc1:compareBytes s.data.toList s'.data.toList=c1 at H3⊢
 clear hc1
 have hz0:w.heap.size<w.heap.size+1+1:=by omega
 clear h1 h2
 go_enter func19,ntmps19
 go_wp2_with fail
 refine(H1.out _).mono ?_
 rintro e w1 ⟨rfl,hb1⟩
 have hP:Two w w.heap.size (w.heap.size+1) (fun o=>[I k,I a,I b,Value.string s][o]?) (fun o=>[I k',I a',I b',Value.string s'][o]?) w1:=
  Two.keep hb1 ⟨fun o=>by simp,fun o=>by simp,fun o=>by simp,fun o=>by simp,((G.refl w).alloc _).alloc _,by simp;omega,by simp⟩
 clear hb1
 obtain⟨hA1,hB1,hF1,hE1,hg1,hz1,hz1'⟩:=hP
 have hP:Two w w.heap.size (w.heap.size+1) (fun o=>[I k,I a,I b,Value.string s][o]?) (fun o=>[I k',I a',I b',Value.string s'][o]?) w1:=⟨hA1,hB1,hF1,hE1,hg1,hz1,hz1'⟩
 go_wp2_with fail
 clear hA1 hB1 hF1 hE1 hg1 hz1 hz1'
 refine(H2.out _).mono ?_
 rintro e w2 ⟨rfl,hb2⟩
 have hP2:=Two.keep hb2 hP
 clear hP hb2
 have hP:=hP2
 clear hP2
 obtain⟨hA2,hB2,hF2,hE2,hg2,hz2,hz2'⟩:=hP
 have hP:Two w w.heap.size (w.heap.size+1) _ _ w2:=⟨hA2,hB2,hF2,hE2,hg2,hz2,hz2'⟩
 go_wp2_with fail
 clear hA2 hB2 hF2 hE2 hz2 hz2' hg2
 obtain⟨hA3,hB3,_,_,hg3,hz3,hz3'⟩:=hP
 have hS0:(∀(o:Nat),w2.cell? {block:=w.heap.size,off:=o}=[I k,I a,I b,Value.string s][o]?)∧(∀(o:Nat),w2.cell? {block:=w.heap.size+1,off:=o}=[I k',I a',I b',Value.string s'][o]?)∧G w w2∧w.heap.size<w2.heap.size∧w.heap.size+1<w2.heap.size:=⟨hA3,hB3,hg3,hz3,hz3'⟩
 clear hA3 hB3 hg3 hz3 hz3'
 go_region_held3 (fun W=>(∀(o:Nat),W.cell? {block:=w.heap.size,off:=o}=[I k,I a,I b,Value.string s][o]?)∧(∀(o:Nat),W.cell? {block:=w.heap.size+1,off:=o}=[I k',I a',I b',Value.string s'][o]?)∧G w W∧w.heap.size<W.heap.size∧w.heap.size+1<W.heap.size)
  ((first|assumption|exact keepE2 (by assumption)|exact keepC2 hb5 (by assumption)|exact keepC2 hb5 (keepE2 (by assumption))|exact keepE2 (keepC2 hb5 (by assumption))))
  (first|(go_at_call 51;refine(rrank _ _ _ _ _).mono ?_;rintro e w5 ⟨rfl,hb5⟩)|(go_at_call 50;refine(rnum _ _ _).mono ?_;rintro e w5 ⟨rfl,rfl⟩)|fail)
 rename_i hH
 obtain⟨hA4,hB4,hg4,hz4,hz4'⟩:=hH
 by_cases z0:cI (rkR k) (rkR k')=0
 rotate_left 1
 ·have n0:(cI (rkR k) (rkR k')==0)=false:=by simpa using z0
  have hr:or5 (cI (rkR k) (rkR k')) c1 (cI a a') (cI k k') (cI b b')=cI (rkR k) (rkR k'):=by simp[or5,z0]
  have HR:Hid _:=hr
  clear hr
  go_wp2
  go_ret
  refine⟨?_,hg4⟩
  rw[HR.out]
  rfl
 go_wp2_with fail
 refine(H3.out _).mono ?_
 rintro e w6 ⟨rfl,hb6⟩
 obtain⟨hA6,hB6,hg6,hz6,hz6'⟩:=keepC2 hb6 ⟨hA4,hB4,hg4,hz4,hz4'⟩
 clear hb6 hA4 hB4
 by_cases z1:c1=0
 rotate_left 1
 ·have n1:(c1==0)=false:=by simpa using z1
  have hr:or5 (cI (rkR k) (rkR k')) c1 (cI a a') (cI k k') (cI b b')=c1:=by simp[or5,z0,z1]
  have HR:Hid _:=hr
  clear hr
  go_wp2
  go_ret
  refine⟨?_,hg6⟩
  rw[HR.out]
  rfl
 go_wp2_with fail
 refine(rnum _ _ _).mono ?_
 rintro e w7 ⟨rfl,rfl⟩
 by_cases z2:cI a a'=0
 rotate_left 1
 ·have n2:(cI a a'==0)=false:=by simpa using z2
  have hr:or5 (cI (rkR k) (rkR k')) c1 (cI a a') (cI k k') (cI b b')=cI a a':=by simp[or5,z0,z1,z2]
  have HR:Hid _:=hr
  clear hr
  go_wp2
  go_ret
  refine⟨?_,hg6⟩
  rw[HR.out]
  rfl
 go_wp2_with fail
 refine(rnum _ _ _).mono ?_
 rintro e w7 ⟨rfl,rfl⟩
 by_cases z3:cI k k'=0
 rotate_left 1
 ·have n3:(cI k k'==0)=false:=by simpa using z3
  have hr:or5 (cI (rkR k) (rkR k')) c1 (cI a a') (cI k k') (cI b b')=cI k k':=by simp[or5,z0,z1,z2,z3]
  have HR:Hid _:=hr
  clear hr
  go_wp2
  go_ret
  refine⟨?_,hg6⟩
  rw[HR.out]
  rfl
 go_wp2_with fail
 refine(rnum _ _ _).mono ?_
 rintro e w7 ⟨rfl,rfl⟩
 have hr:or5 (cI (rkR k) (rkR k')) c1 (cI a a') (cI k k') (cI b b')=cI b b':=by simp[or5,z0,z1,z2,z3]
 have HR:Hid _:=hr
 clear hr
 go_wp2
 go_ret
 refine⟨?_,hg6⟩
 rw[HR.out]
 rfl
end
section
open Go.RowKit Go.Lib Go.PlainAid Go.Shelf
theorem ion_yes(k a b:Int)(s:ByteArray)(hok:okV k a b s=true)(w:World)(hT:Tabs w):Calls prog 49 #[V k a b s] w fun e w'=>e=.returned (itemV k a b s)∧G w w':=by
 have HI:Hid (∀w,Tabs w→Calls prog 25 #[V k a b s] w fun e w'=>e=.returned (.tuple #[itemV k a b s,.bool true])∧G w w'):=by
  have:=itemOf_any k a b s
  unfold ItemOf at this
  rw[hok] at this
  exact this
 clear hok
 generalize itemV k a b s=x at HI
 go_enter func49,ntmps49
 go_wp2_with fail
 refine(HI.out _ (hT.G ((G.refl w).alloc _))).mono ?_
 rintro e w1 ⟨rfl,hb1⟩
 go_wp2
 go_ret
 exact⟨rfl,((G.refl w).alloc _).trans hb1⟩
theorem ion_no(k a b:Int)(s:ByteArray)(hok:okV k a b s=false)(w:World)(hT:Tabs w):Calls prog 49 #[V k a b s] w fun e w'=>e=.returned (.iface 110 (.agg #[]))∧G w w':=by
 have HI:Hid (∀w,Tabs w→Calls prog 25 #[V k a b s] w fun e w'=>e=.returned (.tuple #[itemV k a b s,.bool false])∧G w w'):=by
  have:=itemOf_any k a b s
  unfold ItemOf at this
  rw[hok] at this
  exact this
 clear hok
 generalize itemV k a b s=x at HI
 go_enter func49,ntmps49
 go_wp2_with fail
 refine(HI.out _ (hT.G ((G.refl w).alloc _))).mono ?_
 rintro e w1 ⟨rfl,hb1⟩
 go_wp2
 go_ret
 exact⟨rfl,((G.refl w).alloc _).trans hb1⟩
noncomputable def ionV(k a b:Int)(s:ByteArray):Value:=if okV k a b s then itemV k a b s else .iface 110 (.agg #[])
theorem ion_any(k a b:Int)(s:ByteArray)(w:World)(hT:Tabs w):Calls prog 49 #[V k a b s] w fun e w'=>e=.returned (ionV k a b s)∧G w w':=by
 unfold ionV
 cases hok:okV k a b s
 ·exact ion_no k a b s hok w hT
 ·exact ion_yes k a b s hok w hT
structure Nz(k a b:Int)(s:ByteArray)(n:Nat)(a1 b1:Int)(s1:ByteArray):Prop where
 lt:n<7
 ok:okV n a1 b1 s1=true
 st:(okV k a b s=true∧k=n∧a=a1∧b=b1∧s=s1)∨(okV k a b s=false∧n=0∧a1=0∧b1=0∧s1=E0)
theorem ok_null:okV 0 0 0 E0=true:=by
 have h:E0.toList=[]:=by rw[ByteArray.toList_eq]
 simp[okV,h]
theorem nz_ex(k a b:Int)(s:ByteArray):∃(n:Nat) (a1 b1:Int) (s1:ByteArray),Nz k a b s n a1 b1 s1:=by
 cases hok:okV k a b s
 ·exact⟨0,0,0,E0,by decide,ok_null,.inr ⟨hok,rfl,rfl,rfl,rfl⟩⟩
 ·have hk:=okV_kind k a b s hok
  obtain⟨n,rfl⟩:∃n:Nat,k=n:=⟨k.toNat,by omega⟩
  exact⟨n,a,b,s,by omega,hok,.inl ⟨hok,rfl,rfl,rfl,rfl⟩⟩
theorem ion_nz{k a b:Int}{s:ByteArray}{n:Nat}{a1 b1:Int}{s1:ByteArray}(h:Nz k a b s n a1 b1 s1):IVal (ionV k a b s) n a1 b1 s1:=by
 unfold ionV
 rcases h.st with ⟨hok,rfl,rfl,rfl,rfl⟩|⟨hok,rfl,rfl,rfl,rfl⟩
 ·rw[hok];exact ival_any _ _ _ _ hok
 ·rw[hok];exact iv_null
def cmpP(n n':Nat)(a b a' b':Int)(s s':ByteArray):Int:=or5 (cI (rkP n) (rkP n')) (cI a a') (cI n n') (cI b b') (compareBytes s.data.toList s'.data.toList)
theorem Compare_any(k a b k' a' b':Int)(s s':ByteArray)(n n':Nat)(a1 b1 a1' b1':Int)(s1 s1':ByteArray)(h:Nz k a b s n a1 b1 s1)(h':Nz k' a' b' s' n' a1' b1' s1')(w:World)(hT:Tabs w)(hR:Rks w) :
  Calls prog 18 #[V k a b s,V k' a' b' s'] w fun e w'=>e=.returned (.int .i64 (cmpP n n' a1 b1 a1' b1' s1 s1'))∧G w w':=by
 have H1:Hid (∀k a b s W,G w W→Calls prog 49 #[V k a b s] W fun e w'=>e=.returned (ionV k a b s)∧G W w'):=fun k a b s W g=>ion_any k a b s W (hT.G g)
 have H3:Hid (∀W,G w W→Calls prog 48 #[ionV k a b s,ionV k' a' b' s'] W fun e w'=>e=.returned (.int .i64 (cmpP n n' a1 b1 a1' b1' s1 s1'))∧G W w'):=fun W g=>compare_any _ _ n n' a1 b1 a1' b1' s1 s1' (ion_nz h) (ion_nz h') h.lt h'.lt W (hR.G g)
 generalize cmpP n n' a1 b1 a1' b1' s1 s1'=r at H3
 clear h h' hT hR
 have hc0:∀o,((w.alloc (.cells #[I k,I a,I b,.string s] 31)).alloc (.cells #[I k',I a',I b',.string s'] 31)).cell? {block:=w.heap.size,off:=o}=[I k,I a,I b,Value.string s][o]?:=fun o=>by simp
 have hc1:∀o,((w.alloc (.cells #[I k,I a,I b,.string s] 31)).alloc (.cells #[I k',I a',I b',.string s'] 31)).cell? {block:=w.heap.size+1,off:=o}=[I k',I a',I b',Value.string s'][o]?:=fun o=>by simp
 have hg0:G w ((w.alloc (.cells #[I k,I a,I b,.string s] 31)).alloc (.cells #[I k',I a',I b',.string s'] 31)):=((G.refl w).alloc _).alloc _
 have hz0:w.heap.size<((w.alloc (.cells #[I k,I a,I b,.string s] 31)).alloc (.cells #[I k',I a',I b',.string s'] 31)).heap.size:=by simp;omega
 have hz1:w.heap.size+1<((w.alloc (.cells #[I k,I a,I b,.string s] 31)).alloc (.cells #[I k',I a',I b',.string s'] 31)).heap.size:=by simp
 go_enter func18,ntmps18
 go_wp2
 generalize (w.alloc (.cells #[I k,I a,I b,.string s] 31)).alloc (.cells #[I k',I a',I b',.string s'] 31)=w1 at hc0 hc1 hg0 hz0 hz1⊢
 have hS0:(∀(o:Nat),w1.cell? {block:=w.heap.size,off:=o}=[I k,I a,I b,Value.string s][o]?)∧(∀(o:Nat),w1.cell? {block:=w.heap.size+1,off:=o}=[I k',I a',I b',Value.string s'][o]?)∧G w w1∧w.heap.size<w1.heap.size∧w.heap.size+1<w1.heap.size:=⟨hc0,hc1,hg0,hz0,hz1⟩
 clear hc0 hc1 hg0 hz0 hz1
 go_region_held3 (fun W=>(∀(o:Nat),W.cell? {block:=w.heap.size,off:=o}=[I k,I a,I b,Value.string s][o]?)∧(∀(o:Nat),W.cell? {block:=w.heap.size+1,off:=o}=[I k',I a',I b',Value.string s'][o]?)∧G w W∧w.heap.size<W.heap.size∧w.heap.size+1<W.heap.size)
  ((first|assumption|exact keepE2 (by assumption)|exact keepC2 hb5 (by assumption)|exact keepC2 hb5 (keepE2 (by assumption))|exact keepE2 (keepC2 hb5 (by assumption))))
  (first|(go_at_call 49;refine(H1.out _ _ _ _ _ (by first|assumption|exact G.drew (by assumption)|exact And.left (And.right (And.right (by assumption)))|exact G.drew (And.left (And.right (And.right (by assumption)))))).mono ?_;rintro e w5 ⟨rfl,hb5⟩)|(go_at_call 48;refine(H3.out _ (by first|assumption|exact G.drew (by assumption)|exact And.left (And.right (And.right (by assumption)))|exact G.drew (And.left (And.right (And.right (by assumption)))))).mono ?_;rintro e w5 ⟨rfl,hb5⟩)|fail)
 rename_i hH
 obtain⟨hc2,hc3,hg2,hz2,hz3⟩:=hH
 go_wp2
 go_ret
 exact⟨rfl,hg2⟩
theorem rv_nz{k a b:Int}{s:ByteArray}(q:Bool)(hs:s.size≤4611686018427387904)(hok:okV k a b s=q)(w:World):Calls prog 26 #[V k a b s] w fun e w'=>e=.returned (.bool q)∧G w w':=by
 have:=rv_any k a b s hs w
 rw[hok] at this
 exact this
theorem rCmp_any(k a b k' a' b':Int)(s s':ByteArray)(hs:s.size≤4611686018427387904)(hs':s'.size≤4611686018427387904)(n n':Nat)(a1 b1 a1' b1':Int)(s1 s1':ByteArray)(h:Nz k a b s n a1 b1 s1)(h':Nz k' a' b' s' n' a1' b1' s1')(w:World) :
  Calls prog 19 #[V k a b s,V k' a' b' s'] w fun e w'=>e=.returned (.int .i64 (cmpR n n' a1 b1 a1' b1' s1 s1'))∧G w w':=by
 rcases h.st with ⟨hok,rfl,rfl,rfl,rfl⟩|⟨hok,rfl,rfl,rfl,rfl⟩<;>rcases h'.st with ⟨hok',rfl,rfl,rfl,rfl⟩|⟨hok',rfl,rfl,rfl,rfl⟩
 ·exact rCmp_11 _ _ _ _ _ _ _ _ hs hs' (rv_nz true hs hok) (rv_nz true hs' hok') w
 ·exact rCmp_10 _ _ _ _ _ _ _ _ hs (rv_nz true hs hok) (rv_nz false hs' hok') w
 ·exact rCmp_01 _ _ _ _ _ _ _ _ hs' (rv_nz false hs hok) (rv_nz true hs' hok') w
 ·exact rCmp_00 _ _ _ _ _ _ _ _ (rv_nz false hs hok) (rv_nz false hs' hok') w
theorem cI_zero{x y:Int}:cI x y=0↔x=y:=by
 unfold cI
 constructor
 ·intro h
  by_cases c:x<y
  ·rw[if_pos c] at h;omega
  ·rw[if_neg c] at h
   by_cases d:y<x
   ·rw[if_pos d] at h;omega
   ·omega
 ·rintro rfl;simp
theorem cI_rank(n n':Nat)(h:n<7)(h':n'<7):cI (rkP n) (rkP n')=cI (rkR n) (rkR n'):=by
 have a:n=0∨n=1∨n=2∨n=3∨n=4∨n=5∨n=6:=by omega
 have b:n'=0∨n'=1∨n'=2∨n'=3∨n'=4∨n'=5∨n'=6:=by omega
 rcases a with rfl|rfl|rfl|rfl|rfl|rfl|rfl<;>rcases b with rfl|rfl|rfl|rfl|rfl|rfl|rfl<;>rfl
theorem rank_str{n n':Nat}{a b a' b':Int}{s s':ByteArray}(h:n<7)(h':n'<7)(ok:okV n a b s=true)(ok':okV n' a' b' s'=true)(he:rkR n=rkR n') :
  (a=0∧a'=0∧b=0∧b'=0∧n=n')∨(s=E0∧s'=E0):=by
 have c:n=0∨n=1∨n=2∨n=3∨n=4∨n=5∨n=6:=by omega
 have d:n'=0∨n'=1∨n'=2∨n'=3∨n'=4∨n'=5∨n'=6:=by omega
 have st:∀(m:Nat) (x y:Int) (t:ByteArray),m<7→m≠4→okV m x y t=true→t=E0:=by
  intro m x y t hm h4 hk
  have e:m=0∨m=1∨m=2∨m=3∨m=5∨m=6:=by omega
  rcases e with rfl|rfl|rfl|rfl|rfl|rfl
  ·exact(ok_0 hk).2.2
  ·exact(ok_1 hk).2.2
  ·exact(ok_2 hk).2
  ·exact(ok_3 hk).2.2
  ·exact(ok_5 hk).2
  ·exact(ok_6 hk).2
 by_cases e:n=4
 ·subst e
  have e':n'=4:=by
   rcases d with rfl|rfl|rfl|rfl|rfl|rfl|rfl<;>first|rfl|(exact absurd he (by decide))
  subst e'
  exact .inl ⟨(ok_4 ok).1,(ok_4 ok').1,(ok_4 ok).2.1,(ok_4 ok').2.1,rfl⟩
 ·have e':n'≠4:=by
   rintro rfl
   rcases c with rfl|rfl|rfl|rfl|rfl|rfl|rfl<;>first|(exact absurd rfl e)|(exact absurd he (by decide))
  exact .inr ⟨st n a b s h e ok,st n' a' b' s' h' e' ok'⟩
theorem cmp_same{n n':Nat}{a b a' b':Int}{s s':ByteArray}(h:n<7)(h':n'<7)(ok:okV n a b s=true)(ok':okV n' a' b' s'=true):cmpP n n' a b a' b' s s'=cmpR n n' a b a' b' s s':=by
 unfold cmpP cmpR
 rw[cI_rank n n' h h']
 by_cases he:rkR n=rkR n'
 ·have z:cI (rkR n) (rkR n')=0:=cI_zero.2 he
  rcases rank_str h h' ok ok' he with ⟨rfl,rfl,rfl,rfl,rfl⟩|⟨rfl,rfl⟩
  ·have z1:cI 0 0=0:=rfl
   have z2:cI (n:Int) n=0:=cI_zero.2 rfl
   simp only[or5,z,z1,z2]
   simp
  ·have z1:compareBytes E0.data.toList E0.data.toList=0:=rfl
   simp only[or5,z,z1]
   by_cases c1:cI a a'=0
   ·by_cases c2:cI (n:Int) n'=0
    ·by_cases c3:cI b b'=0
     iterate 2
      ·simp[c1,c2,c3]
    ·simp[c1,c2]
   ·simp[c1]
 ·have z:cI (rkR n) (rkR n')≠0:=fun e=>he (cI_zero.1 e)
  simp[or5,z]
end
end Go.Proofs.YthmdjhfbhbheeaaGreatDoor
