import Derived.Laws.AppendOwn
import Derived.OwnWalk
import Derived.WalkKit
import Derived.Test.YthmdjhfbhbheeaaGreatDoorBinAg
import Derived.Test.YthmdjhfbhbheeaaGreatDoorRefAr
namespace Go.Proofs.YthmdjhfbhbheeaaGreatDoor
open Go.Proofs.Tryz
set_option maxHeartbeats 2000000
set_option maxRecDepth 100000
section
open Go.RowKit Go.Lib Go.Shelf
attribute [local go_sem] eqV neqV
def ArA(op k a b k' a' b':Int)(s s':ByteArray):Prop:=∃(rv:Value) (c rk ra rb:Int) (rs:ByteArray),(∀w,CG 88 #[.int .i64 op,zAb k a b s,zAb k' a' b' s'] w (.tuple #[rv,.int .i64 c]))∧
 (∀w,CG 35 #[rv,.int .i64 c] w (.tuple #[V rk ra rb rs,.int .i64 c]))∧(∀w,CG 47 #[.int .i64 op,V k a b s,V k' a' b' s'] w (.tuple #[V rk ra rb rs,.int .i64 c]))
def WwA(op a a':Int):Prop:=∃(rv:Value) (c rk ra rb:Int) (rs:ByteArray),(∀w,CG 122 #[.int .i64 op,.int .i64 a,.int .i64 a'] w (.tuple #[rv,.int .i64 c]))∧
 (∀w,CG 35 #[rv,.int .i64 c] w (.tuple #[V rk ra rb rs,.int .i64 c]))∧(∀w,CG 89 #[.int .i64 op,.int .i64 a,.int .i64 a'] w (.tuple #[V rk ra rb rs,.int .i64 c]))
theorem zXf(a b:Int)(ha:I64 a)(hb:I64 b):WwA 1 a b:=by
 by_cases h:I64 (a+b)
 ·exact⟨_,0,_,_,_,_,zQW a b h,zAg _,zLS a b ha hb h⟩
 ·exact⟨_,11,_,_,_,_,zGq a b ha hb h,zAa _ 11 (by decide),zFi a b ha hb h⟩
theorem zXe(a b:Int)(ha:I64 a)(hb:I64 b):WwA 2 a b:=by
 by_cases hm:b = -9223372036854775808
 ·subst hm
  by_cases h:a<0
  ·have h64:I64 (a - -9223372036854775808):=by obtain⟨h1,h2⟩:=ha;constructor<;>omega
   have:=zGA a ha h;rw[show a+9223372036854775808=a - -9223372036854775808 by omega] at this;exact⟨_,0,_,_,_,_,zIr a _ h64,zAg _,this⟩
  ·have h64:¬I64 (a - -9223372036854775808):=by unfold I64;omega
   exact⟨_,11,_,_,_,_,zDp a _ ha hb h64,zAa _ 11 (by decide),zEu a h⟩
 ·by_cases h:I64 (a-b)
  ·exact⟨_,0,_,_,_,_,zIr a b h,zAg _,zLO a b ha hb (beq_false_of_ne hm) h⟩
  ·exact⟨_,11,_,_,_,_,zDp a b ha hb h,zAa _ 11 (by decide),zFf a b ha hb (beq_false_of_ne hm) h⟩
theorem zXd(a b:Int)(ha:I64 a)(hb:I64 b):WwA 3 a b:=by
 by_cases h:I64 (a*b)
 ·exact⟨_,0,_,_,_,_,zQV a b h hb,zAg _,zLP a b ha hb h⟩
 ·exact⟨_,11,_,_,_,_,zGp a b ha hb h,zAa _ 11 (by decide),zFg a b ha hb h⟩
theorem zXc(a b:Int)(ha:I64 a):WwA 4 a b:=by
 by_cases h0:b=0
 ·subst h0
  exact⟨_,12,_,_,_,_,zFD 4 a (.inl rfl),zAa _ 12 (by decide),zGz a⟩
 ·by_cases h1:b = -1
  ·subst h1
   by_cases hm:a = -9223372036854775808
   ·subst hm
    exact⟨_,11,_,_,_,_,zE7 _ _ _ _ rfl zC9,zAa _ 11 (by decide),zEv⟩
   ·have e:a.tdiv (-1) = -a:=by rw[Int.tdiv_neg,Int.tdiv_one]
    have hw:wrap64 (a.tdiv (-1)) = -a:=by rw[e];obtain⟨h1,h2⟩:=ha;unfold wrap64;omega
    exact⟨_,0,_,_,_,_,zE7 _ _ _ _ rfl (zCi a (-1) _ (by decide) (.inl (beq_false_of_ne hm)) hw),zAg _,zGC a (by obtain⟨h1,h2⟩:=ha;omega) ha.2⟩
  ·have hw:=w64 (zDr a b ha h0 (fun h=>h1 h.2))
   exact⟨_,0,_,_,_,_,zE7 _ _ _ _ (beq_false_of_ne h0) (zCi a b _ h0 (.inr (beq_false_of_ne h1)) hw),zAg _,zLR a b _ (beq_false_of_ne h0) (beq_false_of_ne h1) h0 hw⟩
theorem zXb(a b:Int)(ha:I64 a):WwA 5 a b:=by
 by_cases h0:b=0
 ·subst h0
  exact⟨_,12,_,_,_,_,zFD 5 a (.inr rfl),zAa _ 12 (by decide),zGy a⟩
 ·by_cases h1:b = -1
  ·subst h1
   have e:a.tmod (-1)=0:=by rw[Int.tmod_neg,Int.tmod_one]
   by_cases hm:a = -9223372036854775808
   ·subst hm
    exact⟨_,0,_,_,_,_,zE6 _ _ _ rfl (by decide) e,zAg _,zFh⟩
   ·exact⟨_,0,_,_,_,_,zE6 _ _ _ rfl (by decide) e,zAg _,zGB a (by obtain⟨h1,h2⟩:=ha;omega) ha.2⟩
  ·have hw:=w64 (zDr a b ha h0 (fun h=>h1 h.2))
   have hmi:=zIC a b ha;have t1:=Int.tmod_add_mul_tdiv a b
   have hp:b*a.tdiv b=a-a.tmod b:=by omega
   have e:(a.tmod b).natAbs=a.natAbs%b.natAbs:=Int.natAbs_tmod a b;have hle:a.natAbs%b.natAbs≤a.natAbs:=Nat.mod_le _ _
   have hsg:I64 (a-a.tmod b):=by
    obtain⟨h1,h2⟩:=ha
    by_cases c:0≤a
    ·have:=Int.tmod_nonneg b c
     constructor<;>omega
    ·have h3:(-a).tmod b = -(a.tmod b):=Int.neg_tmod a b
     have h4:=Int.tmod_nonneg b (show 0≤-a by omega)
     constructor<;>omega
   have hpw:wrap64 (b*a.tdiv b)=a-a.tmod b:=by rw[hp];exact w64 hsg
   have hs:wrap64 (a-(a-a.tmod b))=a.tmod b:=by
    rw[show a-(a-a.tmod b)=a.tmod b by omega];exact w64 hmi
   exact⟨_,0,_,_,_,_,zE6 _ _ _ (beq_false_of_ne h0) h0 rfl,zAg _,zLQ a b _ _ _ (beq_false_of_ne h0) (beq_false_of_ne h1) h0 hw hpw hs⟩
theorem zRG(op a b:Int)(h1:1≤op)(h5:op≤5)(ha:I64 a)(hb:I64 b):WwA op a b:=by
 have:op=1∨op=2∨op=3∨op=4∨op=5:=by omega
 rcases this with rfl|rfl|rfl|rfl|rfl
 ·exact zXf a b ha hb
 ·exact zXe a b ha hb
 ·exact zXd a b ha hb
 ·exact zXc a b ha
 ·exact zXb a b ha
theorem zCV{x:Value}{k a b:Int}{s:ByteArray}(h:IVal x k a b s)(w:World):CG 35 #[x,.int .i64 0] w (.tuple #[V k a b s,.int .i64 0]):=by
 obtain⟨t,f,v,rfl,hm,hf,g1⟩:=h;have H:Hid _:=g1;clear g1
 go_enter func35,ntmps35
 go_wp2_with fail
 refine(H.out _).mono ?_;rintro e w1 ⟨rfl,hb1⟩;obtain⟨hc1,hf1⟩:=hb1.rules
 go_wp2
 exact bodyPost_ret (v:=.tuple #[V k a b s,.int .i64 0]) (by simp[results,results35,go_sem,hc1]) rfl ⟨rfl,by
  have g4:G w w1:=((G.refl w).alloc _).trans hb1
  repeat(first|exact g4|refine G.alloc ?_ _|refine G.setCell ?_ (by simp;try omega) _)⟩
theorem zLz(op a b a' b':Int)(s s':ByteArray)(h1:1≤op)(h2:op≤5)(rk ra rb:Int)(rs:ByteArray)(c:Int)(h:∀w,CG 89 #[.int .i64 op,.int .i64 a,.int .i64 a'] w (.tuple #[V rk ra rb rs,.int .i64 c])):∀w,CG 47 #[.int .i64 op,V 2 a b s,V 2 a' b' s'] w (.tuple #[V rk ra rb rs,.int .i64 c]):=by
 have h5:op=1∨op=2∨op=3∨op=4∨op=5:=by omega
 rcases h5 with rfl|rfl|rfl|rfl|rfl
 ·exact zOZ a b a' b' s s' rk ra rb rs c h
 ·exact zOY a b a' b' s s' rk ra rb rs c h
 ·exact zOX a b a' b' s s' rk ra rb rs c h
 ·exact zOW a b a' b' s s' rk ra rb rs c h
 ·exact zOV a b a' b' s s' rk ra rb rs c h
theorem zFn(op a b a' b':Int)(s s':ByteArray)(h1:1≤op)(h2:op≤5)(rk ra rb:Int)(rs:ByteArray)(c:Int)(p1:∀w,Calls prog 73 #[.int .i64 a] w fun e w'=>e=.returned (.bool true)∧w'=w)(p2:∀w,Calls prog 73 #[.int .i64 a'] w fun e w'=>e=.returned (.bool true)∧w'=w)(h:∀w,CG 90 #[.int .i64 op,.int .i64 a,.int .i64 b,.int .i64 a',.int .i64 b'] w (.tuple #[V rk ra rb rs,.int .i64 c])):∀w,CG 47 #[.int .i64 op,V 2 a b s,V 3 a' b' s'] w (.tuple #[V rk ra rb rs,.int .i64 c]):=by
 have h5:op=1∨op=2∨op=3∨op=4∨op=5:=by omega
 rcases h5 with rfl|rfl|rfl|rfl|rfl
 ·exact zHO a b a' b' s s' rk ra rb rs c p1 p2 h
 ·exact zHL a b a' b' s s' rk ra rb rs c p1 p2 h
 ·exact zHI a b a' b' s s' rk ra rb rs c p1 p2 h
 ·exact zHF a b a' b' s s' rk ra rb rs c p1 p2 h
 ·exact zHC a b a' b' s s' rk ra rb rs c p1 p2 h
theorem zFm(op a b a' b':Int)(s s':ByteArray)(h1:1≤op)(h2:op≤5)(rk ra rb:Int)(rs:ByteArray)(c:Int)(p1:∀w,Calls prog 73 #[.int .i64 a] w fun e w'=>e=.returned (.bool true)∧w'=w)(p2:∀w,Calls prog 73 #[.int .i64 a'] w fun e w'=>e=.returned (.bool true)∧w'=w)(h:∀w,CG 90 #[.int .i64 op,.int .i64 a,.int .i64 b,.int .i64 a',.int .i64 b'] w (.tuple #[V rk ra rb rs,.int .i64 c])):∀w,CG 47 #[.int .i64 op,V 3 a b s,V 2 a' b' s'] w (.tuple #[V rk ra rb rs,.int .i64 c]):=by
 have h5:op=1∨op=2∨op=3∨op=4∨op=5:=by omega
 rcases h5 with rfl|rfl|rfl|rfl|rfl
 ·exact zHN a b a' b' s s' rk ra rb rs c p1 p2 h
 ·exact zHK a b a' b' s s' rk ra rb rs c p1 p2 h
 ·exact zHH a b a' b' s s' rk ra rb rs c p1 p2 h
 ·exact zHE a b a' b' s s' rk ra rb rs c p1 p2 h
 ·exact zHB a b a' b' s s' rk ra rb rs c p1 p2 h
theorem zFl(op a b a' b':Int)(s s':ByteArray)(h1:1≤op)(h2:op≤5)(rk ra rb:Int)(rs:ByteArray)(c:Int)(p1:∀w,Calls prog 73 #[.int .i64 a] w fun e w'=>e=.returned (.bool true)∧w'=w)(p2:∀w,Calls prog 73 #[.int .i64 a'] w fun e w'=>e=.returned (.bool true)∧w'=w)(h:∀w,CG 90 #[.int .i64 op,.int .i64 a,.int .i64 b,.int .i64 a',.int .i64 b'] w (.tuple #[V rk ra rb rs,.int .i64 c])):∀w,CG 47 #[.int .i64 op,V 3 a b s,V 3 a' b' s'] w (.tuple #[V rk ra rb rs,.int .i64 c]):=by
 have h5:op=1∨op=2∨op=3∨op=4∨op=5:=by omega
 rcases h5 with rfl|rfl|rfl|rfl|rfl
 ·exact zHM a b a' b' s s' rk ra rb rs c p1 p2 h
 ·exact zHJ a b a' b' s s' rk ra rb rs c p1 p2 h
 ·exact zHG a b a' b' s s' rk ra rb rs c p1 p2 h
 ·exact zHD a b a' b' s s' rk ra rb rs c p1 p2 h
 ·exact zHA a b a' b' s s' rk ra rb rs c p1 p2 h
theorem zUY(op a b a' b':Int)(s s':ByteArray)(h1:1≤op)(h2:op≤5)(p1:∀w,Calls prog 73 #[.int .i64 a] w fun e w'=>e=.returned (.bool false)∧w'=w):∀w,CG 47 #[.int .i64 op,V 2 a b s,V 3 a' b' s'] w (.tuple #[V0,.int .i64 11]):=by
 have h5:op=1∨op=2∨op=3∨op=4∨op=5:=by omega
 rcases h5 with rfl|rfl|rfl|rfl|rfl
 ·exact zKE a b a' b' s s' p1
 ·exact zKC a b a' b' s s' p1
 ·exact zKA a b a' b' s s' p1
 ·exact zKy a b a' b' s s' p1
 ·exact zKw a b a' b' s s' p1
theorem zUX(op a b a' b':Int)(s s':ByteArray)(h1:1≤op)(h2:op≤5)(p1:∀w,Calls prog 73 #[.int .i64 a] w fun e w'=>e=.returned (.bool true)∧w'=w)(p2:∀w,Calls prog 73 #[.int .i64 a'] w fun e w'=>e=.returned (.bool false)∧w'=w):∀w,CG 47 #[.int .i64 op,V 3 a b s,V 2 a' b' s'] w (.tuple #[V0,.int .i64 11]):=by
 have h5:op=1∨op=2∨op=3∨op=4∨op=5:=by omega
 rcases h5 with rfl|rfl|rfl|rfl|rfl
 ·exact zKD a b a' b' s s' p1 p2
 ·exact zKB a b a' b' s s' p1 p2
 ·exact zKz a b a' b' s s' p1 p2
 ·exact zKx a b a' b' s s' p1 p2
 ·exact zKv a b a' b' s s' p1 p2
theorem zMy(k a b:Int)(s:ByteArray)(hok:okV k a b s=true)(h0:k≠0):∃(p q:Nat) (c:Int),(c=0∨c=10∨c=11)∧INum (zAb k a b s) p q c:=by
 by_cases h2:k=2
 ·subst h2
  rw[zAP hok]
  by_cases hp:P25 a
  ·exact⟨_,_,0,.inl rfl,zC3 a hp.1 hp.2⟩
  ·exact⟨_,_,11,.inr (.inr rfl),zBm a (zAC hp)⟩
 ·by_cases h3:k=3
  ·subst h3
   rw[zBO hok];exact⟨_,_,0,.inl rfl,zBP _ _⟩
  ·exact⟨_,_,10,.inr (.inl rfl),zNr k a b s hok h0 h2 h3⟩
theorem mk_l(op:Int)(x y:Value)(p q p' q':Nat)(c':Int)(hc:c'=0∨c'=10∨c'=11)(hx:INum x p q 10)(hy:INum y p' q' c'):∀w,CG 123 #[.int .i64 op,x,y] w (.tuple #[.nilIface,.int .i64 10]):=by
 rcases hc with rfl|rfl|rfl
 ·exact zTr op x y p q p' q' hx hy
 ·exact zJb op x y p q p' q' hx hy
 ·exact zPz op x y p q p' q' hx hy
theorem mk_r(op:Int)(x y:Value)(p q p' q':Nat)(c:Int)(hc:c=0∨c=10∨c=11)(hx:INum x p q c)(hy:INum y p' q' 10):∀w,CG 123 #[.int .i64 op,x,y] w (.tuple #[.nilIface,.int .i64 10]):=by
 rcases hc with rfl|rfl|rfl
 ·exact zMF op x y p q p' q' hx hy
 ·exact zJb op x y p q p' q' hx hy
 ·exact zPy op x y p q p' q' hx hy
theorem zUv(op:Int)(h1:1≤op)(h5:op≤5)(a b k' a' b':Int)(s s':ByteArray)(hok:okV 4 a b s=true)(hok':okV k' a' b' s'=true):ArA op 4 a b k' a' b' s s':=by
 have hl:=(ok_4 hok).2.2.1;unfold ArA;rw[zBB hok]
 by_cases c':k'=4
 ·subst c'
  have hl':=(ok_4 hok').2.2.1;rw[zBB hok']
  by_cases h:op=1
  ·subst h
   by_cases hz:s.size+s'.size≤32
   ·exact⟨_,0,_,_,_,_,zWZ s s' _ _ (zXR s s' hz),zCV (zRg (s++s')),zVs a b a' b' s s' hz⟩
   ·exact⟨_,11,_,_,_,_,zWZ s s' _ _ (zXS s s' (by omega) (by omega) (by omega)),zAa _ 11 (by decide),zL9 a b a' b' s s' (by omega) (by omega) (by omega)⟩
  ·exact⟨_,10,_,_,_,_,zYF op s s' (beq_false_of_ne h),zAa _ 10 (by decide),zSx op 4 a b 4 a' b' s s' (beq_false_of_ne h) rfl rfl⟩
 ·exact⟨_,10,_,_,_,_,zYG op s _ (zCa k' a' b' s' hok' c'),zAa _ 10 (by decide),zSv op a b k' a' b' s s' (beq_false_of_ne c')⟩
theorem zYD(op:Int)(k a b k' a' b':Int)(s s':ByteArray)(hok:okV k a b s=true)(hok':okV k' a' b' s'=true)(hk:k≠0)(hk':k'≠0)(h2:k≠2)(h3:k≠3)(h4:k≠4):ArA op k a b k' a' b' s s':=by
 obtain⟨p,q,c,hc,hy⟩:=zMy k' a' b' s' hok' hk';exact⟨_,10,_,_,_,_,zHh op _ _ _ _ (zCa k a b s hok h4) (zBH k a b s hok h2) (mk_l op _ _ _ _ _ _ c hc (zNr k a b s hok hk h2 h3) hy),zAa _ 10 (by decide),zSw op k a b k' a' b' s s' (beq_false_of_ne h4) (beq_false_of_ne h2) (beq_false_of_ne h3)⟩
theorem zYC(op:Int)(h1:1≤op)(h5:op≤5)(a b k' a' b':Int)(s s':ByteArray)(hok:okV 2 a b s=true)(hok':okV k' a' b' s'=true)(hk':k'≠0)(ha:I64 a)(ha':I64 a'):ArA op 2 a b k' a' b' s s':=by
 obtain⟨rfl,rfl⟩:=ok_2 hok;unfold ArA
 by_cases c2:k'=2
 ·subst c2
  obtain⟨rfl,rfl⟩:=ok_2 hok';rw[zAP hok,zAP hok'];obtain⟨rv,c,rk,ra,rb,rs,g1,g2,g3⟩:=zRG op a a' h1 h5 ha ha';exact⟨rv,c,rk,ra,rb,rs,zJM op a a' _ _ g1,g2,zLz op a 0 a' 0 E0 E0 h1 h5 rk ra rb rs c g3⟩
 ·have hn:=zBH k' a' b' s' hok' c2
  by_cases c3:k'=3
  ·subst c3
   obtain⟨pa,pb,rfl⟩:=ok_3 hok';rw[zAP hok];rw[zBO hok'] at hn⊢
   by_cases hp:P25 a
   ·obtain⟨rv,c,rk,ra,rb,rs,g1,g2,g3⟩:=zIf (x:=fl a) (y:=0) (z:=fl a') (t:=fl b') (a:=a) (b:=0) (Fl.ofInt a (by have:=hp.abs;omega)) Fl.zero (Fl.ofInt a' (by omega)) (Fl.ofInt b' (by omega)) hp ⟨by decide,by decide⟩ pa pb op h1 h5
    exact⟨rv,c,rk,ra,rb,rs,zN4 op a _ _ _ hn (zFr op _ _ _ _ _ _ (zC3 a hp.1 hp.2) (zBP _ _) rv c g1),g2,zFn op a 0 a' b' E0 E0 h1 h5 rk ra rb rs c (zAk _ _ (zAf hp)) (zAk _ _ (zAf pa)) g3⟩
   ·exact⟨_,11,_,_,_,_,zN4 op a _ _ _ hn (zMD op _ _ _ _ _ _ (zBm a (zAC hp)) (zBP _ _)),zAa _ 11 (by decide),zUY op a 0 a' b' E0 E0 h1 h5 (zAk _ _ (zAC hp))⟩
  ·have hy:=zNr k' a' b' s' hok' hk' c2 c3
   obtain⟨p,q,c,hc,hx⟩:=zMy 2 a 0 E0 hok (by decide);rw[zAP hok] at hx⊢;exact⟨_,10,_,_,_,_,zN4 op a _ _ _ hn (mk_r op _ _ _ _ _ _ c hc hx hy),zAa _ 10 (by decide),zO1 op a 0 k' a' b' E0 s' (beq_false_of_ne c2) (beq_false_of_ne c3)⟩
theorem zYE(op:Int)(h1:1≤op)(h5:op≤5)(a b k' a' b':Int)(s s':ByteArray)(hok:okV 3 a b s=true)(hok':okV k' a' b' s'=true)(hk':k'≠0):ArA op 3 a b k' a' b' s s':=by
 have n1:=zCa 3 a b s hok (by decide);have n2:=zBH 3 a b s hok (by decide);obtain⟨pa,pb,rfl⟩:=ok_3 hok;have fa:=Fl.ofInt a (show a.natAbs<2^53 by omega);have fb:=Fl.ofInt b (show b.natAbs<2^53 by omega);unfold ArA;rw[zBO hok] at n1 n2⊢
 by_cases c2:k'=2
 ·subst c2
  obtain⟨rfl,rfl⟩:=ok_2 hok';rw[zAP hok']
  by_cases hp:P25 a'
  ·obtain⟨rv,c,rk,ra,rb,rs,g1,g2,g3⟩:=zIf (z:=fl a') (t:=0) (c:=a') (d:=0) fa fb (Fl.ofInt a' (by have:=hp.abs;omega)) Fl.zero pa pb hp ⟨by decide,by decide⟩ op h1 h5
   exact⟨rv,c,rk,ra,rb,rs,zHh op _ _ _ _ n1 n2 (zFr op _ _ _ _ _ _ (zBP _ _) (zC3 a' hp.1 hp.2) rv c g1),g2,zFm op a b a' 0 E0 E0 h1 h5 rk ra rb rs c (zAk _ _ (zAf pa)) (zAk _ _ (zAf hp)) g3⟩
  ·exact⟨_,11,_,_,_,_,zHh op _ _ _ _ n1 n2 (zME op _ _ _ _ _ _ (zBP _ _) (zBm a' (zAC hp))),zAa _ 11 (by decide),zUX op a b a' 0 E0 E0 h1 h5 (zAk _ _ (zAf pa)) (zAk _ _ (zAC hp))⟩
 ·by_cases c3:k'=3
  ·subst c3
   obtain⟨qa,qb,rfl⟩:=ok_3 hok';rw[zBO hok'];obtain⟨rv,c,rk,ra,rb,rs,g1,g2,g3⟩:=zIf fa fb (Fl.ofInt a' (show a'.natAbs<2^53 by omega)) (Fl.ofInt b' (show b'.natAbs<2^53 by omega)) pa pb qa qb op h1 h5;exact⟨rv,c,rk,ra,rb,rs,zHh op _ _ _ _ n1 n2 (zFr op _ _ _ _ _ _ (zBP _ _) (zBP _ _) rv c g1),g2,zFl op a b a' b' E0 E0 h1 h5 rk ra rb rs c (zAk _ _ (zAf pa)) (zAk _ _ (zAf qa)) g3⟩
  ·exact⟨_,10,_,_,_,_,zHh op _ _ _ _ n1 n2 (zMF op _ _ _ _ _ _ (zBP _ _) (zNr k' a' b' s' hok' hk' c2 c3)),zAa _ 10 (by decide),zO0 op a b k' a' b' E0 s' (beq_false_of_ne c2) (beq_false_of_ne c3)⟩
theorem zUw(op:Int)(h1:1≤op)(h5:op≤5)(k a b k' a' b':Int)(s s':ByteArray)(hok:okV k a b s=true)(hok':okV k' a' b' s'=true)(hk:k≠0)(hk':k'≠0)(ha:I64 a)(ha':I64 a'):ArA op k a b k' a' b' s s':=by
 by_cases c4:k=4
 ·subst c4;exact zUv op h1 h5 a b k' a' b' s s' hok hok'
 by_cases c2:k=2
 ·subst c2;exact zYC op h1 h5 a b k' a' b' s s' hok hok' hk' ha ha'
 by_cases c3:k=3
 ·subst c3;exact zYE op h1 h5 a b k' a' b' s s' hok hok' hk'
 exact zYD op k a b k' a' b' s s' hok hok' hk hk' c2 c3 c4
theorem zWV(op:Int)(h1:1≤op)(h5:op≤5)(k a b k' a' b':Int)(s s':ByteArray)(hok:okV k a b s=true)(hok':okV k' a' b' s'=true)(hs:s.size≤4611686018427387904)(hs':s'.size≤4611686018427387904)(hk:k≠0)(hk':k'≠0)(ha:I64 a)(ha':I64 a'):AgB op k a b k' a' b' s s':=by
 obtain⟨rv,c,rk,ra,rb,rs,g1,g2,g3⟩:=zUw op h1 h5 k a b k' a' b' s s' hok hok' hk hk' ha ha';have g0:∀w,RdyB w→CG 41 #[.int .i64 op,zAb k a b s,zAb k' a' b' s'] w (.tuple #[rv,.int .i64 c]):=fun w _=>zG7 op h1 h5 _ _ _ _ (zAe k a b s hok hk) (zAe k' a' b' s' hok' hk') g1 w
 have d5:op=1∨op=2∨op=3∨op=4∨op=5:=by omega
 rcases d5 with rfl|rfl|rfl|rfl|rfl
 ·exact bag (by decide) (by decide) hok hok' rv c rk ra rb rs g0 g2 (rB_1 _ _ _ _ _ _ _ _ _ _ _ _ _ (beq_false_of_ne hk) (beq_false_of_ne hk') (rvok hok hs) (rvok hok' hs') g3)
 ·exact bag (by decide) (by decide) hok hok' rv c rk ra rb rs g0 g2 (rB_2 _ _ _ _ _ _ _ _ _ _ _ _ _ (beq_false_of_ne hk) (beq_false_of_ne hk') (rvok hok hs) (rvok hok' hs') g3)
 ·exact bag (by decide) (by decide) hok hok' rv c rk ra rb rs g0 g2 (rB_3 _ _ _ _ _ _ _ _ _ _ _ _ _ (beq_false_of_ne hk) (beq_false_of_ne hk') (rvok hok hs) (rvok hok' hs') g3)
 ·exact bag (by decide) (by decide) hok hok' rv c rk ra rb rs g0 g2 (rB_4 _ _ _ _ _ _ _ _ _ _ _ _ _ (beq_false_of_ne hk) (beq_false_of_ne hk') (rvok hok hs) (rvok hok' hs') g3)
 ·exact bag (by decide) (by decide) hok hok' rv c rk ra rb rs g0 g2 (rB_5 _ _ _ _ _ _ _ _ _ _ _ _ _ (beq_false_of_ne hk) (beq_false_of_ne hk') (rvok hok hs) (rvok hok' hs') g3)
theorem zG8(op:Int)(k a b k' a' b':Int)(s s':ByteArray)(hs:s.size≤4611686018427387904)(hs':s'.size≤4611686018427387904)(ha:I64 a)(ha':I64 a'):AgB op k a b k' a' b' s s':=by
 by_cases ho:op<1∨18<op
 ·exact⟨_,_,_,_,_,fun w _=>zK8 op k a b k' a' b' s s' ho w,zVx op k a b k' a' b' s s' ho⟩
 have o1:1≤op:=by omega
 have o2:op≤18:=by omega
 cases hok:okV k a b s
 ·exact⟨_,_,_,_,_,fun w hR=>zIp op k a b k' a' b' s s' o1 o2 hok w hR.1,zSL op o1 o2 k a b k' a' b' s s' (zD4 false hs hok)⟩
 cases hok':okV k' a' b' s'
 ·exact⟨_,_,_,_,_,fun w hR=>zIo op k a b k' a' b' s s' o1 o2 hok hok' w hR.1,zSK op o1 o2 k a b k' a' b' s s' (zD4 true hs hok) (zD4 false hs' hok')⟩
 by_cases n12:op=12
 ·subst n12;exact zYy k a b k' a' b' s s' hok hok' hs hs'
 by_cases n13:op=13
 ·subst n13;exact zYx k a b k' a' b' s s' hok hok' hs hs'
 by_cases n14:op=14
 ·subst n14;exact zYw k a b k' a' b' s s' hok hok' hs hs'
 by_cases hk:k=0
 ·exact bn_1 op o1 o2 n12 n13 n14 k a b k' a' b' s s' hok hok' hs hs' hk
 by_cases hk':k'=0
 ·exact bn_2 op o1 o2 n12 n13 n14 k a b k' a' b' s s' hok hok' hs hs' hk hk'
 by_cases h5:op≤5
 ·exact zWV op o1 h5 k a b k' a' b' s s' hok hok' hs hs' hk hk' ha ha'
 have d:op=6∨op=7∨op=8∨op=9∨op=10∨op=11∨op=15∨op=16∨op=17∨op=18:=by omega
 rcases d with rfl|rfl|rfl|rfl|rfl|rfl|rfl|rfl|rfl|rfl
 ·exact be_6 k a b k' a' b' s s' hok hok' hs hs' hk hk'
 ·exact be_7 k a b k' a' b' s s' hok hok' hs hs' hk hk'
 ·exact br_8 k a b k' a' b' s s' hok hok' hs hs' hk hk'
 ·exact br_9 k a b k' a' b' s s' hok hok' hs hs' hk hk'
 ·exact zYv k a b k' a' b' s s' hok hok' hs hs' hk hk'
 ·exact zYu k a b k' a' b' s s' hok hok' hs hs' hk hk'
 ·exact zYt k a b k' a' b' s s' hok hok' hs hs' hk hk'
 ·exact zYB k a b k' a' b' s s' hok hok' hs hs' hk hk'
 ·exact zYs k a b k' a' b' s s' hok hok' hs hs' hk hk'
 ·exact zYr k a b k' a' b' s s' hok hok' hs hs' hk hk'
theorem zS8(e:Ent)(hk:e.kind=3)(h:AgB e.op e.k e.a e.b e.k' e.a' e.b' e.s e.s')(w:World)(hT:RdyB w):CG 7 #[e.V] w (.bool true):=by
 obtain⟨kind,op,k,a,b,s,k',a',b',s',vs,st,tt,bb,n,x,y,o1,o2⟩:=e;simp only at hk h;subst hk;obtain⟨rk,ra,rb,rs,rc,hA,hB⟩:=h;have HA:Hid _:=hA;have HB:Hid _:=hB;clear hA hB
 go_enter func7,ntmps7
 go_wp2_with fail
 refine(HA.out _ (hT.G ((G.refl w).alloc _))).mono ?_;rintro e w1 ⟨rfl,hb1⟩;have g1:G w w1:=((G.refl w).alloc _).trans hb1;have hc1:=G.cells hb1 (b:=w.heap.size) (f:=fun o=>[I 3,I op,I k,I a,I b,.string s,I k',I a',I b',.string s',vs,.string st,.string tt,bb,I n,I x,I y,I o1,I o2][o]?) (by simp) (by simp)
 have hz1:w.heap.size<w1.heap.size:=by have:=hb1.size;simp at this;omega
 clear hb1
 go_wp2_with fail
 refine(HB.out _).mono ?_;rintro e w2 ⟨rfl,hb2⟩;have g2:G w w2:=(g1.alloc _).trans hb2;have hc2:=G.cells hb2 (b:=w1.heap.size) (f:=fun o=>[I rk,I ra,I rb,.string rs][o]?) (by simp) (by simp)
 have hz2:w1.heap.size<w2.heap.size:=by have:=hb2.size;simp at this;omega
 clear hb2 hc1
 go_wp2
 go_ret;exact⟨rfl,g2.alloc _⟩
theorem zG6(W:World)(hT:RdyB W)(e:Ent)(h:zDn W e)(h1:3≤e.kind)(h2:e.kind≤3)(w':World)(g:G W w'):Calls prog 7 #[e.V] w' fun r w''=>r=.returned (.bool true)∧G w' w'':=
 zS8 e (by omega) (zG8 _ _ _ _ _ _ _ _ _ (by have:=h.s;unfold reachBytes at this;omega) (by have:=h.s';unfold reachBytes at this;omega) h.a h.a') w' (hT.G g)
end
section
open Go.RowKit Go.Lib Go.Shelf
abbrev Qd:=Int×Int×Int×ByteArray
abbrev Qd.C(q:Qd):List Value:=[I q.1,I q.2.1,I q.2.2.1,.string q.2.2.2]
abbrev Qd.W(q:Qd):Value:=V q.1 q.2.1 q.2.2.1 q.2.2.2
def Qd.ok(q:Qd):Bool:=okV q.1 q.2.1 q.2.2.1 q.2.2.2
noncomputable def Qd.it(q:Qd):Value:=zAb q.1 q.2.1 q.2.2.1 q.2.2.2
def VRow(w:World)(x:Value)(L:List Qd):Prop:=(x=.slice none 0 0∧L=[])∨∃(b off cap:Nat),x=.slice (some ⟨b,off,none⟩) L.length cap∧L.length≤cap∧∀i q,L[i]?=some q→∀j,j<4→w.cell? ⟨b,off+(i*4+j),none⟩=q.C[j]?
def IRow(w:World)(x:Value)(X:List Value):Prop:=(x=.slice none 0 0∧X=[])∨∃(g cap:Nat),x=.slice (some ⟨g,0,none⟩) X.length cap∧X.length≤cap∧∀i u,X[i]?=some u→w.cell? ⟨g,i,none⟩=some u
theorem zDa{w:World}{b o:Nat}{u:Value}(h:w.cell? ⟨b,o,none⟩=some u):b<w.heap.size:=Nat.lt_of_not_le fun hle=>by
 have:w.heap[b]?=none:=Array.getElem?_eq_none hle;simp[World.cell?,this] at h
theorem zMh(q:Qd)(j:Nat)(hj:j<4):∃u,q.C[j]?=some u:=by
 have:j=0∨j=1∨j=2∨j=3:=by omega
 rcases this with rfl|rfl|rfl|rfl<;>exact⟨_,rfl⟩
theorem VRow.G{w w':World}{x:Value}{L:List Qd}(h:VRow w x L)(g:G w w'):VRow w' x L:=by
 rcases h with h|⟨b,off,cap,rfl,hc,hcell⟩
 ·exact .inl h
 ·refine .inr ⟨b,off,cap,rfl,hc,fun i q hi j hj=>?_⟩
  have h0:=hcell i q hi j hj;obtain⟨u,hu⟩:=zMh q j hj;rw[hu] at h0⊢;exact(g.cell (zDa h0)).trans h0
theorem IRow.G{w w':World}{x:Value}{X:List Value}(h:IRow w x X)(g:G w w'):IRow w' x X:=by
 rcases h with h|⟨b,cap,rfl,hc,hcell⟩
 ·exact .inl h
 ·exact .inr ⟨b,cap,rfl,hc,fun i u hi=>(g.cell (zDa (hcell i u hi))).trans (hcell i u hi)⟩
theorem G.grown{w w':World}(g:G w w'):w.grownBy w' none:=⟨g.os,g.tape,g.output,g.size,fun k hk _=>g.block k hk⟩
theorem zCe{w w':World}{base:Nat}{e:TypeId}{size:Nat}{v:Value}{n:Nat}{xs:List Value}(h:w.ownsRow base e size v n xs)(g:G w w'):w'.ownsRow base e size v n xs:=
 h.kept g.grown (by cases h2:v.ownBlock<;>simp)
theorem zPr{w:World}{base:Nat}{e:TypeId}{v:Value}{xs:List Value}(h:w.ownsRow base e 1 v xs.length xs):IRow w v xs:=by
 rcases h.2 with ⟨rfl,hn⟩|⟨g,cap,cur,rfl,_,hh,hc,_,hs,ht⟩
 ·exact .inl ⟨rfl,List.eq_nil_of_length_eq_zero hn⟩
 ·refine .inr ⟨g,cap,rfl,hc,fun i u hi=>?_⟩
  have:=h.cells (g:=g) rfl i u hi
  have e:(⟨g,0,none⟩:Addr).add i=⟨g,i,none⟩:=by
   by_cases c:i=0
   ·subst c;rfl
   ·simp[Addr.add,c]
  rw[e] at this;exact this
noncomputable def zAz(L:List Qd):List Value:=(L.filter fun q=>q.1 != 0).map Qd.it
theorem zTJ:(prog.info? 49).map (fun i=>(i.zero,i.size,i.bytes))=some (some .nilIface,1,16):=by kernel_rfl
theorem zCv{L:List Qd}{m:Nat}{q:Qd}(h:L[m]?=some q):L.take (m+1)=L.take m++[q]:=by
 rw[List.take_add_one,h];rfl
theorem zFu{L:List Qd}{m:Nat}{q:Qd}(h:L[m]?=some q):zAz (L.take (m+1))=zAz (L.take m)++(if q.1 != 0 then [q.it] else []):=by
 unfold zAz;rw[zCv h,List.filter_append,List.map_append]
 congr 1
 by_cases c:(q.1 != 0)=true
 ·simp[List.filter,c]
 ·have c':(q.1 != 0)=false:=by simpa using c
  simp[List.filter,c']
theorem zPO(L:List Qd)(m:Nat):(zAz (L.take m)).length≤L.length:=by
 unfold zAz;rw[List.length_map];exact Nat.le_trans (List.length_filter_le _ _) (by simp;omega)
theorem zV8(q:Qd)(h:q.ok=true):q.it.oneCell'=true:=by
 obtain⟨k,a,b,s⟩:=q;unfold Qd.ok at h;unfold Qd.it;simp only at h⊢;have hk:=zAp k a b s h
 have:k=0∨k=1∨k=2∨k=3∨k=4∨k=5∨k=6:=by omega
 rcases this with rfl|rfl|rfl|rfl|rfl|rfl|rfl
 ·rw[zEK h];rfl
 ·rw[zDu h];rfl
 ·rw[zAP h];rfl
 ·rw[zBO h];rfl
 ·rw[zBB h];rfl
 ·rw[zE4 h];rfl
 ·rw[zE3 h];rfl
theorem zBa{w:World}{b off n cap:Nat}{L:List Qd}(h:VRow w (.slice (some ⟨b,off,none⟩) n cap) L){i:Nat}{q:Qd}(hi:L[i]?=some q) :
  w.cell? ⟨b,off+i*4,none⟩=some (I q.1)∧w.cell? ⟨b,off+i*4+1,none⟩=some (I q.2.1)∧w.cell? ⟨b,off+i*4+2,none⟩=some (I q.2.2.1)∧w.cell? ⟨b,off+i*4+3,none⟩=some (.string q.2.2.2):=by
 rcases h with ⟨h,_⟩|⟨b',off',cap',he,_,hc⟩
 ·cases h
 ·cases he
  exact⟨hc i q hi 0 (by decide),by rw[Nat.add_assoc];exact hc i q hi 1 (by decide),by rw[Nat.add_assoc];exact hc i q hi 2 (by decide),by rw[Nat.add_assoc];exact hc i q hi 3 (by decide)⟩
theorem zC5{L:List Qd}{m:Nat}{q:Qd}(h:L[m]?=some q)(h1:(L.take m).all Qd.ok=true)(h2:q.ok=true):(L.take (m+1)).all Qd.ok=true:=by
 rw[zCv h,List.all_append,h1];simp[h2]
theorem zFB{L:List Qd}{m:Nat}{q:Qd}(h:L[m]?=some q)(h2:q.ok=false):L.all Qd.ok=false:=by
 rw[List.all_eq_false];exact⟨q,List.mem_of_getElem? h,by simp[h2]⟩
theorem zKR(b off cap:Nat)(L:List Qd)(w:World)(hT:Tabs w)(hV:VRow w (.slice (some ⟨b,off,none⟩) L.length cap) L)(hn:L.length*40≤140737488351232) :
  Calls prog 95 #[.slice (some ⟨b,off,none⟩) L.length cap] w fun e w'=>((L.all Qd.ok=true∧∃x',e=.returned (.tuple #[x',.bool true])∧IRow w' x' (zAz L))∨(L.all Qd.ok=false∧e=.returned (.tuple #[.slice none 0 0,.bool false])))∧G w w':=by
 obtain⟨i0,hi,hz0,hz1,hz2⟩:=info_parts zTJ;have HV:Hid _:=hV;clear hV
 go_enter func95,ntmps95
 go_wp2
 go_loopw [4,11] (fun x i W=>∃m:Nat,m≤L.length∧i=.int .i64 m∧G w W∧W.ownsRow w.heap.size 49 1 x (zAz (L.take m)).length (zAz (L.take m))∧(L.take m).all Qd.ok=true) (fun _ i _=>L.length-(RowKit.intOf i).toNat)
 case atStart=>exact⟨0,by omega,rfl,G.refl _,World.ownsRow_nil _ _ _ _,rfl⟩
 case round=>
  obtain⟨m,hm,rfl,hG,hown,hall⟩:=hrel
  by_cases hlt:m<L.length
  ·obtain⟨q,hq⟩:∃q,L[m]?=some q:=⟨L[m],List.getElem?_eq_getElem hlt⟩
   obtain⟨h0,h1,h2,h3⟩:=zBa (VRow.G HV.out hG) hq
   have R1:Hid (q.ok=true→q.1=0→zAz (L.take (m+1))=zAz (L.take m)):=fun _ hk=>by rw[zFu hq,hk];simp
   have R2:Hid (q.1≠0→zAz (L.take (m+1))=zAz (L.take m)++[q.it]):=fun hk=>by rw[zFu hq];simp[hk]
   have R3:Hid (q.ok=true→(L.take (m+1)).all Qd.ok=true):=zC5 hq hall;have R4:Hid (q.ok=false→L.all Qd.ok=false):=zFB hq;have R5:Hid (q.ok=true→q.it.oneCell'=true):=zV8 q;have hle:=zPO L m;clear hq hall;obtain⟨k,a,b',s⟩:=q;simp only[Qd.ok,Qd.it] at R1 R2 R3 R4 R5 h0 h1 h2 h3;have HI:Hid _:=zEM k a b' s
   have HN:Hid (okV k a b' s=true→∀w,CG 83 #[zAb k a b' s] w (.bool (k==0))):=fun hok=>by
    by_cases hk:k=0
    ·subst hk
     rw[zEK hok];exact zH3
    ·rw[beq_false_of_ne hk];exact zAe k a b' s hok hk
   have HG:Hid (G w wr):=hG;have HO:Hid (wr.ownsRow w.heap.size 49 1 _ (zAz (L.take m)).length (zAz (L.take m))):=hown;clear hown hG;cases hok:okV k a b' s
   ·have R4':Hid _:=R4.out hok
    rw[hok] at HI;clear HN R1 R2 R3 R4 R5 hok;generalize zAb k a b' s=x at HI
    go_wp2_with fail
    refine(HI.out _ (hT.G (HG.out.alloc _))).mono ?_;rintro e w1 ⟨rfl,hb1⟩
    go_wp2
    go_ret2
    exact⟨.inr ⟨R4'.out,rfl⟩,(HG.out.alloc _).trans hb1⟩
   ·have HN':Hid _:=HN.out hok
    have R1':Hid _:=R1.out hok;have R3':Hid _:=R3.out hok;obtain⟨t,_,v,hx,_⟩:=zAA k a b' s hok;rw[hok] at HI;rw[hx] at HI HN' R2;clear HN R1 R3 R4 R5 hok hx
    go_wp2_with fail
    refine(HI.out _ (hT.G (HG.out.alloc _))).mono ?_;rintro e w1 ⟨rfl,hb1⟩;have g1:G wr w1:=((G.refl _).alloc _).trans hb1;have HG1:Hid (G w w1):=HG.out.trans g1;have HO1:Hid (w1.ownsRow w.heap.size 49 1 _ (zAz (L.take m)).length (zAz (L.take m))):=zCe HO.out g1;clear hb1 g1
    go_wp2_with fail
    refine(HN'.out _).mono ?_;rintro e w2 ⟨rfl,hb2⟩;have HG2:Hid (G w w2):=HG1.out.trans hb2;have HO2:Hid (w2.ownsRow w.heap.size 49 1 _ (zAz (L.take m)).length (zAz (L.take m))):=zCe HO1.out hb2;clear hb2
    by_cases hk:k=0
    ·have R1'':Hid _:=R1'.out hk
     clear R1';subst hk
     go_wp2
     go_roundw
     case rel=>exact⟨m+1,by omega,by go_num,HG2.out,by rw[R1''.out];exact HO2.out,R3'.out⟩
     case measure=>simp[RowKit.intOf];omega
    ·have hk':(k==0)=false:=beq_false_of_ne hk
     have R2':Hid _:=R2.out hk;clear R2
     go_wp2_with (at_builtin;refine wpList_append_own _ rfl _ _ 119 rfl w.heap.size 49 i0 .nilIface 1 16 underlying119 hi hz0 hz1 hz2 rfl (by decide) _ _ _ rfl (World.ownsRow.alloc HO2.out _) ⟨w2.heap.size,0,none⟩ 1 1 [.iface t v] rfl rfl ?c1 ?c2 ?c3 ?c4 ?c5 ?_)
     case c1=>
      intro j u hj
      match j,hj with
      | 0,hj=>simp at hj;subst hj;simp[Addr.add]
     case c2=>intro u hu;simp at hu;subst hu;rfl
     case c3=>unfold maxLen;omega
     case c4=>omega
     case c5=>have:=HG2.out.size;simp;omega
     intro x' w3 hown3 hgrow _;have HG3:Hid (G w w3):=Below.grown (HG2.out.alloc _) hgrow (by have:=HG2.out.size;simp;omega) (fun g hg=>(World.ownsRow.lt HO2.out g hg).1)
     have HO3:Hid (w3.ownsRow w.heap.size 49 1 x' (zAz (L.take (m+1))).length (zAz (L.take (m+1)))):=by
      rw[R2'.out,List.length_append];exact hown3
     clear hown3 hgrow
     go_wp2
     go_roundw
     case rel=>exact⟨m+1,by omega,by go_num,HG3.out,HO3.out,R3'.out⟩
     case measure=>simp[RowKit.intOf];omega
  ·have e:L.take m=L:=List.take_of_length_le (by omega)
   rw[e] at hown hall;have HO:Hid (wr.ownsRow w.heap.size 49 1 _ (zAz L).length (zAz L)):=hown;have HA:Hid _:=hall;have HG:Hid (G w wr):=hG;clear hown hall hG e
   go_wp2
   go_ret2
   exact⟨.inl ⟨HA.out,_,rfl,zPr HO.out⟩,HG.out⟩
end
end Go.Proofs.YthmdjhfbhbheeaaGreatDoor
