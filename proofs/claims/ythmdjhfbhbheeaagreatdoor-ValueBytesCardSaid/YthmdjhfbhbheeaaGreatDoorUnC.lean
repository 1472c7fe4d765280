import Derived.Laws.RangeAny
import Derived.Test.YthmdjhfbhbheeaaGreatDoorProd
namespace Go.Proofs.YthmdjhfbhbheeaaGreatDoor
open Go.Proofs.Tryz
set_option maxHeartbeats 1000000
set_option maxRecDepth 100000
section
open Go.RowKit Go.Lib
theorem zAx (w:World):CG 36 #[.bool true] w (V 1 1 0 E0):=by
 go_enter func36,ntmps36
 go_wp2
 exact bodyPost_ret (v:=V 1 1 0 E0) (by simp[results,results36,go_sem]) rfl ⟨rfl,by repeat(first|exact G.refl _|refine G.alloc ?_ _|refine G.setCell ?_ (by simp) _)⟩
theorem zAL (w:World):CG 36 #[.bool false] w (V 1 0 0 E0):=by
 go_enter func36,ntmps36
 go_wp2
 exact bodyPost_ret (v:=V 1 0 0 E0) (by simp[results,results36,go_sem]) rfl ⟨rfl,by repeat(first|exact G.refl _|refine G.alloc ?_ _|refine G.setCell ?_ (by simp) _)⟩
theorem rwhole(n:Int)(w:World):CG 39 #[.int .i64 n] w (V 2 n 0 E0):=by
 go_enter func39,ntmps39
 go_wp2
 exact bodyPost_ret (v:=V 2 n 0 E0) (by simp[results,results39,go_sem]) rfl ⟨rfl,by repeat(first|exact G.refl _|refine G.alloc ?_ _|refine G.setCell ?_ (by simp) _)⟩
theorem rpair(a b:Int)(w:World):CG 80 #[.int .i64 a,.int .i64 b] w (V 3 a b E0):=by
 go_enter func80,ntmps80
 go_wp2
 exact bodyPost_ret (v:=V 3 a b E0) (by simp[results,results80,go_sem]) rfl ⟨rfl,by repeat(first|exact G.refl _|refine G.alloc ?_ _|refine G.setCell ?_ (by simp) _)⟩
theorem zVb(n:Int)(h1:-9223372036854775808<n)(h2:n≤9223372036854775807)(w:World):CG 37 #[.int .i64 1,.int .i64 n] w (.tuple #[V 2 (-n) 0 E0,.int .i64 0]):=by
 have H:Hid _:=zBJ n h1 h2;clear h1 h2
 go_enter func37,ntmps37
 go_wp2_with fail
 refine(H.out _).mono ?_;rintro e w1 ⟨rfl,rfl⟩
 go_wp2_with fail
 refine(rwhole _ _).mono ?_;rintro e w1 ⟨rfl,hb1⟩;obtain⟨hc1,hf1⟩:=hb1.rules
 go_wp2
 exact bodyPost_ret (v:=.tuple #[V 2 (-n) 0 E0,.int .i64 0]) (by simp[results,results37,go_sem,hc1]) rfl ⟨rfl,by
  have gg:G _ w1:=((G.refl _).alloc _).trans hb1
  repeat(first|exact gg|refine G.alloc ?_ _|refine G.setCell ?_ (by simp;try omega) _)⟩
theorem zLT (w:World):CG 37 #[.int .i64 1,.int .i64 (-9223372036854775808)] w (.tuple #[V0,.int .i64 11]):=by
 have H:Hid _:=zB6
 go_enter func37,ntmps37
 go_wp2_with fail
 refine(H.out _).mono ?_;rintro e w1 ⟨rfl,rfl⟩
 go_wp2
 exact bodyPost_ret (v:=.tuple #[V0,.int .i64 11]) (by simp[results,results37,go_sem]) rfl ⟨rfl,by repeat(first|exact G.refl _|refine G.alloc ?_ _|refine G.setCell ?_ (by simp) _)⟩
theorem zVc(n:Int)(h0:n<0)(h1:-9223372036854775808<n)(h2:n≤9223372036854775807)(w:World):CG 37 #[.int .i64 8,.int .i64 n] w (.tuple #[V 2 (-n) 0 E0,.int .i64 0]):=by
 have H:Hid _:=zBJ n h1 h2;clear h1 h2
 go_enter func37,ntmps37
 go_wp2_with fail
 refine(H.out _).mono ?_;rintro e w1 ⟨rfl,rfl⟩
 go_wp2_with fail
 refine(rwhole _ _).mono ?_;rintro e w1 ⟨rfl,hb1⟩;obtain⟨hc1,hf1⟩:=hb1.rules
 go_wp2
 exact bodyPost_ret (v:=.tuple #[V 2 (-n) 0 E0,.int .i64 0]) (by simp[results,results37,go_sem,hc1]) rfl ⟨rfl,by
  have gg:G _ w1:=((G.refl _).alloc _).trans hb1
  repeat(first|exact gg|refine G.alloc ?_ _|refine G.setCell ?_ (by simp;try omega) _)⟩
theorem zLU (w:World):CG 37 #[.int .i64 8,.int .i64 (-9223372036854775808)] w (.tuple #[V0,.int .i64 11]):=by
 have H:Hid _:=zB6
 go_enter func37,ntmps37
 go_wp2_with fail
 refine(H.out _).mono ?_;rintro e w1 ⟨rfl,rfl⟩
 go_wp2
 exact bodyPost_ret (v:=.tuple #[V0,.int .i64 11]) (by simp[results,results37,go_sem]) rfl ⟨rfl,by repeat(first|exact G.refl _|refine G.alloc ?_ _|refine G.setCell ?_ (by simp) _)⟩
theorem zHy(n:Int)(h0:¬n<0)(w:World):CG 37 #[.int .i64 8,.int .i64 n] w (.tuple #[V 2 n 0 E0,.int .i64 0]):=by
 go_enter func37,ntmps37
 go_wp2_with fail
 refine(rwhole _ _).mono ?_;rintro e w1 ⟨rfl,hb1⟩;obtain⟨hc1,hf1⟩:=hb1.rules
 go_wp2
 exact bodyPost_ret (v:=.tuple #[V 2 n 0 E0,.int .i64 0]) (by simp[results,results37,go_sem,hc1]) rfl ⟨rfl,by
  have gg:G _ w1:=((G.refl _).alloc _).trans hb1
  repeat(first|exact gg|refine G.alloc ?_ _|refine G.setCell ?_ (by simp;try omega) _)⟩
theorem ri_3(n:Int)(w:World):CG 37 #[.int .i64 3,.int .i64 n] w (.tuple #[V 2 n 0 E0,.int .i64 0]):=by
 go_enter func37,ntmps37
 go_wp2_with fail
 refine(rwhole _ _).mono ?_;rintro e w1 ⟨rfl,hb1⟩;obtain⟨hc1,hf1⟩:=hb1.rules
 go_wp2
 exact bodyPost_ret (v:=.tuple #[V 2 n 0 E0,.int .i64 0]) (by simp[results,results37,go_sem,hc1]) rfl ⟨rfl,by
  have gg:G _ w1:=((G.refl _).alloc _).trans hb1
  repeat(first|exact gg|refine G.alloc ?_ _|refine G.setCell ?_ (by simp;try omega) _)⟩
theorem ri_5(n:Int)(w:World):CG 37 #[.int .i64 5,.int .i64 n] w (.tuple #[V 2 n 0 E0,.int .i64 0]):=by
 go_enter func37,ntmps37
 go_wp2_with fail
 refine(rwhole _ _).mono ?_;rintro e w1 ⟨rfl,hb1⟩;obtain⟨hc1,hf1⟩:=hb1.rules
 go_wp2
 exact bodyPost_ret (v:=.tuple #[V 2 n 0 E0,.int .i64 0]) (by simp[results,results37,go_sem,hc1]) rfl ⟨rfl,by
  have gg:G _ w1:=((G.refl _).alloc _).trans hb1
  repeat(first|exact gg|refine G.alloc ?_ _|refine G.setCell ?_ (by simp;try omega) _)⟩
theorem ri_4(n:Int)(w:World):CG 37 #[.int .i64 4,.int .i64 n] w (.tuple #[V 2 0 0 E0,.int .i64 0]):=by
 go_enter func37,ntmps37
 go_wp2_with fail
 refine(rwhole _ _).mono ?_;rintro e w1 ⟨rfl,hb1⟩;obtain⟨hc1,hf1⟩:=hb1.rules
 go_wp2
 exact bodyPost_ret (v:=.tuple #[V 2 0 0 E0,.int .i64 0]) (by simp[results,results37,go_sem,hc1]) rfl ⟨rfl,by
  have gg:G _ w1:=((G.refl _).alloc _).trans hb1
  repeat(first|exact gg|refine G.alloc ?_ _|refine G.setCell ?_ (by simp;try omega) _)⟩
theorem zVa(n op:Int)(h:op=2∨op=7)(w:World):CG 37 #[.int .i64 op,.int .i64 n] w (.tuple #[V0,.int .i64 10]):=by
 have n1:(op==1)=false:=by simp;omega
 have n3:(op==3)=false:=by simp;omega
 have n5:(op==5)=false:=by simp;omega
 have n4:(op==4)=false:=by simp;omega
 have n6:(op==6)=false:=by simp;omega
 have n8:(op==8)=false:=by simp;omega
 clear h
 go_enter func37,ntmps37
 go_wp2
 exact bodyPost_ret (v:=.tuple #[V0,.int .i64 10]) (by simp[results,results37,go_sem]) rfl ⟨rfl,by repeat(first|exact G.refl _|refine G.alloc ?_ _|refine G.setCell ?_ (by simp) _)⟩
theorem zDS(a b:Int)(ha:I64 a)(hb:I64 b)(h:I64 (a*b))(w:World):Calls prog 79 #[.int .i64 a,.int .i64 b] w fun e w'=>e=.returned (.tuple #[.int .i64 (a*b),.bool true])∧w'=w:=
 (zCy a b ha hb w).mono fun _ _ hh=>⟨hh.1.elim (fun x=>x.2) (fun x=>absurd h x.1),hh.2⟩
theorem zEt(a b:Int)(ha:I64 a)(hb:I64 b)(h:¬I64 (a*b))(w:World):Calls prog 79 #[.int .i64 a,.int .i64 b] w fun e w'=>e=.returned (.tuple #[.int .i64 0,.bool false])∧w'=w:=
 (zCy a b ha hb w).mono fun _ _ hh=>⟨hh.1.elim (fun x=>absurd x.1 h) (fun x=>x.2),hh.2⟩
theorem zSj(n:Int)(hn:I64 n)(h:I64 (n*n))(w:World):CG 37 #[.int .i64 6,.int .i64 n] w (.tuple #[V 2 (n*n) 0 E0,.int .i64 0]):=by
 have H:Hid _:=zDS n n hn hn h;clear h hn
 go_enter func37,ntmps37
 go_wp2_with fail
 refine(H.out _).mono ?_;rintro e w1 ⟨rfl,rfl⟩
 go_wp2_with fail
 refine(rwhole _ _).mono ?_;rintro e w1 ⟨rfl,hb1⟩;obtain⟨hc1,hf1⟩:=hb1.rules
 go_wp2
 exact bodyPost_ret (v:=.tuple #[V 2 (n*n) 0 E0,.int .i64 0]) (by simp[results,results37,go_sem,hc1]) rfl ⟨rfl,by
  have gg:G _ w1:=((G.refl _).alloc _).trans hb1
  repeat(first|exact gg|refine G.alloc ?_ _|refine G.setCell ?_ (by simp;try omega) _)⟩
theorem zKt(n:Int)(hn:I64 n)(h:¬I64 (n*n))(w:World):CG 37 #[.int .i64 6,.int .i64 n] w (.tuple #[V0,.int .i64 11]):=by
 have H:Hid _:=zEt n n hn hn h;clear h hn
 go_enter func37,ntmps37
 go_wp2_with fail
 refine(H.out _).mono ?_;rintro e w1 ⟨rfl,rfl⟩
 go_wp2
 exact bodyPost_ret (v:=.tuple #[V0,.int .i64 11]) (by simp[results,results37,go_sem]) rfl ⟨rfl,by repeat(first|exact G.refl _|refine G.alloc ?_ _|refine G.setCell ?_ (by simp) _)⟩
theorem zVr(a b:Int)(ha1:-33554432≤a)(ha2:a≤33554432)(hb1:-33554432≤b)(hb2:b≤33554432)(w:World):CG 38 #[.int .i64 1,.int .i64 a,.int .i64 b] w (.tuple #[V 3 (-a) (-b) E0,.int .i64 0]):=by
 go_enter func38,ntmps38
 go_wp2_with fail
 refine(rpair _ _ _).mono ?_;rintro e w1 ⟨rfl,hb1⟩;obtain⟨hc1,hf1⟩:=hb1.rules
 go_wp2
 exact bodyPost_ret (v:=.tuple #[V 3 (-a) (-b) E0,.int .i64 0]) (by simp[results,results38,go_sem,hc1]) rfl ⟨rfl,by
  have gg:G w w1:=((G.refl _).alloc _).trans hb1
  repeat(first|exact gg|refine G.alloc ?_ _|refine G.setCell ?_ (by simp;try omega) _)⟩
theorem zXz(a b:Int) (w:World):CG 38 #[.int .i64 3,.int .i64 a,.int .i64 b] w (.tuple #[V 2 a 0 E0,.int .i64 0]):=by
 go_enter func38,ntmps38
 go_wp2_with fail
 refine(rwhole _ _).mono ?_;rintro e w1 ⟨rfl,hb1⟩;obtain⟨hc1,hf1⟩:=hb1.rules
 go_wp2
 exact bodyPost_ret (v:=.tuple #[V 2 a 0 E0,.int .i64 0]) (by simp[results,results38,go_sem,hc1]) rfl ⟨rfl,by
  have gg:G w w1:=((G.refl _).alloc _).trans hb1
  repeat(first|exact gg|refine G.alloc ?_ _|refine G.setCell ?_ (by simp;try omega) _)⟩
theorem zXA(a b:Int) (w:World):CG 38 #[.int .i64 4,.int .i64 a,.int .i64 b] w (.tuple #[V 2 b 0 E0,.int .i64 0]):=by
 go_enter func38,ntmps38
 go_wp2_with fail
 refine(rwhole _ _).mono ?_;rintro e w1 ⟨rfl,hb1⟩;obtain⟨hc1,hf1⟩:=hb1.rules
 go_wp2
 exact bodyPost_ret (v:=.tuple #[V 2 b 0 E0,.int .i64 0]) (by simp[results,results38,go_sem,hc1]) rfl ⟨rfl,by
  have gg:G w w1:=((G.refl _).alloc _).trans hb1
  repeat(first|exact gg|refine G.alloc ?_ _|refine G.setCell ?_ (by simp;try omega) _)⟩
theorem zSu(a b:Int)(hb1:-33554432≤b)(hb2:b≤33554432)(w:World):CG 38 #[.int .i64 5,.int .i64 a,.int .i64 b] w (.tuple #[V 3 a (-b) E0,.int .i64 0]):=by
 go_enter func38,ntmps38
 go_wp2_with fail
 refine(rpair _ _ _).mono ?_;rintro e w1 ⟨rfl,hb1⟩;obtain⟨hc1,hf1⟩:=hb1.rules
 go_wp2
 exact bodyPost_ret (v:=.tuple #[V 3 a (-b) E0,.int .i64 0]) (by simp[results,results38,go_sem,hc1]) rfl ⟨rfl,by
  have gg:G w w1:=((G.refl _).alloc _).trans hb1
  repeat(first|exact gg|refine G.alloc ?_ _|refine G.setCell ?_ (by simp;try omega) _)⟩
theorem zSs(a b:Int)(w1:wrap64 (a*a)=a*a)(w2:wrap64 (b*b)=b*b)(w3:wrap64 (a*a+b*b)=a*a+b*b)(w:World):CG 38 #[.int .i64 6,.int .i64 a,.int .i64 b] w (.tuple #[V 2 (a*a+b*b) 0 E0,.int .i64 0]):=by
 go_enter func38,ntmps38
 go_wp2_with fail
 refine(rwhole _ _).mono ?_;rintro e w1 ⟨rfl,hb1⟩;obtain⟨hc1,hf1⟩:=hb1.rules
 go_wp2
 exact bodyPost_ret (v:=.tuple #[V 2 (a*a+b*b) 0 E0,.int .i64 0]) (by simp[results,results38,go_sem,hc1]) rfl ⟨rfl,by
  have gg:G w w1:=((G.refl _).alloc _).trans hb1
  repeat(first|exact gg|refine G.alloc ?_ _|refine G.setCell ?_ (by simp;try omega) _)⟩
theorem zSt(a b:Int)(op:Int)(h:op=2∨op=7∨op=8)(w:World):CG 38 #[.int .i64 op,.int .i64 a,.int .i64 b] w (.tuple #[V0,.int .i64 10]):=by
 have n1:(op==1)=false:=by simp;omega
 have n3:(op==3)=false:=by simp;omega
 have n5:(op==5)=false:=by simp;omega
 have n4:(op==4)=false:=by simp;omega
 have n6:(op==6)=false:=by simp;omega
 clear h
 go_enter func38,ntmps38
 go_wp2
 exact bodyPost_ret (v:=.tuple #[V0,.int .i64 10]) (by simp[results,results38,go_sem]) rfl ⟨rfl,by repeat(first|exact G.refl _|refine G.alloc ?_ _|refine G.setCell ?_ (by simp) _)⟩
theorem zVw(op k a b:Int)(s:ByteArray)(ho:op<1∨8<op)(w:World) :
  CG 15 #[.int .i64 op,V k a b s] w (.tuple #[V0,.int .i64 1]):=by
 by_cases h:op<1
 ·clear ho
  go_enter func15,ntmps15
  go_wp2
  exact bodyPost_ret (v:=.tuple #[V0,.int .i64 1]) (by simp[results,results15,go_sem]) rfl ⟨rfl,by repeat(first|exact G.refl _|refine G.alloc ?_ _|refine G.setCell ?_ (by simp) _)⟩
 ·have h':8<op:=by omega
  clear ho
  go_enter func15,ntmps15
  go_wp2
  exact bodyPost_ret (v:=.tuple #[V0,.int .i64 1]) (by simp[results,results15,go_sem]) rfl ⟨rfl,by repeat(first|exact G.refl _|refine G.alloc ?_ _|refine G.setCell ?_ (by simp) _)⟩
theorem zVv(k a b:Int)(s:ByteArray)(op:Int)(ho:1≤op)(ho':op≤8)(hs:s.size≤4611686018427387904)(hok:okV k a b s=false)(w:World) :
  CG 15 #[.int .i64 op,V k a b s] w (.tuple #[V0,.int .i64 16]):=by
 have HV:Hid (∀w,CG 26 #[V k a b s] w (.bool false)):=by
  have:=zAm k a b s hs;rw[hok] at this;exact this
 clear hok hs
 go_enter func15,ntmps15
 go_wp2_with fail
 refine(HV.out _).mono ?_;rintro e w1 ⟨rfl,hb1⟩;have hc':=G.cells (b:=w.heap.size) (f:=fun o=>[Value.int IntKind.i64 k,Value.int IntKind.i64 a,Value.int IntKind.i64 b,Value.string s][o]?) (((G.refl _).alloc _).trans hb1) (by simp) (by simp);obtain⟨hc1,hf1⟩:=hb1.rules;have hz1:=hb1.size;simp at hz1
 have hz1':w.heap.size+1<w1.heap.size:=by omega
 go_wp2
 exact bodyPost_ret (v:=.tuple #[V0,.int .i64 16]) (by simp[results,results15,go_sem,hc1]) rfl ⟨rfl,by
  have gg:G w w1:=(((G.refl _).alloc _).alloc _).trans hb1
  repeat(first|exact gg|refine G.alloc ?_ _|refine G.setCell ?_ (by simp;try omega) _)⟩
theorem zSy(a b:Int)(s:ByteArray)(op:Int)(ho:1≤op)(ho':op≤8)(hs:s.size≤4611686018427387904)(hok:okV 0 a b s=true)(w:World) :
  CG 15 #[.int .i64 op,V 0 a b s] w (.tuple #[V 0 a b s,.int .i64 0]):=by
 have HV:Hid (∀w,CG 26 #[V 0 a b s] w (.bool true)):=by
  have:=zAm 0 a b s hs;rw[hok] at this;exact this
 clear hok hs
 go_enter func15,ntmps15
 go_wp2_with fail
 refine(HV.out _).mono ?_;rintro e w1 ⟨rfl,hb1⟩;have hc':=G.cells (b:=w.heap.size) (f:=fun o=>[Value.int IntKind.i64 0,Value.int IntKind.i64 a,Value.int IntKind.i64 b,Value.string s][o]?) (((G.refl _).alloc _).trans hb1) (by simp) (by simp);obtain⟨hc1,hf1⟩:=hb1.rules;have hz1:=hb1.size;simp at hz1
 have hz1':w.heap.size+1<w1.heap.size:=by omega
 go_wp2
 exact bodyPost_ret (v:=.tuple #[V 0 a b s,.int .i64 0]) (by simp[results,results15,go_sem,hc1]) rfl ⟨rfl,by
  have gg:G w w1:=(((G.refl _).alloc _).alloc _).trans hb1
  repeat(first|exact gg|refine G.alloc ?_ _|refine G.setCell ?_ (by simp;try omega) _)⟩
theorem zVt(a b:Int)(s:ByteArray)(ha:a=0) (hs:s.size≤4611686018427387904)(hok:okV 1 a b s=true)(w:World) :
  CG 15 #[.int .i64 2,V 1 a b s] w (.tuple #[V 1 1 0 E0,.int .i64 0]):=by
 have HV:Hid (∀w,CG 26 #[V 1 a b s] w (.bool true)):=by
  have:=zAm 1 a b s hs;rw[hok] at this;exact this
 clear hok hs;have z:a=0:=ha;subst z
 go_enter func15,ntmps15
 go_wp2_with fail
 refine(HV.out _).mono ?_;rintro e w1 ⟨rfl,hb1⟩;have hc':=G.cells (b:=w.heap.size) (f:=fun o=>[Value.int IntKind.i64 1,Value.int IntKind.i64 0,Value.int IntKind.i64 b,Value.string s][o]?) (((G.refl _).alloc _).trans hb1) (by simp) (by simp);obtain⟨hc1,hf1⟩:=hb1.rules;have hz1:=hb1.size;simp at hz1
 have hz1':w.heap.size+1<w1.heap.size:=by omega
 go_wp2_with fail
 refine(zAx _).mono ?_;rintro e w2 ⟨rfl,hb2⟩;obtain⟨hc2,hf2⟩:=hb2.rules
 go_wp2
 exact bodyPost_ret (v:=.tuple #[V 1 1 0 E0,.int .i64 0]) (by simp[results,results15,go_sem,hc2,hc1,hz1']) rfl ⟨rfl,by
  have gg:G w w2:=((((G.refl _).alloc _).alloc _).trans hb1).trans hb2
  repeat(first|exact gg|refine G.alloc ?_ _|refine G.setCell ?_ (by simp;try omega) _)⟩
theorem zSz(a b:Int)(s:ByteArray)(ha:a=1) (hs:s.size≤4611686018427387904)(hok:okV 1 a b s=true)(w:World) :
  CG 15 #[.int .i64 2,V 1 a b s] w (.tuple #[V 1 0 0 E0,.int .i64 0]):=by
 have HV:Hid (∀w,CG 26 #[V 1 a b s] w (.bool true)):=by
  have:=zAm 1 a b s hs;rw[hok] at this;exact this
 clear hok hs;have z:a=1:=ha;subst z
 go_enter func15,ntmps15
 go_wp2_with fail
 refine(HV.out _).mono ?_;rintro e w1 ⟨rfl,hb1⟩;have hc':=G.cells (b:=w.heap.size) (f:=fun o=>[Value.int IntKind.i64 1,Value.int IntKind.i64 1,Value.int IntKind.i64 b,Value.string s][o]?) (((G.refl _).alloc _).trans hb1) (by simp) (by simp);obtain⟨hc1,hf1⟩:=hb1.rules;have hz1:=hb1.size;simp at hz1
 have hz1':w.heap.size+1<w1.heap.size:=by omega
 go_wp2_with fail
 refine(zAL _).mono ?_;rintro e w2 ⟨rfl,hb2⟩;obtain⟨hc2,hf2⟩:=hb2.rules
 go_wp2
 exact bodyPost_ret (v:=.tuple #[V 1 0 0 E0,.int .i64 0]) (by simp[results,results15,go_sem,hc2,hc1,hz1']) rfl ⟨rfl,by
  have gg:G w w2:=((((G.refl _).alloc _).alloc _).trans hb1).trans hb2
  repeat(first|exact gg|refine G.alloc ?_ _|refine G.setCell ?_ (by simp;try omega) _)⟩
theorem zKF(a b:Int)(s:ByteArray)(op:Int)(ho:1≤op)(ho':op≤8)(h2:(op==2)=false)(hs:s.size≤4611686018427387904)(hok:okV 1 a b s=true)(w:World) :
  CG 15 #[.int .i64 op,V 1 a b s] w (.tuple #[V0,.int .i64 10]):=by
 have HV:Hid (∀w,CG 26 #[V 1 a b s] w (.bool true)):=by
  have:=zAm 1 a b s hs;rw[hok] at this;exact this
 clear hok hs
 go_enter func15,ntmps15
 go_wp2_with fail
 refine(HV.out _).mono ?_;rintro e w1 ⟨rfl,hb1⟩;have hc':=G.cells (b:=w.heap.size) (f:=fun o=>[Value.int IntKind.i64 1,Value.int IntKind.i64 a,Value.int IntKind.i64 b,Value.string s][o]?) (((G.refl _).alloc _).trans hb1) (by simp) (by simp);obtain⟨hc1,hf1⟩:=hb1.rules;have hz1:=hb1.size;simp at hz1
 have hz1':w.heap.size+1<w1.heap.size:=by omega
 go_wp2
 exact bodyPost_ret (v:=.tuple #[V0,.int .i64 10]) (by simp[results,results15,go_sem,hc1]) rfl ⟨rfl,by
  have gg:G w w1:=(((G.refl _).alloc _).alloc _).trans hb1
  repeat(first|exact gg|refine G.alloc ?_ _|refine G.setCell ?_ (by simp;try omega) _)⟩
theorem zCq(a b:Int)(s:ByteArray)(op:Int)(ho:1≤op)(ho':op≤8)(rk ra rb:Int)(rs:ByteArray)(c:Int)(h:∀w,CG 37 #[.int .i64 op,.int .i64 a] w (.tuple #[V rk ra rb rs,.int .i64 c]))(hs:s.size≤4611686018427387904)(hok:okV 2 a b s=true)(w:World) :
  CG 15 #[.int .i64 op,V 2 a b s] w (.tuple #[V rk ra rb rs,.int .i64 c]):=by
 have HV:Hid (∀w,CG 26 #[V 2 a b s] w (.bool true)):=by
  have:=zAm 2 a b s hs;rw[hok] at this;exact this
 clear hok hs;have H:Hid _:=h;clear h
 go_enter func15,ntmps15
 go_wp2_with fail
 refine(HV.out _).mono ?_;rintro e w1 ⟨rfl,hb1⟩;have hc':=G.cells (b:=w.heap.size) (f:=fun o=>[Value.int IntKind.i64 2,Value.int IntKind.i64 a,Value.int IntKind.i64 b,Value.string s][o]?) (((G.refl _).alloc _).trans hb1) (by simp) (by simp);obtain⟨hc1,hf1⟩:=hb1.rules;have hz1:=hb1.size;simp at hz1
 have hz1':w.heap.size+1<w1.heap.size:=by omega
 go_wp2_with fail
 refine(H.out _).mono ?_;rintro e w2 ⟨rfl,hb2⟩;obtain⟨hc2,hf2⟩:=hb2.rules
 go_wp2
 exact bodyPost_ret (v:=.tuple #[V rk ra rb rs,.int .i64 c]) (by simp[results,results15,go_sem,hc2,hc1,hz1']) rfl ⟨rfl,by
  have gg:G w w2:=((((G.refl _).alloc _).alloc _).trans hb1).trans hb2
  repeat(first|exact gg|refine G.alloc ?_ _|refine G.setCell ?_ (by simp;try omega) _)⟩
theorem zDU(a b:Int)(s:ByteArray)(op:Int)(ho:1≤op)(ho':op≤8)(rk ra rb:Int)(rs:ByteArray)(c:Int)(h:∀w,CG 38 #[.int .i64 op,.int .i64 a,.int .i64 b] w (.tuple #[V rk ra rb rs,.int .i64 c]))(hs:s.size≤4611686018427387904)(hok:okV 3 a b s=true)(w:World) :
  CG 15 #[.int .i64 op,V 3 a b s] w (.tuple #[V rk ra rb rs,.int .i64 c]):=by
 have HV:Hid (∀w,CG 26 #[V 3 a b s] w (.bool true)):=by
  have:=zAm 3 a b s hs;rw[hok] at this;exact this
 clear hok hs;have H:Hid _:=h;clear h
 go_enter func15,ntmps15
 go_wp2_with fail
 refine(HV.out _).mono ?_;rintro e w1 ⟨rfl,hb1⟩;have hc':=G.cells (b:=w.heap.size) (f:=fun o=>[Value.int IntKind.i64 3,Value.int IntKind.i64 a,Value.int IntKind.i64 b,Value.string s][o]?) (((G.refl _).alloc _).trans hb1) (by simp) (by simp);obtain⟨hc1,hf1⟩:=hb1.rules;have hz1:=hb1.size;simp at hz1
 have hz1':w.heap.size+1<w1.heap.size:=by omega
 go_wp2_with fail
 refine(H.out _).mono ?_;rintro e w2 ⟨rfl,hb2⟩;obtain⟨hc2,hf2⟩:=hb2.rules
 go_wp2
 exact bodyPost_ret (v:=.tuple #[V rk ra rb rs,.int .i64 c]) (by simp[results,results15,go_sem,hc2,hc1,hz1']) rfl ⟨rfl,by
  have gg:G w w2:=((((G.refl _).alloc _).alloc _).trans hb1).trans hb2
  repeat(first|exact gg|refine G.alloc ?_ _|refine G.setCell ?_ (by simp;try omega) _)⟩
theorem zMa(a b:Int)(s:ByteArray)(op:Int)(ho:1≤op)(ho':op≤8)(h7:(op==7)=false)(hs:s.size≤4611686018427387904)(hok:okV 4 a b s=true)(w:World) :
  CG 15 #[.int .i64 op,V 4 a b s] w (.tuple #[V0,.int .i64 10]):=by
 have HV:Hid (∀w,CG 26 #[V 4 a b s] w (.bool true)):=by
  have:=zAm 4 a b s hs;rw[hok] at this;exact this
 clear hok hs
 go_enter func15,ntmps15
 go_wp2_with fail
 refine(HV.out _).mono ?_;rintro e w1 ⟨rfl,hb1⟩;have hc':=G.cells (b:=w.heap.size) (f:=fun o=>[Value.int IntKind.i64 4,Value.int IntKind.i64 a,Value.int IntKind.i64 b,Value.string s][o]?) (((G.refl _).alloc _).trans hb1) (by simp) (by simp);obtain⟨hc1,hf1⟩:=hb1.rules;have hz1:=hb1.size;simp at hz1
 have hz1':w.heap.size+1<w1.heap.size:=by omega
 go_wp2
 exact bodyPost_ret (v:=.tuple #[V0,.int .i64 10]) (by simp[results,results15,go_sem,hc1]) rfl ⟨rfl,by
  have gg:G w w1:=(((G.refl _).alloc _).alloc _).trans hb1
  repeat(first|exact gg|refine G.alloc ?_ _|refine G.setCell ?_ (by simp;try omega) _)⟩
theorem zSA(a b:Int)(s:ByteArray)(op:Int)(ho:1≤op)(ho':op≤8)(hs:s.size≤4611686018427387904)(hok:okV 5 a b s=true)(w:World) :
  CG 15 #[.int .i64 op,V 5 a b s] w (.tuple #[V0,.int .i64 10]):=by
 have HV:Hid (∀w,CG 26 #[V 5 a b s] w (.bool true)):=by
  have:=zAm 5 a b s hs;rw[hok] at this;exact this
 clear hok hs
 go_enter func15,ntmps15
 go_wp2_with fail
 refine(HV.out _).mono ?_;rintro e w1 ⟨rfl,hb1⟩;have hc':=G.cells (b:=w.heap.size) (f:=fun o=>[Value.int IntKind.i64 5,Value.int IntKind.i64 a,Value.int IntKind.i64 b,Value.string s][o]?) (((G.refl _).alloc _).trans hb1) (by simp) (by simp);obtain⟨hc1,hf1⟩:=hb1.rules;have hz1:=hb1.size;simp at hz1
 have hz1':w.heap.size+1<w1.heap.size:=by omega
 go_wp2
 exact bodyPost_ret (v:=.tuple #[V0,.int .i64 10]) (by simp[results,results15,go_sem,hc1]) rfl ⟨rfl,by
  have gg:G w w1:=(((G.refl _).alloc _).alloc _).trans hb1
  repeat(first|exact gg|refine G.alloc ?_ _|refine G.setCell ?_ (by simp;try omega) _)⟩
theorem zSB(a b:Int)(s:ByteArray)(op:Int)(ho:1≤op)(ho':op≤8)(hs:s.size≤4611686018427387904)(hok:okV 6 a b s=true)(w:World) :
  CG 15 #[.int .i64 op,V 6 a b s] w (.tuple #[V0,.int .i64 10]):=by
 have HV:Hid (∀w,CG 26 #[V 6 a b s] w (.bool true)):=by
  have:=zAm 6 a b s hs;rw[hok] at this;exact this
 clear hok hs
 go_enter func15,ntmps15
 go_wp2_with fail
 refine(HV.out _).mono ?_;rintro e w1 ⟨rfl,hb1⟩;have hc':=G.cells (b:=w.heap.size) (f:=fun o=>[Value.int IntKind.i64 6,Value.int IntKind.i64 a,Value.int IntKind.i64 b,Value.string s][o]?) (((G.refl _).alloc _).trans hb1) (by simp) (by simp);obtain⟨hc1,hf1⟩:=hb1.rules;have hz1:=hb1.size;simp at hz1
 have hz1':w.heap.size+1<w1.heap.size:=by omega
 go_wp2
 exact bodyPost_ret (v:=.tuple #[V0,.int .i64 10]) (by simp[results,results15,go_sem,hc1]) rfl ⟨rfl,by
  have gg:G w w1:=(((G.refl _).alloc _).alloc _).trans hb1
  repeat(first|exact gg|refine G.alloc ?_ _|refine G.setCell ?_ (by simp;try omega) _)⟩
end
section
open Go.RowKit Go.PlainAid
abbrev IC(x y:Nat):Value:=.iface 136 (.complex .f64 x y)
theorem zOu(a:Int)(h1:-33554432≤a)(h2:a≤33554432):0≤a*a∧a*a≤1125899906842624:=by
 have e:a*a=((a.natAbs*a.natAbs:Nat):Int):=(Int.natAbs_mul_self).symm;have:a.natAbs*a.natAbs≤33554432*33554432:=Nat.mul_le_mul (by omega) (by omega);omega
theorem zUe(x y:Nat)(a b:Int)(hx:Fl x a)(hy:Fl y b)(a1:-33554432≤a)(a2:a≤33554432)(b1:-33554432≤b)(b2:b≤33554432)(w:World):CG 254 #[.complex .f64 x y,.int .i64 6] w (.tuple #[IW (a*a+b*b),.int .i64 0]):=by
 have m1:=zOu a a1 a2;have m2:=zOu b b1 b2;have HN:Hid (∀w,Calls prog 172 #[.complex .f64 x y] w fun e w'=>(∃r,e=.returned (.float .f64 r)∧Fl r (a*a+b*b))∧w'=w):=fun w=>zTn x y a b hx hy (by omega) (by omega) (by omega) w
 have HS:Hid ((a*a+b*b).natAbs<2^53):=by show(a*a+b*b).natAbs<2^53;omega
 clear hx hy a1 a2 b1 b2 m1 m2
 go_enter func254,ntmps254
 go_wp2_with fail
 refine(HN.out _).mono ?_;rintro e w1 ⟨⟨r,rfl,hr⟩,rfl⟩;have c1:=fun w=>run_convert_float_int (P:=prog) w 84 135 .f64 .i64 r (a*a+b*b) (by kernel_rfl) underlying135 (hr.toInt HS.out);clear hr
 go_wp2
 go_ret2
 exact⟨rfl,G.refl _⟩
theorem zUg(x y:Nat)(w:World):CG 254 #[.complex .f64 x y,.int .i64 5] w (.tuple #[IC x (Op.negFloat .f64 y),.int .i64 0]):=by
 go_enter func254,ntmps254
 go_wp2_with fail
 refine(zGb x y _).mono ?_;rintro e w1 ⟨rfl,rfl⟩
 go_wp2
 go_ret2
 exact⟨rfl,G.refl _⟩
theorem zWL(x y:Nat)(w:World):CG 254 #[.complex .f64 x y,.int .i64 1] w (.tuple #[IC (Op.negFloat .f64 x) (Op.negFloat .f64 y),.int .i64 0]):=by
 have hn:Op.unary .neg (.complex .f64 x y)=pure (.complex .f64 (Op.negFloat .f64 x) (Op.negFloat .f64 y)):=rfl
 go_enter func254,ntmps254
 go_wp2
 go_ret2
 exact⟨rfl,G.refl _⟩
theorem zYn(x y:Nat)(a:Int)(h:Fl x a)(ha:a.natAbs<2^53)(w:World):CG 254 #[.complex .f64 x y,.int .i64 3] w (.tuple #[IW a,.int .i64 0]):=by
 have c1:=fun w=>run_convert_float_int (P:=prog) w 84 135 .f64 .i64 x a (by kernel_rfl) underlying135 (h.toInt ha);clear h ha
 go_enter func254,ntmps254
 go_wp2
 go_ret2
 exact⟨rfl,G.refl _⟩
theorem zYo(x y:Nat)(b:Int)(h:Fl y b)(ha:b.natAbs<2^53)(w:World):CG 254 #[.complex .f64 x y,.int .i64 4] w (.tuple #[IW b,.int .i64 0]):=by
 have c1:=fun w=>run_convert_float_int (P:=prog) w 84 135 .f64 .i64 y b (by kernel_rfl) underlying135 (h.toInt ha);clear h ha
 go_enter func254,ntmps254
 go_wp2
 go_ret2
 exact⟨rfl,G.refl _⟩
theorem zUf(x y:Nat)(op:Int)(h:op=2∨op=7∨op=8)(w:World):CG 254 #[.complex .f64 x y,.int .i64 op] w (.tuple #[.nilIface,.int .i64 10]):=by
 have n1:(op==1)=false:=by simp;omega
 have n3:(op==3)=false:=by simp;omega
 have n4:(op==4)=false:=by simp;omega
 have n5:(op==5)=false:=by simp;omega
 have n6:(op==6)=false:=by simp;omega
 clear h
 go_enter func254,ntmps254
 go_wp2
 go_ret2
 exact⟨rfl,G.refl _⟩
def stp(s:ByteArray):Nat→Nat
 | 0=>0
 | n+1=>stp s n+(Utf8.decode s (stp s n)).2
def zHk(s:ByteArray)(n:Nat):Prop:=s.size≤stp s n∧∀m,m<n→stp s m<s.size
theorem zHk.one{s:ByteArray}{n m:Nat}(h:zHk s n)(k:zHk s m):n=m:=by
 rcases Nat.lt_trichotomy n m with e|e|e
 ·have:=k.2 n e;have:=h.1;omega
 ·exact e
 ·have:=h.2 m e;have:=k.1;omega
theorem zNL(s:ByteArray)(i:Nat)(h:i<s.size):1≤(Utf8.decode s i).2:=by
 rcases zIZ s i h with ⟨_,h2⟩|⟨_,h2,_⟩
 ·rw[h2];decide
 ·exact h2
theorem zIH(s:ByteArray):∀n,(∀m,m<n→stp s m<s.size)→n≤stp s n
 | 0,_=>Nat.le_refl _
 | n+1,h=>by
  have:=zIH s n (fun m hm=>h m (by omega));have:=zNL s (stp s n) (h n (by omega));show n+1≤stp s n+(Utf8.decode s (stp s n)).2;omega
theorem zIG{s:ByteArray}{n:Nat}(h:∀m,m<n→stp s m<s.size)(k:stp s n<s.size):∀m,m<n+1→stp s m<s.size:=fun m hm=>by
 rcases Nat.lt_succ_iff_lt_or_eq.1 hm with e|e
 ·exact h m e
 ·rw[e];exact k
theorem zMk(s:ByteArray)(hs:s.size≤4611686018427387904)(w:World):Calls prog 263 #[.string s] w fun e w'=>(∃n:Nat,e=.returned (.int .i64 n)∧zHk s n)∧G w w':=by
 go_enter func263,ntmps263
 go_wp2
 go_loopw [3] (fun n W=>∃k:Nat,n=.int .i64 k∧W=w.iter s (stp s k)∧∀m,m<k→stp s m<s.size) (fun _ W=>s.size-W.iterPos w.heap.size)
 case atStart=>exact⟨0,rfl,rfl,fun m hm=>absurd hm (Nat.not_lt_zero m)⟩
 case round=>
  obtain⟨k,rfl,rfl,hk⟩:=hrel;have HK:Hid _:=hk;have hle:=zIH s k hk;clear hk
  by_cases h:stp s k<s.size
  ·have hnx:=fun ty=>run_next_any (P:=prog) w s (stp s k) ty h
   have HD:Hid _:=zNL s (stp s k) h
   have hk':(k:Int)<4611686018427387904:=by omega
   go_wp2
   go_roundw
   case rel=>exact⟨k+1,by go_num,rfl,zIG HK.out h⟩
   case measure=>have:=HD.out;simp;omega
  ·have hnx:=fun ty=>run_next_end (P:=prog) w s (stp s k) ty h
   go_wp2
   go_ret;exact⟨⟨k,rfl,by omega,HK.out⟩,(G.refl w).alloc _⟩
theorem zKH(s:ByteArray)(hs:s.size≤4611686018427387904)(hok:Go.Lib.validD s.data.toList=true)(w:World) :
  Calls prog 40 #[.string s] w fun e w'=>(∃n:Nat,e=.returned (.int .i64 n)∧zHk s n)∧w'=w:=by
 go_enter func40,ntmps40
 go_wp2
 go_loop [3,4] (fun k i=>∃m:Nat,k=.int .i64 m∧i=.int .i64 (stp s m)∧(∀j,j<m→stp s j<s.size)∧Go.Lib.validD s.data.toList=Go.Lib.validD (s.data.toList.drop (stp s m))) (fun _ i=>s.size-(RowKit.intOf i).toNat)
 case atStart=>exact⟨0,rfl,rfl,fun m hm=>absurd hm (Nat.not_lt_zero m),by rw[show stp s 0=0 from rfl,List.drop_zero]⟩
 case round=>
  obtain⟨m,rfl,rfl,hv,hd⟩:=hrel;have HV:Hid _:=hv;have HD:Hid (Go.Lib.validD s.data.toList=Go.Lib.validD (s.data.toList.drop (stp s m))):=hd;have HO:Hid (Go.Lib.validD s.data.toList=true):=hok;have hle:=zIH s m hv;clear hv hd hok
  by_cases hlt:stp s m<s.size
  ·have HA:Hid _:=zIs s (stp s m) hlt
   have HB:Hid _:=zIZ s (stp s m) hlt
   have hI:((stp s m:Nat):Int)<(s.size:Int):=by omega
   have HP:Hid _:=zGF s (stp s m) hlt hs
   go_wp2_with fail
   refine(HP.out _).mono ?_;rintro e w1 ⟨⟨c,rfl⟩,rfl⟩
   rcases HA.out with ⟨h1,h2⟩|⟨k,h1,h2,h3,h4⟩
   ·exfalso
    have:=HD.out;rw[HO.out,h2] at this;exact Bool.noConfusion this
   ·rw[h1]
    have H4:Hid _:=h4
    have z:((k:Int)==0)=false:=by simp;omega
    have HS:Hid (stp s (m+1)=stp s m+k):=by
     rcases HB.out with ⟨q1,_⟩|⟨q1,_⟩
     ·exfalso;rw[h1] at q1;omega
     ·show stp s m+(Utf8.decode s (stp s m)).2=stp s m+k
      rw[h1] at q1;omega
    clear h1 h4
    go_wp2
    go_round
    case rel=>exact⟨m+1,by go_num,by rw[HS.out];go_num,zIG HV.out hlt,by rw[HS.out,HD.out];exact H4.out⟩
    case measure=>simp[RowKit.intOf];omega
  ·have hI:¬((stp s m:Nat):Int)<(s.size:Int):=by omega
   go_wp2
   go_ret;exact⟨⟨m,rfl,by omega,HV.out⟩,rfl⟩
theorem zOj(s:ByteArray)(n:Nat)(hn:zHk s n)(hs:s.size≤4611686018427387904)(w:World):CG 259 #[.string s,.int .i64 7] w (.tuple #[IW n,.int .i64 0]):=by
 have HP:Hid _:=zMk s hs;have HN:Hid _:=hn;clear hn
 go_enter func259,ntmps259
 go_wp2_with fail
 refine(HP.out _).mono ?_;rintro e w1 ⟨⟨m,rfl,hm⟩,hb1⟩;obtain rfl:=hm.one HN.out;clear hm
 go_wp2
 go_ret2
 exact⟨rfl,hb1⟩
end
end Go.Proofs.YthmdjhfbhbheeaaGreatDoor
