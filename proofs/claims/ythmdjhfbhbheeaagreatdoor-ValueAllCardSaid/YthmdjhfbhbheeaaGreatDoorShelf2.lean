import Derived.Ground.NamesProg
import Derived.Shelf.Strings.Prefix
import Derived.Test.YthmdjhfbhbheeaaGreatDoorProg
import Derived.Shelf.Strings.Search3
import Derived.Test.YthmdjhfbhbheeaaGreatDoorRefBin2
namespace Go.Proofs.YthmdjhfbhbheeaaGreatDoor
open Go.Proofs.Tryz
set_option maxHeartbeats 1000000
set_option maxRecDepth 100000
section
open Go.RowKit Go.Lib Go.Shelf
theorem rB_arg(op:Int)(k a b k' a' b':Int)(s s':ByteArray)(ho:op<1∨18<op)(w:World):Calls prog 17 #[.int .i64 op,V k a b s,V k' a' b' s'] w fun e w'=>e=.returned (.tuple #[V0,.int .i64 1])∧G w w':=by
 by_cases h:op<1
 ·clear ho
  go_enter func17,ntmps17
  go_wp2
  exact bodyPost_ret (v:=.tuple #[V0,.int .i64 1]) (by simp[results,results17,go_sem]) rfl ⟨rfl,by
   repeat(first|exact G.refl _|refine G.alloc ?_ _|refine G.setCell ?_ (by simp;try omega) _)⟩
 ·have h':18<op:=by omega
  clear ho
  go_enter func17,ntmps17
  go_wp2
  exact bodyPost_ret (v:=.tuple #[V0,.int .i64 1]) (by simp[results,results17,go_sem]) rfl ⟨rfl,by
   repeat(first|exact G.refl _|refine G.alloc ?_ _|refine G.setCell ?_ (by simp;try omega) _)⟩
theorem rB_bad1(op:Int)(ho:1≤op)(ho':op≤18)(k a b k' a' b':Int)(s s':ByteArray)(h1:∀w,Calls prog 26 #[V k a b s] w fun e w'=>e=.returned (.bool false)∧G w w')(w:World):Calls prog 17 #[.int .i64 op,V k a b s,V k' a' b' s'] w fun e w'=>e=.returned (.tuple #[V0,.int .i64 16])∧G w w':=by
 have H1:Hid _:=h1
 clear h1
 go_enter func17,ntmps17
 go_wp2_with fail
 refine(H1.out _).mono ?_
 rintro e w1 ⟨rfl,hb1⟩
 have g1:G w w1:=((((G.refl w).alloc _).alloc _).alloc _).trans hb1
 obtain⟨hc1,hf1⟩:=hb1.rules
 go_wp2
 exact bodyPost_ret (v:=.tuple #[V0,.int .i64 16]) (by simp[results,results17,go_sem,hc1]) rfl ⟨rfl,by
  repeat(first|exact g1|refine G.alloc ?_ _|refine G.setCell ?_ (by simp;try omega) _)⟩
theorem rB_bad2(op:Int)(ho:1≤op)(ho':op≤18)(k a b k' a' b':Int)(s s':ByteArray)(h1:∀w,Calls prog 26 #[V k a b s] w fun e w'=>e=.returned (.bool true)∧G w w')(h2:∀w,Calls prog 26 #[V k' a' b' s'] w fun e w'=>e=.returned (.bool false)∧G w w')(w:World):Calls prog 17 #[.int .i64 op,V k a b s,V k' a' b' s'] w fun e w'=>e=.returned (.tuple #[V0,.int .i64 16])∧G w w':=by
 have H1:Hid _:=h1
 have H2:Hid _:=h2
 clear h1 h2
 go_enter func17,ntmps17
 go_wp2_with fail
 refine(H1.out _).mono ?_
 rintro e w1 ⟨rfl,hb1⟩
 have g1:G w w1:=((((G.refl w).alloc _).alloc _).alloc _).trans hb1
 obtain⟨hc1,hf1⟩:=hb1.rules
 have hz1:w.heap.size+2<w1.heap.size:=by have:=hb1.size;simp at this;omega
 have hz1a:w.heap.size<w1.heap.size:=by omega
 have hz1b:w.heap.size+1<w1.heap.size:=by omega
 go_wp2_with fail
 refine(H2.out _).mono ?_
 rintro e w2 ⟨rfl,hb2⟩
 have g2:G w w2:=g1.trans hb2
 obtain⟨hc2,hf2⟩:=hb2.rules
 go_wp2
 exact bodyPost_ret (v:=.tuple #[V0,.int .i64 16]) (by simp[results,results17,go_sem,hc1,hc2,hz1]) rfl ⟨rfl,by
  repeat(first|exact g2|refine G.alloc ?_ _|refine G.setCell ?_ (by simp;try omega) _)⟩
theorem rB_12(rk ra rb:Int)(rs:ByteArray)(c:Int)(k a b k' a' b':Int)(s s':ByteArray)(h1:∀w,Calls prog 26 #[V k a b s] w fun e w'=>e=.returned (.bool true)∧G w w')(h2:∀w,Calls prog 26 #[V k' a' b' s'] w fun e w'=>e=.returned (.bool true)∧G w w')(h3:∀w,Calls prog 42 #[.int .i64 12,V k a b s,V k' a' b' s'] w fun e w'=>e=.returned (.tuple #[V rk ra rb rs,.int .i64 c])∧G w w')(w:World):Calls prog 17 #[.int .i64 12,V k a b s,V k' a' b' s'] w fun e w'=>e=.returned (.tuple #[V rk ra rb rs,.int .i64 c])∧G w w':=by
 have H1:Hid _:=h1
 have H2:Hid _:=h2
 have H3:Hid _:=h3
 clear h1 h2 h3
 go_enter func17,ntmps17
 go_wp2_with fail
 refine(H1.out _).mono ?_
 rintro e w1 ⟨rfl,hb1⟩
 have g1:G w w1:=((((G.refl w).alloc _).alloc _).alloc _).trans hb1
 obtain⟨hc1,hf1⟩:=hb1.rules
 have hz1:w.heap.size+2<w1.heap.size:=by have:=hb1.size;simp at this;omega
 have hz1a:w.heap.size<w1.heap.size:=by omega
 have hz1b:w.heap.size+1<w1.heap.size:=by omega
 go_wp2_with fail
 refine(H2.out _).mono ?_
 rintro e w2 ⟨rfl,hb2⟩
 have g2:G w w2:=g1.trans hb2
 obtain⟨hc2,hf2⟩:=hb2.rules
 have hz2:w.heap.size+2<w2.heap.size:=by have:=hb2.size;omega
 have hz2a:w.heap.size<w2.heap.size:=by omega
 have hz2b:w.heap.size+1<w2.heap.size:=by omega
 go_wp2_with fail
 refine(H3.out _).mono ?_
 rintro e w3 ⟨rfl,hb3⟩
 have g3:G w w3:=g2.trans hb3
 obtain⟨hc3,hf3⟩:=hb3.rules
 go_wp2
 exact bodyPost_ret (v:=.tuple #[V rk ra rb rs,.int .i64 c]) (by simp[results,results17,go_sem,hc1,hc2,hc3,hz1,hz2]) rfl ⟨rfl,by
  repeat(first|exact g3|refine G.alloc ?_ _|refine G.setCell ?_ (by simp;try omega) _)⟩
theorem rB_13(rk ra rb:Int)(rs:ByteArray)(c:Int)(k a b k' a' b':Int)(s s':ByteArray)(h1:∀w,Calls prog 26 #[V k a b s] w fun e w'=>e=.returned (.bool true)∧G w w')(h2:∀w,Calls prog 26 #[V k' a' b' s'] w fun e w'=>e=.returned (.bool true)∧G w w')(h3:∀w,Calls prog 42 #[.int .i64 13,V k a b s,V k' a' b' s'] w fun e w'=>e=.returned (.tuple #[V rk ra rb rs,.int .i64 c])∧G w w')(w:World):Calls prog 17 #[.int .i64 13,V k a b s,V k' a' b' s'] w fun e w'=>e=.returned (.tuple #[V rk ra rb rs,.int .i64 c])∧G w w':=by
 have H1:Hid _:=h1
 have H2:Hid _:=h2
 have H3:Hid _:=h3
 clear h1 h2 h3
 go_enter func17,ntmps17
 go_wp2_with fail
 refine(H1.out _).mono ?_
 rintro e w1 ⟨rfl,hb1⟩
 have g1:G w w1:=((((G.refl w).alloc _).alloc _).alloc _).trans hb1
 obtain⟨hc1,hf1⟩:=hb1.rules
 have hz1:w.heap.size+2<w1.heap.size:=by have:=hb1.size;simp at this;omega
 have hz1a:w.heap.size<w1.heap.size:=by omega
 have hz1b:w.heap.size+1<w1.heap.size:=by omega
 go_wp2_with fail
 refine(H2.out _).mono ?_
 rintro e w2 ⟨rfl,hb2⟩
 have g2:G w w2:=g1.trans hb2
 obtain⟨hc2,hf2⟩:=hb2.rules
 have hz2:w.heap.size+2<w2.heap.size:=by have:=hb2.size;omega
 have hz2a:w.heap.size<w2.heap.size:=by omega
 have hz2b:w.heap.size+1<w2.heap.size:=by omega
 go_wp2_with fail
 refine(H3.out _).mono ?_
 rintro e w3 ⟨rfl,hb3⟩
 have g3:G w w3:=g2.trans hb3
 obtain⟨hc3,hf3⟩:=hb3.rules
 go_wp2
 exact bodyPost_ret (v:=.tuple #[V rk ra rb rs,.int .i64 c]) (by simp[results,results17,go_sem,hc1,hc2,hc3,hz1,hz2]) rfl ⟨rfl,by
  repeat(first|exact g3|refine G.alloc ?_ _|refine G.setCell ?_ (by simp;try omega) _)⟩
theorem rB_14(rk ra rb:Int)(rs:ByteArray)(c:Int)(k a b k' a' b':Int)(s s':ByteArray)(h1:∀w,Calls prog 26 #[V k a b s] w fun e w'=>e=.returned (.bool true)∧G w w')(h2:∀w,Calls prog 26 #[V k' a' b' s'] w fun e w'=>e=.returned (.bool true)∧G w w')(h3:∀w,Calls prog 42 #[.int .i64 14,V k a b s,V k' a' b' s'] w fun e w'=>e=.returned (.tuple #[V rk ra rb rs,.int .i64 c])∧G w w')(w:World):Calls prog 17 #[.int .i64 14,V k a b s,V k' a' b' s'] w fun e w'=>e=.returned (.tuple #[V rk ra rb rs,.int .i64 c])∧G w w':=by
 have H1:Hid _:=h1
 have H2:Hid _:=h2
 have H3:Hid _:=h3
 clear h1 h2 h3
 go_enter func17,ntmps17
 go_wp2_with fail
 refine(H1.out _).mono ?_
 rintro e w1 ⟨rfl,hb1⟩
 have g1:G w w1:=((((G.refl w).alloc _).alloc _).alloc _).trans hb1
 obtain⟨hc1,hf1⟩:=hb1.rules
 have hz1:w.heap.size+2<w1.heap.size:=by have:=hb1.size;simp at this;omega
 have hz1a:w.heap.size<w1.heap.size:=by omega
 have hz1b:w.heap.size+1<w1.heap.size:=by omega
 go_wp2_with fail
 refine(H2.out _).mono ?_
 rintro e w2 ⟨rfl,hb2⟩
 have g2:G w w2:=g1.trans hb2
 obtain⟨hc2,hf2⟩:=hb2.rules
 have hz2:w.heap.size+2<w2.heap.size:=by have:=hb2.size;omega
 have hz2a:w.heap.size<w2.heap.size:=by omega
 have hz2b:w.heap.size+1<w2.heap.size:=by omega
 go_wp2_with fail
 refine(H3.out _).mono ?_
 rintro e w3 ⟨rfl,hb3⟩
 have g3:G w w3:=g2.trans hb3
 obtain⟨hc3,hf3⟩:=hb3.rules
 go_wp2
 exact bodyPost_ret (v:=.tuple #[V rk ra rb rs,.int .i64 c]) (by simp[results,results17,go_sem,hc1,hc2,hc3,hz1,hz2]) rfl ⟨rfl,by
  repeat(first|exact g3|refine G.alloc ?_ _|refine G.setCell ?_ (by simp;try omega) _)⟩
theorem rB_null1(op:Int)(ho:1≤op)(ho':op≤18)(n12:(op==12)=false)(n13:(op==13)=false)(n14:(op==14)=false)(a b k' a' b':Int)(s s':ByteArray)(h1:∀w,Calls prog 26 #[V 0 a b s] w fun e w'=>e=.returned (.bool true)∧G w w')(h2:∀w,Calls prog 26 #[V k' a' b' s'] w fun e w'=>e=.returned (.bool true)∧G w w')(w:World):Calls prog 17 #[.int .i64 op,V 0 a b s,V k' a' b' s'] w fun e w'=>e=.returned (.tuple #[V0,.int .i64 0])∧G w w':=by
 have H1:Hid _:=h1
 have H2:Hid _:=h2
 clear h1 h2
 go_enter func17,ntmps17
 go_wp2_with fail
 refine(H1.out _).mono ?_
 rintro e w1 ⟨rfl,hb1⟩
 have g1:G w w1:=((((G.refl w).alloc _).alloc _).alloc _).trans hb1
 obtain⟨hc1,hf1⟩:=hb1.rules
 have hz1:w.heap.size+2<w1.heap.size:=by have:=hb1.size;simp at this;omega
 have hz1a:w.heap.size<w1.heap.size:=by omega
 have hz1b:w.heap.size+1<w1.heap.size:=by omega
 go_wp2_with fail
 refine(H2.out _).mono ?_
 rintro e w2 ⟨rfl,hb2⟩
 have g2:G w w2:=g1.trans hb2
 obtain⟨hc2,hf2⟩:=hb2.rules
 go_wp2
 exact bodyPost_ret (v:=.tuple #[V0,.int .i64 0]) (by simp[results,results17,go_sem,hc1,hc2,hz1]) rfl ⟨rfl,by
  repeat(first|exact g2|refine G.alloc ?_ _|refine G.setCell ?_ (by simp;try omega) _)⟩
theorem rB_null2(op:Int)(ho:1≤op)(ho':op≤18)(n12:(op==12)=false)(n13:(op==13)=false)(n14:(op==14)=false)(k a b a' b':Int)(s s':ByteArray)(z:(k==0)=false)(h1:∀w,Calls prog 26 #[V k a b s] w fun e w'=>e=.returned (.bool true)∧G w w')(h2:∀w,Calls prog 26 #[V 0 a' b' s'] w fun e w'=>e=.returned (.bool true)∧G w w')(w:World):Calls prog 17 #[.int .i64 op,V k a b s,V 0 a' b' s'] w fun e w'=>e=.returned (.tuple #[V0,.int .i64 0])∧G w w':=by
 have H1:Hid _:=h1
 have H2:Hid _:=h2
 clear h1 h2
 go_enter func17,ntmps17
 go_wp2_with fail
 refine(H1.out _).mono ?_
 rintro e w1 ⟨rfl,hb1⟩
 have g1:G w w1:=((((G.refl w).alloc _).alloc _).alloc _).trans hb1
 obtain⟨hc1,hf1⟩:=hb1.rules
 have hz1:w.heap.size+2<w1.heap.size:=by have:=hb1.size;simp at this;omega
 have hz1a:w.heap.size<w1.heap.size:=by omega
 have hz1b:w.heap.size+1<w1.heap.size:=by omega
 go_wp2_with fail
 refine(H2.out _).mono ?_
 rintro e w2 ⟨rfl,hb2⟩
 have g2:G w w2:=g1.trans hb2
 obtain⟨hc2,hf2⟩:=hb2.rules
 go_wp2
 exact bodyPost_ret (v:=.tuple #[V0,.int .i64 0]) (by simp[results,results17,go_sem,hc1,hc2,hz1]) rfl ⟨rfl,by
  repeat(first|exact g2|refine G.alloc ?_ _|refine G.setCell ?_ (by simp;try omega) _)⟩
theorem rB_6(q:Bool)(k a b k' a' b':Int)(s s':ByteArray)(z:(k==0)=false)(z':(k'==0)=false)(h1:∀w,Calls prog 26 #[V k a b s] w fun e w'=>e=.returned (.bool true)∧G w w')(h2:∀w,Calls prog 26 #[V k' a' b' s'] w fun e w'=>e=.returned (.bool true)∧G w w')(h3:∀w,Calls prog 43 #[V k a b s,V k' a' b' s'] w fun e w'=>e=.returned (.bool q)∧G w w')(w:World):Calls prog 17 #[.int .i64 6,V k a b s,V k' a' b' s'] w fun e w'=>e=.returned (.tuple #[V 1 (tI q) 0 E0,.int .i64 0])∧G w w':=by
 have H1:Hid _:=h1
 have H2:Hid _:=h2
 have H3:Hid _:=h3
 clear h1 h2 h3
 go_enter func17,ntmps17
 go_wp2_with fail
 refine(H1.out _).mono ?_
 rintro e w1 ⟨rfl,hb1⟩
 have g1:G w w1:=((((G.refl w).alloc _).alloc _).alloc _).trans hb1
 obtain⟨hc1,hf1⟩:=hb1.rules
 have hz1:w.heap.size+2<w1.heap.size:=by have:=hb1.size;simp at this;omega
 have hz1a:w.heap.size<w1.heap.size:=by omega
 have hz1b:w.heap.size+1<w1.heap.size:=by omega
 go_wp2_with fail
 refine(H2.out _).mono ?_
 rintro e w2 ⟨rfl,hb2⟩
 have g2:G w w2:=g1.trans hb2
 obtain⟨hc2,hf2⟩:=hb2.rules
 have hz2:w.heap.size+2<w2.heap.size:=by have:=hb2.size;omega
 have hz2a:w.heap.size<w2.heap.size:=by omega
 have hz2b:w.heap.size+1<w2.heap.size:=by omega
 go_wp2_with fail
 refine(H3.out _).mono ?_
 rintro e w3 ⟨rfl,hb3⟩
 have g3:G w w3:=g2.trans hb3
 obtain⟨hc3,hf3⟩:=hb3.rules
 have hz3:w.heap.size+2<w3.heap.size:=by have:=hb3.size;omega
 have hz3a:w.heap.size<w3.heap.size:=by omega
 have hz3b:w.heap.size+1<w3.heap.size:=by omega
 go_wp2_with fail
 refine(rtruth_q q _).mono ?_
 rintro e w4 ⟨rfl,hb4⟩
 have g4:G w w4:=g3.trans hb4
 obtain⟨hc4,hf4⟩:=hb4.rules
 go_wp2
 exact bodyPost_ret (v:=.tuple #[V 1 (tI q) 0 E0,.int .i64 0]) (by simp[results,results17,go_sem,hc1,hc2,hc3,hc4,hz1,hz2,hz3]) rfl ⟨rfl,by
  repeat(first|exact g4|refine G.alloc ?_ _|refine G.setCell ?_ (by simp;try omega) _)⟩
theorem rB_7(q:Bool)(k a b k' a' b':Int)(s s':ByteArray)(z:(k==0)=false)(z':(k'==0)=false)(h1:∀w,Calls prog 26 #[V k a b s] w fun e w'=>e=.returned (.bool true)∧G w w')(h2:∀w,Calls prog 26 #[V k' a' b' s'] w fun e w'=>e=.returned (.bool true)∧G w w')(h3:∀w,Calls prog 43 #[V k a b s,V k' a' b' s'] w fun e w'=>e=.returned (.bool q)∧G w w')(w:World):Calls prog 17 #[.int .i64 7,V k a b s,V k' a' b' s'] w fun e w'=>e=.returned (.tuple #[V 1 (tI (!q)) 0 E0,.int .i64 0])∧G w w':=by
 have H1:Hid _:=h1
 have H2:Hid _:=h2
 have H3:Hid _:=h3
 clear h1 h2 h3
 go_enter func17,ntmps17
 go_wp2_with fail
 refine(H1.out _).mono ?_
 rintro e w1 ⟨rfl,hb1⟩
 have g1:G w w1:=((((G.refl w).alloc _).alloc _).alloc _).trans hb1
 obtain⟨hc1,hf1⟩:=hb1.rules
 have hz1:w.heap.size+2<w1.heap.size:=by have:=hb1.size;simp at this;omega
 have hz1a:w.heap.size<w1.heap.size:=by omega
 have hz1b:w.heap.size+1<w1.heap.size:=by omega
 go_wp2_with fail
 refine(H2.out _).mono ?_
 rintro e w2 ⟨rfl,hb2⟩
 have g2:G w w2:=g1.trans hb2
 obtain⟨hc2,hf2⟩:=hb2.rules
 have hz2:w.heap.size+2<w2.heap.size:=by have:=hb2.size;omega
 have hz2a:w.heap.size<w2.heap.size:=by omega
 have hz2b:w.heap.size+1<w2.heap.size:=by omega
 go_wp2_with fail
 refine(H3.out _).mono ?_
 rintro e w3 ⟨rfl,hb3⟩
 have g3:G w w3:=g2.trans hb3
 obtain⟨hc3,hf3⟩:=hb3.rules
 have hz3:w.heap.size+2<w3.heap.size:=by have:=hb3.size;omega
 have hz3a:w.heap.size<w3.heap.size:=by omega
 have hz3b:w.heap.size+1<w3.heap.size:=by omega
 go_wp2_with fail
 refine(rtruth_q (!q) _).mono ?_
 rintro e w4 ⟨rfl,hb4⟩
 have g4:G w w4:=g3.trans hb4
 obtain⟨hc4,hf4⟩:=hb4.rules
 go_wp2
 exact bodyPost_ret (v:=.tuple #[V 1 (tI (!q)) 0 E0,.int .i64 0]) (by simp[results,results17,go_sem,hc1,hc2,hc3,hc4,hz1,hz2,hz3]) rfl ⟨rfl,by
  repeat(first|exact g4|refine G.alloc ?_ _|refine G.setCell ?_ (by simp;try omega) _)⟩
theorem rB_8(rk ra rb:Int)(rs:ByteArray)(c:Int)(k a b k' a' b':Int)(s s':ByteArray)(z:(k==0)=false)(z':(k'==0)=false)(h1:∀w,Calls prog 26 #[V k a b s] w fun e w'=>e=.returned (.bool true)∧G w w')(h2:∀w,Calls prog 26 #[V k' a' b' s'] w fun e w'=>e=.returned (.bool true)∧G w w')(h3:∀w,Calls prog 44 #[.int .i64 8,V k a b s,V k' a' b' s'] w fun e w'=>e=.returned (.tuple #[V rk ra rb rs,.int .i64 c])∧G w w')(w:World):Calls prog 17 #[.int .i64 8,V k a b s,V k' a' b' s'] w fun e w'=>e=.returned (.tuple #[V rk ra rb rs,.int .i64 c])∧G w w':=by
 have H1:Hid _:=h1
 have H2:Hid _:=h2
 have H3:Hid _:=h3
 clear h1 h2 h3
 go_enter func17,ntmps17
 go_wp2_with fail
 refine(H1.out _).mono ?_
 rintro e w1 ⟨rfl,hb1⟩
 have g1:G w w1:=((((G.refl w).alloc _).alloc _).alloc _).trans hb1
 obtain⟨hc1,hf1⟩:=hb1.rules
 have hz1:w.heap.size+2<w1.heap.size:=by have:=hb1.size;simp at this;omega
 have hz1a:w.heap.size<w1.heap.size:=by omega
 have hz1b:w.heap.size+1<w1.heap.size:=by omega
 go_wp2_with fail
 refine(H2.out _).mono ?_
 rintro e w2 ⟨rfl,hb2⟩
 have g2:G w w2:=g1.trans hb2
 obtain⟨hc2,hf2⟩:=hb2.rules
 have hz2:w.heap.size+2<w2.heap.size:=by have:=hb2.size;omega
 have hz2a:w.heap.size<w2.heap.size:=by omega
 have hz2b:w.heap.size+1<w2.heap.size:=by omega
 go_wp2_with fail
 refine(H3.out _).mono ?_
 rintro e w3 ⟨rfl,hb3⟩
 have g3:G w w3:=g2.trans hb3
 obtain⟨hc3,hf3⟩:=hb3.rules
 go_wp2
 exact bodyPost_ret (v:=.tuple #[V rk ra rb rs,.int .i64 c]) (by simp[results,results17,go_sem,hc1,hc2,hc3,hz1,hz2]) rfl ⟨rfl,by
  repeat(first|exact g3|refine G.alloc ?_ _|refine G.setCell ?_ (by simp;try omega) _)⟩
theorem rB_9(rk ra rb:Int)(rs:ByteArray)(c:Int)(k a b k' a' b':Int)(s s':ByteArray)(z:(k==0)=false)(z':(k'==0)=false)(h1:∀w,Calls prog 26 #[V k a b s] w fun e w'=>e=.returned (.bool true)∧G w w')(h2:∀w,Calls prog 26 #[V k' a' b' s'] w fun e w'=>e=.returned (.bool true)∧G w w')(h3:∀w,Calls prog 44 #[.int .i64 9,V k a b s,V k' a' b' s'] w fun e w'=>e=.returned (.tuple #[V rk ra rb rs,.int .i64 c])∧G w w')(w:World):Calls prog 17 #[.int .i64 9,V k a b s,V k' a' b' s'] w fun e w'=>e=.returned (.tuple #[V rk ra rb rs,.int .i64 c])∧G w w':=by
 have H1:Hid _:=h1
 have H2:Hid _:=h2
 have H3:Hid _:=h3
 clear h1 h2 h3
 go_enter func17,ntmps17
 go_wp2_with fail
 refine(H1.out _).mono ?_
 rintro e w1 ⟨rfl,hb1⟩
 have g1:G w w1:=((((G.refl w).alloc _).alloc _).alloc _).trans hb1
 obtain⟨hc1,hf1⟩:=hb1.rules
 have hz1:w.heap.size+2<w1.heap.size:=by have:=hb1.size;simp at this;omega
 have hz1a:w.heap.size<w1.heap.size:=by omega
 have hz1b:w.heap.size+1<w1.heap.size:=by omega
 go_wp2_with fail
 refine(H2.out _).mono ?_
 rintro e w2 ⟨rfl,hb2⟩
 have g2:G w w2:=g1.trans hb2
 obtain⟨hc2,hf2⟩:=hb2.rules
 have hz2:w.heap.size+2<w2.heap.size:=by have:=hb2.size;omega
 have hz2a:w.heap.size<w2.heap.size:=by omega
 have hz2b:w.heap.size+1<w2.heap.size:=by omega
 go_wp2_with fail
 refine(H3.out _).mono ?_
 rintro e w3 ⟨rfl,hb3⟩
 have g3:G w w3:=g2.trans hb3
 obtain⟨hc3,hf3⟩:=hb3.rules
 go_wp2
 exact bodyPost_ret (v:=.tuple #[V rk ra rb rs,.int .i64 c]) (by simp[results,results17,go_sem,hc1,hc2,hc3,hz1,hz2]) rfl ⟨rfl,by
  repeat(first|exact g3|refine G.alloc ?_ _|refine G.setCell ?_ (by simp;try omega) _)⟩
theorem rB_10(rk ra rb:Int)(rs:ByteArray)(c:Int)(k a b k' a' b':Int)(s s':ByteArray)(z:(k==0)=false)(z':(k'==0)=false)(h1:∀w,Calls prog 26 #[V k a b s] w fun e w'=>e=.returned (.bool true)∧G w w')(h2:∀w,Calls prog 26 #[V k' a' b' s'] w fun e w'=>e=.returned (.bool true)∧G w w')(h3:∀w,Calls prog 44 #[.int .i64 10,V k a b s,V k' a' b' s'] w fun e w'=>e=.returned (.tuple #[V rk ra rb rs,.int .i64 c])∧G w w')(w:World):Calls prog 17 #[.int .i64 10,V k a b s,V k' a' b' s'] w fun e w'=>e=.returned (.tuple #[V rk ra rb rs,.int .i64 c])∧G w w':=by
 have H1:Hid _:=h1
 have H2:Hid _:=h2
 have H3:Hid _:=h3
 clear h1 h2 h3
 go_enter func17,ntmps17
 go_wp2_with fail
 refine(H1.out _).mono ?_
 rintro e w1 ⟨rfl,hb1⟩
 have g1:G w w1:=((((G.refl w).alloc _).alloc _).alloc _).trans hb1
 obtain⟨hc1,hf1⟩:=hb1.rules
 have hz1:w.heap.size+2<w1.heap.size:=by have:=hb1.size;simp at this;omega
 have hz1a:w.heap.size<w1.heap.size:=by omega
 have hz1b:w.heap.size+1<w1.heap.size:=by omega
 go_wp2_with fail
 refine(H2.out _).mono ?_
 rintro e w2 ⟨rfl,hb2⟩
 have g2:G w w2:=g1.trans hb2
 obtain⟨hc2,hf2⟩:=hb2.rules
 have hz2:w.heap.size+2<w2.heap.size:=by have:=hb2.size;omega
 have hz2a:w.heap.size<w2.heap.size:=by omega
 have hz2b:w.heap.size+1<w2.heap.size:=by omega
 go_wp2_with fail
 refine(H3.out _).mono ?_
 rintro e w3 ⟨rfl,hb3⟩
 have g3:G w w3:=g2.trans hb3
 obtain⟨hc3,hf3⟩:=hb3.rules
 go_wp2
 exact bodyPost_ret (v:=.tuple #[V rk ra rb rs,.int .i64 c]) (by simp[results,results17,go_sem,hc1,hc2,hc3,hz1,hz2]) rfl ⟨rfl,by
  repeat(first|exact g3|refine G.alloc ?_ _|refine G.setCell ?_ (by simp;try omega) _)⟩
theorem rB_11(rk ra rb:Int)(rs:ByteArray)(c:Int)(k a b k' a' b':Int)(s s':ByteArray)(z:(k==0)=false)(z':(k'==0)=false)(h1:∀w,Calls prog 26 #[V k a b s] w fun e w'=>e=.returned (.bool true)∧G w w')(h2:∀w,Calls prog 26 #[V k' a' b' s'] w fun e w'=>e=.returned (.bool true)∧G w w')(h3:∀w,Calls prog 44 #[.int .i64 11,V k a b s,V k' a' b' s'] w fun e w'=>e=.returned (.tuple #[V rk ra rb rs,.int .i64 c])∧G w w')(w:World):Calls prog 17 #[.int .i64 11,V k a b s,V k' a' b' s'] w fun e w'=>e=.returned (.tuple #[V rk ra rb rs,.int .i64 c])∧G w w':=by
 have H1:Hid _:=h1
 have H2:Hid _:=h2
 have H3:Hid _:=h3
 clear h1 h2 h3
 go_enter func17,ntmps17
 go_wp2_with fail
 refine(H1.out _).mono ?_
 rintro e w1 ⟨rfl,hb1⟩
 have g1:G w w1:=((((G.refl w).alloc _).alloc _).alloc _).trans hb1
 obtain⟨hc1,hf1⟩:=hb1.rules
 have hz1:w.heap.size+2<w1.heap.size:=by have:=hb1.size;simp at this;omega
 have hz1a:w.heap.size<w1.heap.size:=by omega
 have hz1b:w.heap.size+1<w1.heap.size:=by omega
 go_wp2_with fail
 refine(H2.out _).mono ?_
 rintro e w2 ⟨rfl,hb2⟩
 have g2:G w w2:=g1.trans hb2
 obtain⟨hc2,hf2⟩:=hb2.rules
 have hz2:w.heap.size+2<w2.heap.size:=by have:=hb2.size;omega
 have hz2a:w.heap.size<w2.heap.size:=by omega
 have hz2b:w.heap.size+1<w2.heap.size:=by omega
 go_wp2_with fail
 refine(H3.out _).mono ?_
 rintro e w3 ⟨rfl,hb3⟩
 have g3:G w w3:=g2.trans hb3
 obtain⟨hc3,hf3⟩:=hb3.rules
 go_wp2
 exact bodyPost_ret (v:=.tuple #[V rk ra rb rs,.int .i64 c]) (by simp[results,results17,go_sem,hc1,hc2,hc3,hz1,hz2]) rfl ⟨rfl,by
  repeat(first|exact g3|refine G.alloc ?_ _|refine G.setCell ?_ (by simp;try omega) _)⟩
theorem rB_15(rk ra rb:Int)(rs:ByteArray)(c:Int)(k a b k' a' b':Int)(s s':ByteArray)(z:(k==0)=false)(z':(k'==0)=false)(h1:∀w,Calls prog 26 #[V k a b s] w fun e w'=>e=.returned (.bool true)∧G w w')(h2:∀w,Calls prog 26 #[V k' a' b' s'] w fun e w'=>e=.returned (.bool true)∧G w w')(h3:∀w,Calls prog 45 #[.int .i64 15,V k a b s,V k' a' b' s'] w fun e w'=>e=.returned (.tuple #[V rk ra rb rs,.int .i64 c])∧G w w')(w:World):Calls prog 17 #[.int .i64 15,V k a b s,V k' a' b' s'] w fun e w'=>e=.returned (.tuple #[V rk ra rb rs,.int .i64 c])∧G w w':=by
 have H1:Hid _:=h1
 have H2:Hid _:=h2
 have H3:Hid _:=h3
 clear h1 h2 h3
 go_enter func17,ntmps17
 go_wp2_with fail
 refine(H1.out _).mono ?_
 rintro e w1 ⟨rfl,hb1⟩
 have g1:G w w1:=((((G.refl w).alloc _).alloc _).alloc _).trans hb1
 obtain⟨hc1,hf1⟩:=hb1.rules
 have hz1:w.heap.size+2<w1.heap.size:=by have:=hb1.size;simp at this;omega
 have hz1a:w.heap.size<w1.heap.size:=by omega
 have hz1b:w.heap.size+1<w1.heap.size:=by omega
 go_wp2_with fail
 refine(H2.out _).mono ?_
 rintro e w2 ⟨rfl,hb2⟩
 have g2:G w w2:=g1.trans hb2
 obtain⟨hc2,hf2⟩:=hb2.rules
 have hz2:w.heap.size+2<w2.heap.size:=by have:=hb2.size;omega
 have hz2a:w.heap.size<w2.heap.size:=by omega
 have hz2b:w.heap.size+1<w2.heap.size:=by omega
 go_wp2_with fail
 refine(H3.out _).mono ?_
 rintro e w3 ⟨rfl,hb3⟩
 have g3:G w w3:=g2.trans hb3
 obtain⟨hc3,hf3⟩:=hb3.rules
 go_wp2
 exact bodyPost_ret (v:=.tuple #[V rk ra rb rs,.int .i64 c]) (by simp[results,results17,go_sem,hc1,hc2,hc3,hz1,hz2]) rfl ⟨rfl,by
  repeat(first|exact g3|refine G.alloc ?_ _|refine G.setCell ?_ (by simp;try omega) _)⟩
theorem rB_17(rk ra rb:Int)(rs:ByteArray)(c:Int)(k a b k' a' b':Int)(s s':ByteArray)(z:(k==0)=false)(z':(k'==0)=false)(h1:∀w,Calls prog 26 #[V k a b s] w fun e w'=>e=.returned (.bool true)∧G w w')(h2:∀w,Calls prog 26 #[V k' a' b' s'] w fun e w'=>e=.returned (.bool true)∧G w w')(h3:∀w,Calls prog 45 #[.int .i64 17,V k a b s,V k' a' b' s'] w fun e w'=>e=.returned (.tuple #[V rk ra rb rs,.int .i64 c])∧G w w')(w:World):Calls prog 17 #[.int .i64 17,V k a b s,V k' a' b' s'] w fun e w'=>e=.returned (.tuple #[V rk ra rb rs,.int .i64 c])∧G w w':=by
 have H1:Hid _:=h1
 have H2:Hid _:=h2
 have H3:Hid _:=h3
 clear h1 h2 h3
 go_enter func17,ntmps17
 go_wp2_with fail
 refine(H1.out _).mono ?_
 rintro e w1 ⟨rfl,hb1⟩
 have g1:G w w1:=((((G.refl w).alloc _).alloc _).alloc _).trans hb1
 obtain⟨hc1,hf1⟩:=hb1.rules
 have hz1:w.heap.size+2<w1.heap.size:=by have:=hb1.size;simp at this;omega
 have hz1a:w.heap.size<w1.heap.size:=by omega
 have hz1b:w.heap.size+1<w1.heap.size:=by omega
 go_wp2_with fail
 refine(H2.out _).mono ?_
 rintro e w2 ⟨rfl,hb2⟩
 have g2:G w w2:=g1.trans hb2
 obtain⟨hc2,hf2⟩:=hb2.rules
 have hz2:w.heap.size+2<w2.heap.size:=by have:=hb2.size;omega
 have hz2a:w.heap.size<w2.heap.size:=by omega
 have hz2b:w.heap.size+1<w2.heap.size:=by omega
 go_wp2_with fail
 refine(H3.out _).mono ?_
 rintro e w3 ⟨rfl,hb3⟩
 have g3:G w w3:=g2.trans hb3
 obtain⟨hc3,hf3⟩:=hb3.rules
 go_wp2
 exact bodyPost_ret (v:=.tuple #[V rk ra rb rs,.int .i64 c]) (by simp[results,results17,go_sem,hc1,hc2,hc3,hz1,hz2]) rfl ⟨rfl,by
  repeat(first|exact g3|refine G.alloc ?_ _|refine G.setCell ?_ (by simp;try omega) _)⟩
theorem rB_18(rk ra rb:Int)(rs:ByteArray)(c:Int)(k a b k' a' b':Int)(s s':ByteArray)(z:(k==0)=false)(z':(k'==0)=false)(h1:∀w,Calls prog 26 #[V k a b s] w fun e w'=>e=.returned (.bool true)∧G w w')(h2:∀w,Calls prog 26 #[V k' a' b' s'] w fun e w'=>e=.returned (.bool true)∧G w w')(h3:∀w,Calls prog 45 #[.int .i64 18,V k a b s,V k' a' b' s'] w fun e w'=>e=.returned (.tuple #[V rk ra rb rs,.int .i64 c])∧G w w')(w:World):Calls prog 17 #[.int .i64 18,V k a b s,V k' a' b' s'] w fun e w'=>e=.returned (.tuple #[V rk ra rb rs,.int .i64 c])∧G w w':=by
 have H1:Hid _:=h1
 have H2:Hid _:=h2
 have H3:Hid _:=h3
 clear h1 h2 h3
 go_enter func17,ntmps17
 go_wp2_with fail
 refine(H1.out _).mono ?_
 rintro e w1 ⟨rfl,hb1⟩
 have g1:G w w1:=((((G.refl w).alloc _).alloc _).alloc _).trans hb1
 obtain⟨hc1,hf1⟩:=hb1.rules
 have hz1:w.heap.size+2<w1.heap.size:=by have:=hb1.size;simp at this;omega
 have hz1a:w.heap.size<w1.heap.size:=by omega
 have hz1b:w.heap.size+1<w1.heap.size:=by omega
 go_wp2_with fail
 refine(H2.out _).mono ?_
 rintro e w2 ⟨rfl,hb2⟩
 have g2:G w w2:=g1.trans hb2
 obtain⟨hc2,hf2⟩:=hb2.rules
 have hz2:w.heap.size+2<w2.heap.size:=by have:=hb2.size;omega
 have hz2a:w.heap.size<w2.heap.size:=by omega
 have hz2b:w.heap.size+1<w2.heap.size:=by omega
 go_wp2_with fail
 refine(H3.out _).mono ?_
 rintro e w3 ⟨rfl,hb3⟩
 have g3:G w w3:=g2.trans hb3
 obtain⟨hc3,hf3⟩:=hb3.rules
 go_wp2
 exact bodyPost_ret (v:=.tuple #[V rk ra rb rs,.int .i64 c]) (by simp[results,results17,go_sem,hc1,hc2,hc3,hz1,hz2]) rfl ⟨rfl,by
  repeat(first|exact g3|refine G.alloc ?_ _|refine G.setCell ?_ (by simp;try omega) _)⟩
theorem rB_16(rk ra rb:Int)(rs:ByteArray)(c:Int)(k a b k' a' b':Int)(s s':ByteArray)(z:(k==0)=false)(z':(k'==0)=false)(h1:∀w,Calls prog 26 #[V k a b s] w fun e w'=>e=.returned (.bool true)∧G w w')(h2:∀w,Calls prog 26 #[V k' a' b' s'] w fun e w'=>e=.returned (.bool true)∧G w w')(h3:∀w,Calls prog 46 #[V k a b s,V k' a' b' s'] w fun e w'=>e=.returned (.tuple #[V rk ra rb rs,.int .i64 c])∧G w w')(w:World):Calls prog 17 #[.int .i64 16,V k a b s,V k' a' b' s'] w fun e w'=>e=.returned (.tuple #[V rk ra rb rs,.int .i64 c])∧G w w':=by
 have H1:Hid _:=h1
 have H2:Hid _:=h2
 have H3:Hid _:=h3
 clear h1 h2 h3
 go_enter func17,ntmps17
 go_wp2_with fail
 refine(H1.out _).mono ?_
 rintro e w1 ⟨rfl,hb1⟩
 have g1:G w w1:=((((G.refl w).alloc _).alloc _).alloc _).trans hb1
 obtain⟨hc1,hf1⟩:=hb1.rules
 have hz1:w.heap.size+2<w1.heap.size:=by have:=hb1.size;simp at this;omega
 have hz1a:w.heap.size<w1.heap.size:=by omega
 have hz1b:w.heap.size+1<w1.heap.size:=by omega
 go_wp2_with fail
 refine(H2.out _).mono ?_
 rintro e w2 ⟨rfl,hb2⟩
 have g2:G w w2:=g1.trans hb2
 obtain⟨hc2,hf2⟩:=hb2.rules
 have hz2:w.heap.size+2<w2.heap.size:=by have:=hb2.size;omega
 have hz2a:w.heap.size<w2.heap.size:=by omega
 have hz2b:w.heap.size+1<w2.heap.size:=by omega
 go_wp2_with fail
 refine(H3.out _).mono ?_
 rintro e w3 ⟨rfl,hb3⟩
 have g3:G w w3:=g2.trans hb3
 obtain⟨hc3,hf3⟩:=hb3.rules
 go_wp2
 exact bodyPost_ret (v:=.tuple #[V rk ra rb rs,.int .i64 c]) (by simp[results,results17,go_sem,hc1,hc2,hc3,hz1,hz2]) rfl ⟨rfl,by
  repeat(first|exact g3|refine G.alloc ?_ _|refine G.setCell ?_ (by simp;try omega) _)⟩
theorem rB_1(rk ra rb:Int)(rs:ByteArray)(c:Int)(k a b k' a' b':Int)(s s':ByteArray)(z:(k==0)=false)(z':(k'==0)=false)(h1:∀w,Calls prog 26 #[V k a b s] w fun e w'=>e=.returned (.bool true)∧G w w')(h2:∀w,Calls prog 26 #[V k' a' b' s'] w fun e w'=>e=.returned (.bool true)∧G w w')(h3:∀w,Calls prog 47 #[.int .i64 1,V k a b s,V k' a' b' s'] w fun e w'=>e=.returned (.tuple #[V rk ra rb rs,.int .i64 c])∧G w w')(w:World):Calls prog 17 #[.int .i64 1,V k a b s,V k' a' b' s'] w fun e w'=>e=.returned (.tuple #[V rk ra rb rs,.int .i64 c])∧G w w':=by
 have H1:Hid _:=h1
 have H2:Hid _:=h2
 have H3:Hid _:=h3
 clear h1 h2 h3
 go_enter func17,ntmps17
 go_wp2_with fail
 refine(H1.out _).mono ?_
 rintro e w1 ⟨rfl,hb1⟩
 have g1:G w w1:=((((G.refl w).alloc _).alloc _).alloc _).trans hb1
 obtain⟨hc1,hf1⟩:=hb1.rules
 have hz1:w.heap.size+2<w1.heap.size:=by have:=hb1.size;simp at this;omega
 have hz1a:w.heap.size<w1.heap.size:=by omega
 have hz1b:w.heap.size+1<w1.heap.size:=by omega
 go_wp2_with fail
 refine(H2.out _).mono ?_
 rintro e w2 ⟨rfl,hb2⟩
 have g2:G w w2:=g1.trans hb2
 obtain⟨hc2,hf2⟩:=hb2.rules
 have hz2:w.heap.size+2<w2.heap.size:=by have:=hb2.size;omega
 have hz2a:w.heap.size<w2.heap.size:=by omega
 have hz2b:w.heap.size+1<w2.heap.size:=by omega
 go_wp2_with fail
 refine(H3.out _).mono ?_
 rintro e w3 ⟨rfl,hb3⟩
 have g3:G w w3:=g2.trans hb3
 obtain⟨hc3,hf3⟩:=hb3.rules
 go_wp2
 exact bodyPost_ret (v:=.tuple #[V rk ra rb rs,.int .i64 c]) (by simp[results,results17,go_sem,hc1,hc2,hc3,hz1,hz2]) rfl ⟨rfl,by
  repeat(first|exact g3|refine G.alloc ?_ _|refine G.setCell ?_ (by simp;try omega) _)⟩
theorem rB_2(rk ra rb:Int)(rs:ByteArray)(c:Int)(k a b k' a' b':Int)(s s':ByteArray)(z:(k==0)=false)(z':(k'==0)=false)(h1:∀w,Calls prog 26 #[V k a b s] w fun e w'=>e=.returned (.bool true)∧G w w')(h2:∀w,Calls prog 26 #[V k' a' b' s'] w fun e w'=>e=.returned (.bool true)∧G w w')(h3:∀w,Calls prog 47 #[.int .i64 2,V k a b s,V k' a' b' s'] w fun e w'=>e=.returned (.tuple #[V rk ra rb rs,.int .i64 c])∧G w w')(w:World):Calls prog 17 #[.int .i64 2,V k a b s,V k' a' b' s'] w fun e w'=>e=.returned (.tuple #[V rk ra rb rs,.int .i64 c])∧G w w':=by
 have H1:Hid _:=h1
 have H2:Hid _:=h2
 have H3:Hid _:=h3
 clear h1 h2 h3
 go_enter func17,ntmps17
 go_wp2_with fail
 refine(H1.out _).mono ?_
 rintro e w1 ⟨rfl,hb1⟩
 have g1:G w w1:=((((G.refl w).alloc _).alloc _).alloc _).trans hb1
 obtain⟨hc1,hf1⟩:=hb1.rules
 have hz1:w.heap.size+2<w1.heap.size:=by have:=hb1.size;simp at this;omega
 have hz1a:w.heap.size<w1.heap.size:=by omega
 have hz1b:w.heap.size+1<w1.heap.size:=by omega
 go_wp2_with fail
 refine(H2.out _).mono ?_
 rintro e w2 ⟨rfl,hb2⟩
 have g2:G w w2:=g1.trans hb2
 obtain⟨hc2,hf2⟩:=hb2.rules
 have hz2:w.heap.size+2<w2.heap.size:=by have:=hb2.size;omega
 have hz2a:w.heap.size<w2.heap.size:=by omega
 have hz2b:w.heap.size+1<w2.heap.size:=by omega
 go_wp2_with fail
 refine(H3.out _).mono ?_
 rintro e w3 ⟨rfl,hb3⟩
 have g3:G w w3:=g2.trans hb3
 obtain⟨hc3,hf3⟩:=hb3.rules
 go_wp2
 exact bodyPost_ret (v:=.tuple #[V rk ra rb rs,.int .i64 c]) (by simp[results,results17,go_sem,hc1,hc2,hc3,hz1,hz2]) rfl ⟨rfl,by
  repeat(first|exact g3|refine G.alloc ?_ _|refine G.setCell ?_ (by simp;try omega) _)⟩
theorem rB_3(rk ra rb:Int)(rs:ByteArray)(c:Int)(k a b k' a' b':Int)(s s':ByteArray)(z:(k==0)=false)(z':(k'==0)=false)(h1:∀w,Calls prog 26 #[V k a b s] w fun e w'=>e=.returned (.bool true)∧G w w')(h2:∀w,Calls prog 26 #[V k' a' b' s'] w fun e w'=>e=.returned (.bool true)∧G w w')(h3:∀w,Calls prog 47 #[.int .i64 3,V k a b s,V k' a' b' s'] w fun e w'=>e=.returned (.tuple #[V rk ra rb rs,.int .i64 c])∧G w w')(w:World):Calls prog 17 #[.int .i64 3,V k a b s,V k' a' b' s'] w fun e w'=>e=.returned (.tuple #[V rk ra rb rs,.int .i64 c])∧G w w':=by
 have H1:Hid _:=h1
 have H2:Hid _:=h2
 have H3:Hid _:=h3
 clear h1 h2 h3
 go_enter func17,ntmps17
 go_wp2_with fail
 refine(H1.out _).mono ?_
 rintro e w1 ⟨rfl,hb1⟩
 have g1:G w w1:=((((G.refl w).alloc _).alloc _).alloc _).trans hb1
 obtain⟨hc1,hf1⟩:=hb1.rules
 have hz1:w.heap.size+2<w1.heap.size:=by have:=hb1.size;simp at this;omega
 have hz1a:w.heap.size<w1.heap.size:=by omega
 have hz1b:w.heap.size+1<w1.heap.size:=by omega
 go_wp2_with fail
 refine(H2.out _).mono ?_
 rintro e w2 ⟨rfl,hb2⟩
 have g2:G w w2:=g1.trans hb2
 obtain⟨hc2,hf2⟩:=hb2.rules
 have hz2:w.heap.size+2<w2.heap.size:=by have:=hb2.size;omega
 have hz2a:w.heap.size<w2.heap.size:=by omega
 have hz2b:w.heap.size+1<w2.heap.size:=by omega
 go_wp2_with fail
 refine(H3.out _).mono ?_
 rintro e w3 ⟨rfl,hb3⟩
 have g3:G w w3:=g2.trans hb3
 obtain⟨hc3,hf3⟩:=hb3.rules
 go_wp2
 exact bodyPost_ret (v:=.tuple #[V rk ra rb rs,.int .i64 c]) (by simp[results,results17,go_sem,hc1,hc2,hc3,hz1,hz2]) rfl ⟨rfl,by
  repeat(first|exact g3|refine G.alloc ?_ _|refine G.setCell ?_ (by simp;try omega) _)⟩
theorem rB_4(rk ra rb:Int)(rs:ByteArray)(c:Int)(k a b k' a' b':Int)(s s':ByteArray)(z:(k==0)=false)(z':(k'==0)=false)(h1:∀w,Calls prog 26 #[V k a b s] w fun e w'=>e=.returned (.bool true)∧G w w')(h2:∀w,Calls prog 26 #[V k' a' b' s'] w fun e w'=>e=.returned (.bool true)∧G w w')(h3:∀w,Calls prog 47 #[.int .i64 4,V k a b s,V k' a' b' s'] w fun e w'=>e=.returned (.tuple #[V rk ra rb rs,.int .i64 c])∧G w w')(w:World):Calls prog 17 #[.int .i64 4,V k a b s,V k' a' b' s'] w fun e w'=>e=.returned (.tuple #[V rk ra rb rs,.int .i64 c])∧G w w':=by
 have H1:Hid _:=h1
 have H2:Hid _:=h2
 have H3:Hid _:=h3
 clear h1 h2 h3
 go_enter func17,ntmps17
 go_wp2_with fail
 refine(H1.out _).mono ?_
 rintro e w1 ⟨rfl,hb1⟩
 have g1:G w w1:=((((G.refl w).alloc _).alloc _).alloc _).trans hb1
 obtain⟨hc1,hf1⟩:=hb1.rules
 have hz1:w.heap.size+2<w1.heap.size:=by have:=hb1.size;simp at this;omega
 have hz1a:w.heap.size<w1.heap.size:=by omega
 have hz1b:w.heap.size+1<w1.heap.size:=by omega
 go_wp2_with fail
 refine(H2.out _).mono ?_
 rintro e w2 ⟨rfl,hb2⟩
 have g2:G w w2:=g1.trans hb2
 obtain⟨hc2,hf2⟩:=hb2.rules
 have hz2:w.heap.size+2<w2.heap.size:=by have:=hb2.size;omega
 have hz2a:w.heap.size<w2.heap.size:=by omega
 have hz2b:w.heap.size+1<w2.heap.size:=by omega
 go_wp2_with fail
 refine(H3.out _).mono ?_
 rintro e w3 ⟨rfl,hb3⟩
 have g3:G w w3:=g2.trans hb3
 obtain⟨hc3,hf3⟩:=hb3.rules
 go_wp2
 exact bodyPost_ret (v:=.tuple #[V rk ra rb rs,.int .i64 c]) (by simp[results,results17,go_sem,hc1,hc2,hc3,hz1,hz2]) rfl ⟨rfl,by
  repeat(first|exact g3|refine G.alloc ?_ _|refine G.setCell ?_ (by simp;try omega) _)⟩
theorem rB_5(rk ra rb:Int)(rs:ByteArray)(c:Int)(k a b k' a' b':Int)(s s':ByteArray)(z:(k==0)=false)(z':(k'==0)=false)(h1:∀w,Calls prog 26 #[V k a b s] w fun e w'=>e=.returned (.bool true)∧G w w')(h2:∀w,Calls prog 26 #[V k' a' b' s'] w fun e w'=>e=.returned (.bool true)∧G w w')(h3:∀w,Calls prog 47 #[.int .i64 5,V k a b s,V k' a' b' s'] w fun e w'=>e=.returned (.tuple #[V rk ra rb rs,.int .i64 c])∧G w w')(w:World):Calls prog 17 #[.int .i64 5,V k a b s,V k' a' b' s'] w fun e w'=>e=.returned (.tuple #[V rk ra rb rs,.int .i64 c])∧G w w':=by
 have H1:Hid _:=h1
 have H2:Hid _:=h2
 have H3:Hid _:=h3
 clear h1 h2 h3
 go_enter func17,ntmps17
 go_wp2_with fail
 refine(H1.out _).mono ?_
 rintro e w1 ⟨rfl,hb1⟩
 have g1:G w w1:=((((G.refl w).alloc _).alloc _).alloc _).trans hb1
 obtain⟨hc1,hf1⟩:=hb1.rules
 have hz1:w.heap.size+2<w1.heap.size:=by have:=hb1.size;simp at this;omega
 have hz1a:w.heap.size<w1.heap.size:=by omega
 have hz1b:w.heap.size+1<w1.heap.size:=by omega
 go_wp2_with fail
 refine(H2.out _).mono ?_
 rintro e w2 ⟨rfl,hb2⟩
 have g2:G w w2:=g1.trans hb2
 obtain⟨hc2,hf2⟩:=hb2.rules
 have hz2:w.heap.size+2<w2.heap.size:=by have:=hb2.size;omega
 have hz2a:w.heap.size<w2.heap.size:=by omega
 have hz2b:w.heap.size+1<w2.heap.size:=by omega
 go_wp2_with fail
 refine(H3.out _).mono ?_
 rintro e w3 ⟨rfl,hb3⟩
 have g3:G w w3:=g2.trans hb3
 obtain⟨hc3,hf3⟩:=hb3.rules
 go_wp2
 exact bodyPost_ret (v:=.tuple #[V rk ra rb rs,.int .i64 c]) (by simp[results,results17,go_sem,hc1,hc2,hc3,hz1,hz2]) rfl ⟨rfl,by
  repeat(first|exact g3|refine G.alloc ?_ _|refine G.setCell ?_ (by simp;try omega) _)⟩
end
end Go.Proofs.YthmdjhfbhbheeaaGreatDoor
namespace Go.Proofs
open Go.Shelf
def Tryz.laysHasPrefix_ren:Go.Shelf.Ren:=⟨fun|99=>118|206=>151|n=>n,fun|9=>9|4=>4|3=>3|n=>n,fun|n=>n⟩
theorem Tryz.laysHasPrefix:Go.Proofs.Lays.n99 Tryz.prog Tryz.laysHasPrefix_ren:={
 mixed:=by kernel_rfl
 f99:=Tryz.func118.trans (congrArg some (by kernel_rfl))
 f206:=Tryz.func151.trans (congrArg some (by kernel_rfl))
 t3:=Tryz.underlying3
 a3:=Tryz.isAgg3
 z3:=Tryz.sizeOf3
 v3:=Tryz.zeroValue3
 t4:=Tryz.underlying4
 a4:=Tryz.isAgg4
 z4:=Tryz.sizeOf4
 v4:=Tryz.zeroValue4
 t9:=Tryz.underlying9
 a9:=Tryz.isAgg9
 z9:=Tryz.sizeOf9
 v9:=Tryz.zeroValue9}
end Go.Proofs
namespace Go.Proofs
open Go.Shelf
def Tryz.laysHasSuffix_ren:Go.Shelf.Ren:=⟨fun|100=>119|207=>152|n=>n,fun|9=>9|4=>4|3=>3|n=>n,fun|n=>n⟩
theorem Tryz.laysHasSuffix:Go.Proofs.Lays.n100 Tryz.prog Tryz.laysHasSuffix_ren:={
 mixed:=by kernel_rfl
 f100:=Tryz.func119.trans (congrArg some (by kernel_rfl))
 f207:=Tryz.func152.trans (congrArg some (by kernel_rfl))
 t3:=Tryz.underlying3
 a3:=Tryz.isAgg3
 z3:=Tryz.sizeOf3
 v3:=Tryz.zeroValue3
 t4:=Tryz.underlying4
 a4:=Tryz.isAgg4
 z4:=Tryz.sizeOf4
 v4:=Tryz.zeroValue4
 t9:=Tryz.underlying9
 a9:=Tryz.isAgg9
 z9:=Tryz.sizeOf9
 v9:=Tryz.zeroValue9}
end Go.Proofs
namespace Go.Proofs
open Go.Shelf
def Tryz.laysContains_ren:Go.Shelf.Ren:=⟨fun|144=>120|143=>153|219=>170|217=>180|225=>181|224=>182|267=>183|266=>191|314=>192|n=>n,fun|9=>9|4=>4|3=>3|5=>5|46=>168|146=>209|51=>208|n=>n,fun|1=>3|n=>n⟩
theorem Tryz.laysContains:Go.Proofs.Lays.n144 Tryz.prog Tryz.laysContains_ren:={
 mixed:=by kernel_rfl
 f143:=Tryz.func153.trans (congrArg some (by kernel_rfl))
 f144:=Tryz.func120.trans (congrArg some (by kernel_rfl))
 f217:=Tryz.func180.trans (congrArg some (by kernel_rfl))
 f219:=Tryz.func170.trans (congrArg some (by kernel_rfl))
 f224:=Tryz.func182.trans (congrArg some (by kernel_rfl))
 f225:=Tryz.func181.trans (congrArg some (by kernel_rfl))
 f266:=Tryz.func191.trans (congrArg some (by kernel_rfl))
 f267:=Tryz.func183.trans (congrArg some (by kernel_rfl))
 f314:=Tryz.func192.trans (congrArg some (by kernel_rfl))
 t3:=Tryz.underlying3
 a3:=Tryz.isAgg3
 z3:=Tryz.sizeOf3
 v3:=Tryz.zeroValue3
 t4:=Tryz.underlying4
 a4:=Tryz.isAgg4
 z4:=Tryz.sizeOf4
 v4:=Tryz.zeroValue4
 t5:=Tryz.underlying5
 a5:=Tryz.isAgg5
 z5:=Tryz.sizeOf5
 v5:=Tryz.zeroValue5
 t9:=Tryz.underlying9
 a9:=Tryz.isAgg9
 z9:=Tryz.sizeOf9
 v9:=Tryz.zeroValue9
 t46:=Tryz.underlying168
 a46:=Tryz.isAgg168
 z46:=Tryz.sizeOf168
 v46:=Tryz.zeroValue168
 t51:=Tryz.underlying208
 a51:=Tryz.isAgg208
 z51:=Tryz.sizeOf208
 v51:=Tryz.zeroValue208
 t146:=Tryz.underlying209
 a146:=Tryz.isAgg209
 z146:=Tryz.sizeOf209
 v146:=Tryz.zeroValue209
 g1:=by kernel_rfl}
end Go.Proofs
