import Derived.Test.YthmdjhfbhbheeaaGreatDoorOkK
namespace Go.Proofs.YthmdjhfbhbheeaaGreatDoor
open Go.Proofs.Tryz
set_option maxHeartbeats 1000000
set_option maxRecDepth 100000
section
open Go.RowKit
theorem rar_jn_no(a b a' b':Int)(s s':ByteArray)(h1:s.size≤4611686018427387903)(h2:s'.size≤4611686018427387903)(h:32<s.size+s'.size)(w:World):Calls prog 47 #[.int .i64 1,V 4 a b s,V 4 a' b' s'] w fun e w'=>e=.returned (.tuple #[V0,.int .i64 11])∧G w w':=by
 have h':(32:Int)<(s.size:Int)+(s'.size:Int):=by omega
 go_enter func47,ntmps47
 go_wp2
 exact bodyPost_ret (v:=.tuple #[V0,.int .i64 11]) (by simp[results,results47,go_sem]) rfl ⟨rfl,by
  repeat(first|exact G.refl _|refine G.alloc ?_ _|refine G.setCell ?_ (by simp;try omega) _)⟩
theorem rar_jn(a b a' b':Int)(s s':ByteArray)(h:s.size+s'.size≤32)(w:World):Calls prog 47 #[.int .i64 1,V 4 a b s,V 4 a' b' s'] w fun e w'=>e=.returned (.tuple #[V 4 0 0 (s++s'),.int .i64 0])∧G w w':=by
 have h':¬(32:Int)<(s.size:Int)+(s'.size:Int):=by omega
 go_enter func47,ntmps47
 go_wp2
 exact bodyPost_ret (v:=.tuple #[V 4 0 0 (s++s'),.int .i64 0]) (by simp[results,results47,go_sem]) rfl ⟨rfl,by
  repeat(first|exact G.refl _|refine G.alloc ?_ _|refine G.setCell ?_ (by simp;try omega) _)⟩
theorem rar_k1a(op:Int)(k a b k' a' b':Int)(s s':ByteArray)(h0:(op==1)=false)(h2:(k==2)=false)(h3:(k==3)=false)(w:World):Calls prog 47 #[.int .i64 op,V k a b s,V k' a' b' s'] w fun e w'=>e=.returned (.tuple #[V0,.int .i64 10])∧G w w':=by
 have n2:(k != 2)=true:=by rw[bne,h2];rfl
 have n3:(k != 3)=true:=by rw[bne,h3];rfl
 go_enter func47,ntmps47
 go_wp2
 exact bodyPost_ret (v:=.tuple #[V0,.int .i64 10]) (by simp[results,results47,go_sem]) rfl ⟨rfl,by
  repeat(first|exact G.refl _|refine G.alloc ?_ _|refine G.setCell ?_ (by simp;try omega) _)⟩
theorem rar_k1b(op:Int)(k a b k' a' b':Int)(s s':ByteArray)(h4:(k==4)=false)(h2:(k==2)=false)(h3:(k==3)=false)(w:World):Calls prog 47 #[.int .i64 op,V k a b s,V k' a' b' s'] w fun e w'=>e=.returned (.tuple #[V0,.int .i64 10])∧G w w':=by
 have n2:(k != 2)=true:=by rw[bne,h2];rfl
 have n3:(k != 3)=true:=by rw[bne,h3];rfl
 cases h0:(op==1)
 iterate 2
  ·go_enter func47,ntmps47
   go_wp2
   exact bodyPost_ret (v:=.tuple #[V0,.int .i64 10]) (by simp[results,results47,go_sem]) rfl ⟨rfl,by
    repeat(first|exact G.refl _|refine G.alloc ?_ _|refine G.setCell ?_ (by simp;try omega) _)⟩
theorem rar_k1c(op:Int)(a b k' a' b':Int)(s s':ByteArray)(h4:(k'==4)=false)(w:World):Calls prog 47 #[.int .i64 op,V 4 a b s,V k' a' b' s'] w fun e w'=>e=.returned (.tuple #[V0,.int .i64 10])∧G w w':=by
 cases h0:(op==1)
 iterate 2
  ·go_enter func47,ntmps47
   go_wp2
   exact bodyPost_ret (v:=.tuple #[V0,.int .i64 10]) (by simp[results,results47,go_sem]) rfl ⟨rfl,by
    repeat(first|exact G.refl _|refine G.alloc ?_ _|refine G.setCell ?_ (by simp;try omega) _)⟩
theorem rar_k2_2(op:Int)(a b k' a' b':Int)(s s':ByteArray)(h2:(k'==2)=false)(h3:(k'==3)=false)(w:World):Calls prog 47 #[.int .i64 op,V 2 a b s,V k' a' b' s'] w fun e w'=>e=.returned (.tuple #[V0,.int .i64 10])∧G w w':=by
 have n2:(k' != 2)=true:=by rw[bne,h2];rfl
 have n3:(k' != 3)=true:=by rw[bne,h3];rfl
 cases h0:(op==1)
 iterate 2
  ·go_enter func47,ntmps47
   go_wp2
   exact bodyPost_ret (v:=.tuple #[V0,.int .i64 10]) (by simp[results,results47,go_sem]) rfl ⟨rfl,by
    repeat(first|exact G.refl _|refine G.alloc ?_ _|refine G.setCell ?_ (by simp;try omega) _)⟩
theorem rar_k2_3(op:Int)(a b k' a' b':Int)(s s':ByteArray)(h2:(k'==2)=false)(h3:(k'==3)=false)(w:World):Calls prog 47 #[.int .i64 op,V 3 a b s,V k' a' b' s'] w fun e w'=>e=.returned (.tuple #[V0,.int .i64 10])∧G w w':=by
 have n2:(k' != 2)=true:=by rw[bne,h2];rfl
 have n3:(k' != 3)=true:=by rw[bne,h3];rfl
 cases h0:(op==1)
 iterate 2
  ·go_enter func47,ntmps47
   go_wp2
   exact bodyPost_ret (v:=.tuple #[V0,.int .i64 10]) (by simp[results,results47,go_sem]) rfl ⟨rfl,by
    repeat(first|exact G.refl _|refine G.alloc ?_ _|refine G.setCell ?_ (by simp;try omega) _)⟩
theorem rar_ww_1(a b a' b':Int)(s s':ByteArray)(rk ra rb:Int)(rs:ByteArray)(c0:Int)(h:∀w,Calls prog 89 #[.int .i64 1,.int .i64 a,.int .i64 a'] w fun e w'=>e=.returned (.tuple #[V rk ra rb rs,.int .i64 c0])∧G w w')(w:World):Calls prog 47 #[.int .i64 1,V 2 a b s,V 2 a' b' s'] w fun e w'=>e=.returned (.tuple #[V rk ra rb rs,.int .i64 c0])∧G w w':=by
 have H:Hid _:=h
 clear h
 go_enter func47,ntmps47
 go_wp2_with fail
 refine(H.out _).mono ?_
 rintro e w1 ⟨rfl,hb1⟩
 have g1:G w w1:=((((G.refl w).alloc _).alloc _).alloc _).trans hb1
 obtain⟨hc1,hf1⟩:=hb1.rules
 go_wp2
 exact bodyPost_ret (v:=.tuple #[V rk ra rb rs,.int .i64 c0]) (by simp[results,results47,go_sem,hc1]) rfl ⟨rfl,by
  repeat(first|exact g1|refine G.alloc ?_ _|refine G.setCell ?_ (by simp;try omega) _)⟩
theorem rar_cx_1_23(a b a' b':Int)(s s':ByteArray)(rk ra rb:Int)(rs:ByteArray)(c0:Int)(h1:∀w,Calls prog 73 #[.int .i64 a] w fun e w'=>e=.returned (.bool true)∧w'=w)(h2:∀w,Calls prog 73 #[.int .i64 a'] w fun e w'=>e=.returned (.bool true)∧w'=w)(h:∀w,Calls prog 90 #[.int .i64 1,.int .i64 a,.int .i64 b,.int .i64 a',.int .i64 b'] w fun e w'=>e=.returned (.tuple #[V rk ra rb rs,.int .i64 c0])∧G w w')(w:World):Calls prog 47 #[.int .i64 1,V 2 a b s,V 3 a' b' s'] w fun e w'=>e=.returned (.tuple #[V rk ra rb rs,.int .i64 c0])∧G w w':=by
 have H1:Hid _:=h1
 have H2:Hid _:=h2
 have H:Hid _:=h
 clear h1 h2 h
 go_enter func47,ntmps47
 go_wp2_with fail
 refine(H1.out _).mono ?_
 rintro e wx ⟨rfl,rfl⟩
 go_wp2_with fail
 refine(H2.out _).mono ?_
 rintro e wx ⟨rfl,rfl⟩
 go_wp2_with fail
 refine(H.out _).mono ?_
 rintro e w1 ⟨rfl,hb1⟩
 have g1:G w w1:=((((G.refl w).alloc _).alloc _).alloc _).trans hb1
 obtain⟨hc1,hf1⟩:=hb1.rules
 go_wp2
 exact bodyPost_ret (v:=.tuple #[V rk ra rb rs,.int .i64 c0]) (by simp[results,results47,go_sem,hc1]) rfl ⟨rfl,by
  repeat(first|exact g1|refine G.alloc ?_ _|refine G.setCell ?_ (by simp;try omega) _)⟩
theorem rar_r_1_23(a b a' b':Int)(s s':ByteArray)(h1:∀w,Calls prog 73 #[.int .i64 a] w fun e w'=>e=.returned (.bool false)∧w'=w)(w:World):Calls prog 47 #[.int .i64 1,V 2 a b s,V 3 a' b' s'] w fun e w'=>e=.returned (.tuple #[V0,.int .i64 11])∧G w w':=by
 have H1:Hid _:=h1
 clear h1
 go_enter func47,ntmps47
 go_wp2_with fail
 refine(H1.out _).mono ?_
 rintro e wx ⟨rfl,rfl⟩
 go_wp2
 exact bodyPost_ret (v:=.tuple #[V0,.int .i64 11]) (by simp[results,results47,go_sem]) rfl ⟨rfl,by
  repeat(first|exact G.refl _|refine G.alloc ?_ _|refine G.setCell ?_ (by simp;try omega) _)⟩
theorem rar_cx_1_32(a b a' b':Int)(s s':ByteArray)(rk ra rb:Int)(rs:ByteArray)(c0:Int)(h1:∀w,Calls prog 73 #[.int .i64 a] w fun e w'=>e=.returned (.bool true)∧w'=w)(h2:∀w,Calls prog 73 #[.int .i64 a'] w fun e w'=>e=.returned (.bool true)∧w'=w)(h:∀w,Calls prog 90 #[.int .i64 1,.int .i64 a,.int .i64 b,.int .i64 a',.int .i64 b'] w fun e w'=>e=.returned (.tuple #[V rk ra rb rs,.int .i64 c0])∧G w w')(w:World):Calls prog 47 #[.int .i64 1,V 3 a b s,V 2 a' b' s'] w fun e w'=>e=.returned (.tuple #[V rk ra rb rs,.int .i64 c0])∧G w w':=by
 have H1:Hid _:=h1
 have H2:Hid _:=h2
 have H:Hid _:=h
 clear h1 h2 h
 go_enter func47,ntmps47
 go_wp2_with fail
 refine(H1.out _).mono ?_
 rintro e wx ⟨rfl,rfl⟩
 go_wp2_with fail
 refine(H2.out _).mono ?_
 rintro e wx ⟨rfl,rfl⟩
 go_wp2_with fail
 refine(H.out _).mono ?_
 rintro e w1 ⟨rfl,hb1⟩
 have g1:G w w1:=((((G.refl w).alloc _).alloc _).alloc _).trans hb1
 obtain⟨hc1,hf1⟩:=hb1.rules
 go_wp2
 exact bodyPost_ret (v:=.tuple #[V rk ra rb rs,.int .i64 c0]) (by simp[results,results47,go_sem,hc1]) rfl ⟨rfl,by
  repeat(first|exact g1|refine G.alloc ?_ _|refine G.setCell ?_ (by simp;try omega) _)⟩
theorem rar_r_1_32(a b a' b':Int)(s s':ByteArray)(h1:∀w,Calls prog 73 #[.int .i64 a] w fun e w'=>e=.returned (.bool true)∧w'=w)(h2:∀w,Calls prog 73 #[.int .i64 a'] w fun e w'=>e=.returned (.bool false)∧w'=w)(w:World):Calls prog 47 #[.int .i64 1,V 3 a b s,V 2 a' b' s'] w fun e w'=>e=.returned (.tuple #[V0,.int .i64 11])∧G w w':=by
 have H1:Hid _:=h1
 have H2:Hid _:=h2
 clear h1 h2
 go_enter func47,ntmps47
 go_wp2_with fail
 refine(H1.out _).mono ?_
 rintro e wx ⟨rfl,rfl⟩
 go_wp2_with fail
 refine(H2.out _).mono ?_
 rintro e wx ⟨rfl,rfl⟩
 go_wp2
 exact bodyPost_ret (v:=.tuple #[V0,.int .i64 11]) (by simp[results,results47,go_sem]) rfl ⟨rfl,by
  repeat(first|exact G.refl _|refine G.alloc ?_ _|refine G.setCell ?_ (by simp;try omega) _)⟩
theorem rar_cx_1_33(a b a' b':Int)(s s':ByteArray)(rk ra rb:Int)(rs:ByteArray)(c0:Int)(h1:∀w,Calls prog 73 #[.int .i64 a] w fun e w'=>e=.returned (.bool true)∧w'=w)(h2:∀w,Calls prog 73 #[.int .i64 a'] w fun e w'=>e=.returned (.bool true)∧w'=w)(h:∀w,Calls prog 90 #[.int .i64 1,.int .i64 a,.int .i64 b,.int .i64 a',.int .i64 b'] w fun e w'=>e=.returned (.tuple #[V rk ra rb rs,.int .i64 c0])∧G w w')(w:World):Calls prog 47 #[.int .i64 1,V 3 a b s,V 3 a' b' s'] w fun e w'=>e=.returned (.tuple #[V rk ra rb rs,.int .i64 c0])∧G w w':=by
 have H1:Hid _:=h1
 have H2:Hid _:=h2
 have H:Hid _:=h
 clear h1 h2 h
 go_enter func47,ntmps47
 go_wp2_with fail
 refine(H1.out _).mono ?_
 rintro e wx ⟨rfl,rfl⟩
 go_wp2_with fail
 refine(H2.out _).mono ?_
 rintro e wx ⟨rfl,rfl⟩
 go_wp2_with fail
 refine(H.out _).mono ?_
 rintro e w1 ⟨rfl,hb1⟩
 have g1:G w w1:=((((G.refl w).alloc _).alloc _).alloc _).trans hb1
 obtain⟨hc1,hf1⟩:=hb1.rules
 go_wp2
 exact bodyPost_ret (v:=.tuple #[V rk ra rb rs,.int .i64 c0]) (by simp[results,results47,go_sem,hc1]) rfl ⟨rfl,by
  repeat(first|exact g1|refine G.alloc ?_ _|refine G.setCell ?_ (by simp;try omega) _)⟩
theorem rar_ww_2(a b a' b':Int)(s s':ByteArray)(rk ra rb:Int)(rs:ByteArray)(c0:Int)(h:∀w,Calls prog 89 #[.int .i64 2,.int .i64 a,.int .i64 a'] w fun e w'=>e=.returned (.tuple #[V rk ra rb rs,.int .i64 c0])∧G w w')(w:World):Calls prog 47 #[.int .i64 2,V 2 a b s,V 2 a' b' s'] w fun e w'=>e=.returned (.tuple #[V rk ra rb rs,.int .i64 c0])∧G w w':=by
 have H:Hid _:=h
 clear h
 go_enter func47,ntmps47
 go_wp2_with fail
 refine(H.out _).mono ?_
 rintro e w1 ⟨rfl,hb1⟩
 have g1:G w w1:=((((G.refl w).alloc _).alloc _).alloc _).trans hb1
 obtain⟨hc1,hf1⟩:=hb1.rules
 go_wp2
 exact bodyPost_ret (v:=.tuple #[V rk ra rb rs,.int .i64 c0]) (by simp[results,results47,go_sem,hc1]) rfl ⟨rfl,by
  repeat(first|exact g1|refine G.alloc ?_ _|refine G.setCell ?_ (by simp;try omega) _)⟩
theorem rar_cx_2_23(a b a' b':Int)(s s':ByteArray)(rk ra rb:Int)(rs:ByteArray)(c0:Int)(h1:∀w,Calls prog 73 #[.int .i64 a] w fun e w'=>e=.returned (.bool true)∧w'=w)(h2:∀w,Calls prog 73 #[.int .i64 a'] w fun e w'=>e=.returned (.bool true)∧w'=w)(h:∀w,Calls prog 90 #[.int .i64 2,.int .i64 a,.int .i64 b,.int .i64 a',.int .i64 b'] w fun e w'=>e=.returned (.tuple #[V rk ra rb rs,.int .i64 c0])∧G w w')(w:World):Calls prog 47 #[.int .i64 2,V 2 a b s,V 3 a' b' s'] w fun e w'=>e=.returned (.tuple #[V rk ra rb rs,.int .i64 c0])∧G w w':=by
 have H1:Hid _:=h1
 have H2:Hid _:=h2
 have H:Hid _:=h
 clear h1 h2 h
 go_enter func47,ntmps47
 go_wp2_with fail
 refine(H1.out _).mono ?_
 rintro e wx ⟨rfl,rfl⟩
 go_wp2_with fail
 refine(H2.out _).mono ?_
 rintro e wx ⟨rfl,rfl⟩
 go_wp2_with fail
 refine(H.out _).mono ?_
 rintro e w1 ⟨rfl,hb1⟩
 have g1:G w w1:=((((G.refl w).alloc _).alloc _).alloc _).trans hb1
 obtain⟨hc1,hf1⟩:=hb1.rules
 go_wp2
 exact bodyPost_ret (v:=.tuple #[V rk ra rb rs,.int .i64 c0]) (by simp[results,results47,go_sem,hc1]) rfl ⟨rfl,by
  repeat(first|exact g1|refine G.alloc ?_ _|refine G.setCell ?_ (by simp;try omega) _)⟩
theorem rar_r_2_23(a b a' b':Int)(s s':ByteArray)(h1:∀w,Calls prog 73 #[.int .i64 a] w fun e w'=>e=.returned (.bool false)∧w'=w)(w:World):Calls prog 47 #[.int .i64 2,V 2 a b s,V 3 a' b' s'] w fun e w'=>e=.returned (.tuple #[V0,.int .i64 11])∧G w w':=by
 have H1:Hid _:=h1
 clear h1
 go_enter func47,ntmps47
 go_wp2_with fail
 refine(H1.out _).mono ?_
 rintro e wx ⟨rfl,rfl⟩
 go_wp2
 exact bodyPost_ret (v:=.tuple #[V0,.int .i64 11]) (by simp[results,results47,go_sem]) rfl ⟨rfl,by
  repeat(first|exact G.refl _|refine G.alloc ?_ _|refine G.setCell ?_ (by simp;try omega) _)⟩
theorem rar_cx_2_32(a b a' b':Int)(s s':ByteArray)(rk ra rb:Int)(rs:ByteArray)(c0:Int)(h1:∀w,Calls prog 73 #[.int .i64 a] w fun e w'=>e=.returned (.bool true)∧w'=w)(h2:∀w,Calls prog 73 #[.int .i64 a'] w fun e w'=>e=.returned (.bool true)∧w'=w)(h:∀w,Calls prog 90 #[.int .i64 2,.int .i64 a,.int .i64 b,.int .i64 a',.int .i64 b'] w fun e w'=>e=.returned (.tuple #[V rk ra rb rs,.int .i64 c0])∧G w w')(w:World):Calls prog 47 #[.int .i64 2,V 3 a b s,V 2 a' b' s'] w fun e w'=>e=.returned (.tuple #[V rk ra rb rs,.int .i64 c0])∧G w w':=by
 have H1:Hid _:=h1
 have H2:Hid _:=h2
 have H:Hid _:=h
 clear h1 h2 h
 go_enter func47,ntmps47
 go_wp2_with fail
 refine(H1.out _).mono ?_
 rintro e wx ⟨rfl,rfl⟩
 go_wp2_with fail
 refine(H2.out _).mono ?_
 rintro e wx ⟨rfl,rfl⟩
 go_wp2_with fail
 refine(H.out _).mono ?_
 rintro e w1 ⟨rfl,hb1⟩
 have g1:G w w1:=((((G.refl w).alloc _).alloc _).alloc _).trans hb1
 obtain⟨hc1,hf1⟩:=hb1.rules
 go_wp2
 exact bodyPost_ret (v:=.tuple #[V rk ra rb rs,.int .i64 c0]) (by simp[results,results47,go_sem,hc1]) rfl ⟨rfl,by
  repeat(first|exact g1|refine G.alloc ?_ _|refine G.setCell ?_ (by simp;try omega) _)⟩
theorem rar_r_2_32(a b a' b':Int)(s s':ByteArray)(h1:∀w,Calls prog 73 #[.int .i64 a] w fun e w'=>e=.returned (.bool true)∧w'=w)(h2:∀w,Calls prog 73 #[.int .i64 a'] w fun e w'=>e=.returned (.bool false)∧w'=w)(w:World):Calls prog 47 #[.int .i64 2,V 3 a b s,V 2 a' b' s'] w fun e w'=>e=.returned (.tuple #[V0,.int .i64 11])∧G w w':=by
 have H1:Hid _:=h1
 have H2:Hid _:=h2
 clear h1 h2
 go_enter func47,ntmps47
 go_wp2_with fail
 refine(H1.out _).mono ?_
 rintro e wx ⟨rfl,rfl⟩
 go_wp2_with fail
 refine(H2.out _).mono ?_
 rintro e wx ⟨rfl,rfl⟩
 go_wp2
 exact bodyPost_ret (v:=.tuple #[V0,.int .i64 11]) (by simp[results,results47,go_sem]) rfl ⟨rfl,by
  repeat(first|exact G.refl _|refine G.alloc ?_ _|refine G.setCell ?_ (by simp;try omega) _)⟩
theorem rar_cx_2_33(a b a' b':Int)(s s':ByteArray)(rk ra rb:Int)(rs:ByteArray)(c0:Int)(h1:∀w,Calls prog 73 #[.int .i64 a] w fun e w'=>e=.returned (.bool true)∧w'=w)(h2:∀w,Calls prog 73 #[.int .i64 a'] w fun e w'=>e=.returned (.bool true)∧w'=w)(h:∀w,Calls prog 90 #[.int .i64 2,.int .i64 a,.int .i64 b,.int .i64 a',.int .i64 b'] w fun e w'=>e=.returned (.tuple #[V rk ra rb rs,.int .i64 c0])∧G w w')(w:World):Calls prog 47 #[.int .i64 2,V 3 a b s,V 3 a' b' s'] w fun e w'=>e=.returned (.tuple #[V rk ra rb rs,.int .i64 c0])∧G w w':=by
 have H1:Hid _:=h1
 have H2:Hid _:=h2
 have H:Hid _:=h
 clear h1 h2 h
 go_enter func47,ntmps47
 go_wp2_with fail
 refine(H1.out _).mono ?_
 rintro e wx ⟨rfl,rfl⟩
 go_wp2_with fail
 refine(H2.out _).mono ?_
 rintro e wx ⟨rfl,rfl⟩
 go_wp2_with fail
 refine(H.out _).mono ?_
 rintro e w1 ⟨rfl,hb1⟩
 have g1:G w w1:=((((G.refl w).alloc _).alloc _).alloc _).trans hb1
 obtain⟨hc1,hf1⟩:=hb1.rules
 go_wp2
 exact bodyPost_ret (v:=.tuple #[V rk ra rb rs,.int .i64 c0]) (by simp[results,results47,go_sem,hc1]) rfl ⟨rfl,by
  repeat(first|exact g1|refine G.alloc ?_ _|refine G.setCell ?_ (by simp;try omega) _)⟩
theorem rar_ww_3(a b a' b':Int)(s s':ByteArray)(rk ra rb:Int)(rs:ByteArray)(c0:Int)(h:∀w,Calls prog 89 #[.int .i64 3,.int .i64 a,.int .i64 a'] w fun e w'=>e=.returned (.tuple #[V rk ra rb rs,.int .i64 c0])∧G w w')(w:World):Calls prog 47 #[.int .i64 3,V 2 a b s,V 2 a' b' s'] w fun e w'=>e=.returned (.tuple #[V rk ra rb rs,.int .i64 c0])∧G w w':=by
 have H:Hid _:=h
 clear h
 go_enter func47,ntmps47
 go_wp2_with fail
 refine(H.out _).mono ?_
 rintro e w1 ⟨rfl,hb1⟩
 have g1:G w w1:=((((G.refl w).alloc _).alloc _).alloc _).trans hb1
 obtain⟨hc1,hf1⟩:=hb1.rules
 go_wp2
 exact bodyPost_ret (v:=.tuple #[V rk ra rb rs,.int .i64 c0]) (by simp[results,results47,go_sem,hc1]) rfl ⟨rfl,by
  repeat(first|exact g1|refine G.alloc ?_ _|refine G.setCell ?_ (by simp;try omega) _)⟩
theorem rar_cx_3_23(a b a' b':Int)(s s':ByteArray)(rk ra rb:Int)(rs:ByteArray)(c0:Int)(h1:∀w,Calls prog 73 #[.int .i64 a] w fun e w'=>e=.returned (.bool true)∧w'=w)(h2:∀w,Calls prog 73 #[.int .i64 a'] w fun e w'=>e=.returned (.bool true)∧w'=w)(h:∀w,Calls prog 90 #[.int .i64 3,.int .i64 a,.int .i64 b,.int .i64 a',.int .i64 b'] w fun e w'=>e=.returned (.tuple #[V rk ra rb rs,.int .i64 c0])∧G w w')(w:World):Calls prog 47 #[.int .i64 3,V 2 a b s,V 3 a' b' s'] w fun e w'=>e=.returned (.tuple #[V rk ra rb rs,.int .i64 c0])∧G w w':=by
 have H1:Hid _:=h1
 have H2:Hid _:=h2
 have H:Hid _:=h
 clear h1 h2 h
 go_enter func47,ntmps47
 go_wp2_with fail
 refine(H1.out _).mono ?_
 rintro e wx ⟨rfl,rfl⟩
 go_wp2_with fail
 refine(H2.out _).mono ?_
 rintro e wx ⟨rfl,rfl⟩
 go_wp2_with fail
 refine(H.out _).mono ?_
 rintro e w1 ⟨rfl,hb1⟩
 have g1:G w w1:=((((G.refl w).alloc _).alloc _).alloc _).trans hb1
 obtain⟨hc1,hf1⟩:=hb1.rules
 go_wp2
 exact bodyPost_ret (v:=.tuple #[V rk ra rb rs,.int .i64 c0]) (by simp[results,results47,go_sem,hc1]) rfl ⟨rfl,by
  repeat(first|exact g1|refine G.alloc ?_ _|refine G.setCell ?_ (by simp;try omega) _)⟩
theorem rar_r_3_23(a b a' b':Int)(s s':ByteArray)(h1:∀w,Calls prog 73 #[.int .i64 a] w fun e w'=>e=.returned (.bool false)∧w'=w)(w:World):Calls prog 47 #[.int .i64 3,V 2 a b s,V 3 a' b' s'] w fun e w'=>e=.returned (.tuple #[V0,.int .i64 11])∧G w w':=by
 have H1:Hid _:=h1
 clear h1
 go_enter func47,ntmps47
 go_wp2_with fail
 refine(H1.out _).mono ?_
 rintro e wx ⟨rfl,rfl⟩
 go_wp2
 exact bodyPost_ret (v:=.tuple #[V0,.int .i64 11]) (by simp[results,results47,go_sem]) rfl ⟨rfl,by
  repeat(first|exact G.refl _|refine G.alloc ?_ _|refine G.setCell ?_ (by simp;try omega) _)⟩
theorem rar_cx_3_32(a b a' b':Int)(s s':ByteArray)(rk ra rb:Int)(rs:ByteArray)(c0:Int)(h1:∀w,Calls prog 73 #[.int .i64 a] w fun e w'=>e=.returned (.bool true)∧w'=w)(h2:∀w,Calls prog 73 #[.int .i64 a'] w fun e w'=>e=.returned (.bool true)∧w'=w)(h:∀w,Calls prog 90 #[.int .i64 3,.int .i64 a,.int .i64 b,.int .i64 a',.int .i64 b'] w fun e w'=>e=.returned (.tuple #[V rk ra rb rs,.int .i64 c0])∧G w w')(w:World):Calls prog 47 #[.int .i64 3,V 3 a b s,V 2 a' b' s'] w fun e w'=>e=.returned (.tuple #[V rk ra rb rs,.int .i64 c0])∧G w w':=by
 have H1:Hid _:=h1
 have H2:Hid _:=h2
 have H:Hid _:=h
 clear h1 h2 h
 go_enter func47,ntmps47
 go_wp2_with fail
 refine(H1.out _).mono ?_
 rintro e wx ⟨rfl,rfl⟩
 go_wp2_with fail
 refine(H2.out _).mono ?_
 rintro e wx ⟨rfl,rfl⟩
 go_wp2_with fail
 refine(H.out _).mono ?_
 rintro e w1 ⟨rfl,hb1⟩
 have g1:G w w1:=((((G.refl w).alloc _).alloc _).alloc _).trans hb1
 obtain⟨hc1,hf1⟩:=hb1.rules
 go_wp2
 exact bodyPost_ret (v:=.tuple #[V rk ra rb rs,.int .i64 c0]) (by simp[results,results47,go_sem,hc1]) rfl ⟨rfl,by
  repeat(first|exact g1|refine G.alloc ?_ _|refine G.setCell ?_ (by simp;try omega) _)⟩
theorem rar_r_3_32(a b a' b':Int)(s s':ByteArray)(h1:∀w,Calls prog 73 #[.int .i64 a] w fun e w'=>e=.returned (.bool true)∧w'=w)(h2:∀w,Calls prog 73 #[.int .i64 a'] w fun e w'=>e=.returned (.bool false)∧w'=w)(w:World):Calls prog 47 #[.int .i64 3,V 3 a b s,V 2 a' b' s'] w fun e w'=>e=.returned (.tuple #[V0,.int .i64 11])∧G w w':=by
 have H1:Hid _:=h1
 have H2:Hid _:=h2
 clear h1 h2
 go_enter func47,ntmps47
 go_wp2_with fail
 refine(H1.out _).mono ?_
 rintro e wx ⟨rfl,rfl⟩
 go_wp2_with fail
 refine(H2.out _).mono ?_
 rintro e wx ⟨rfl,rfl⟩
 go_wp2
 exact bodyPost_ret (v:=.tuple #[V0,.int .i64 11]) (by simp[results,results47,go_sem]) rfl ⟨rfl,by
  repeat(first|exact G.refl _|refine G.alloc ?_ _|refine G.setCell ?_ (by simp;try omega) _)⟩
theorem rar_cx_3_33(a b a' b':Int)(s s':ByteArray)(rk ra rb:Int)(rs:ByteArray)(c0:Int)(h1:∀w,Calls prog 73 #[.int .i64 a] w fun e w'=>e=.returned (.bool true)∧w'=w)(h2:∀w,Calls prog 73 #[.int .i64 a'] w fun e w'=>e=.returned (.bool true)∧w'=w)(h:∀w,Calls prog 90 #[.int .i64 3,.int .i64 a,.int .i64 b,.int .i64 a',.int .i64 b'] w fun e w'=>e=.returned (.tuple #[V rk ra rb rs,.int .i64 c0])∧G w w')(w:World):Calls prog 47 #[.int .i64 3,V 3 a b s,V 3 a' b' s'] w fun e w'=>e=.returned (.tuple #[V rk ra rb rs,.int .i64 c0])∧G w w':=by
 have H1:Hid _:=h1
 have H2:Hid _:=h2
 have H:Hid _:=h
 clear h1 h2 h
 go_enter func47,ntmps47
 go_wp2_with fail
 refine(H1.out _).mono ?_
 rintro e wx ⟨rfl,rfl⟩
 go_wp2_with fail
 refine(H2.out _).mono ?_
 rintro e wx ⟨rfl,rfl⟩
 go_wp2_with fail
 refine(H.out _).mono ?_
 rintro e w1 ⟨rfl,hb1⟩
 have g1:G w w1:=((((G.refl w).alloc _).alloc _).alloc _).trans hb1
 obtain⟨hc1,hf1⟩:=hb1.rules
 go_wp2
 exact bodyPost_ret (v:=.tuple #[V rk ra rb rs,.int .i64 c0]) (by simp[results,results47,go_sem,hc1]) rfl ⟨rfl,by
  repeat(first|exact g1|refine G.alloc ?_ _|refine G.setCell ?_ (by simp;try omega) _)⟩
theorem rar_ww_4(a b a' b':Int)(s s':ByteArray)(rk ra rb:Int)(rs:ByteArray)(c0:Int)(h:∀w,Calls prog 89 #[.int .i64 4,.int .i64 a,.int .i64 a'] w fun e w'=>e=.returned (.tuple #[V rk ra rb rs,.int .i64 c0])∧G w w')(w:World):Calls prog 47 #[.int .i64 4,V 2 a b s,V 2 a' b' s'] w fun e w'=>e=.returned (.tuple #[V rk ra rb rs,.int .i64 c0])∧G w w':=by
 have H:Hid _:=h
 clear h
 go_enter func47,ntmps47
 go_wp2_with fail
 refine(H.out _).mono ?_
 rintro e w1 ⟨rfl,hb1⟩
 have g1:G w w1:=((((G.refl w).alloc _).alloc _).alloc _).trans hb1
 obtain⟨hc1,hf1⟩:=hb1.rules
 go_wp2
 exact bodyPost_ret (v:=.tuple #[V rk ra rb rs,.int .i64 c0]) (by simp[results,results47,go_sem,hc1]) rfl ⟨rfl,by
  repeat(first|exact g1|refine G.alloc ?_ _|refine G.setCell ?_ (by simp;try omega) _)⟩
theorem rar_cx_4_23(a b a' b':Int)(s s':ByteArray)(rk ra rb:Int)(rs:ByteArray)(c0:Int)(h1:∀w,Calls prog 73 #[.int .i64 a] w fun e w'=>e=.returned (.bool true)∧w'=w)(h2:∀w,Calls prog 73 #[.int .i64 a'] w fun e w'=>e=.returned (.bool true)∧w'=w)(h:∀w,Calls prog 90 #[.int .i64 4,.int .i64 a,.int .i64 b,.int .i64 a',.int .i64 b'] w fun e w'=>e=.returned (.tuple #[V rk ra rb rs,.int .i64 c0])∧G w w')(w:World):Calls prog 47 #[.int .i64 4,V 2 a b s,V 3 a' b' s'] w fun e w'=>e=.returned (.tuple #[V rk ra rb rs,.int .i64 c0])∧G w w':=by
 have H1:Hid _:=h1
 have H2:Hid _:=h2
 have H:Hid _:=h
 clear h1 h2 h
 go_enter func47,ntmps47
 go_wp2_with fail
 refine(H1.out _).mono ?_
 rintro e wx ⟨rfl,rfl⟩
 go_wp2_with fail
 refine(H2.out _).mono ?_
 rintro e wx ⟨rfl,rfl⟩
 go_wp2_with fail
 refine(H.out _).mono ?_
 rintro e w1 ⟨rfl,hb1⟩
 have g1:G w w1:=((((G.refl w).alloc _).alloc _).alloc _).trans hb1
 obtain⟨hc1,hf1⟩:=hb1.rules
 go_wp2
 exact bodyPost_ret (v:=.tuple #[V rk ra rb rs,.int .i64 c0]) (by simp[results,results47,go_sem,hc1]) rfl ⟨rfl,by
  repeat(first|exact g1|refine G.alloc ?_ _|refine G.setCell ?_ (by simp;try omega) _)⟩
theorem rar_r_4_23(a b a' b':Int)(s s':ByteArray)(h1:∀w,Calls prog 73 #[.int .i64 a] w fun e w'=>e=.returned (.bool false)∧w'=w)(w:World):Calls prog 47 #[.int .i64 4,V 2 a b s,V 3 a' b' s'] w fun e w'=>e=.returned (.tuple #[V0,.int .i64 11])∧G w w':=by
 have H1:Hid _:=h1
 clear h1
 go_enter func47,ntmps47
 go_wp2_with fail
 refine(H1.out _).mono ?_
 rintro e wx ⟨rfl,rfl⟩
 go_wp2
 exact bodyPost_ret (v:=.tuple #[V0,.int .i64 11]) (by simp[results,results47,go_sem]) rfl ⟨rfl,by
  repeat(first|exact G.refl _|refine G.alloc ?_ _|refine G.setCell ?_ (by simp;try omega) _)⟩
theorem rar_cx_4_32(a b a' b':Int)(s s':ByteArray)(rk ra rb:Int)(rs:ByteArray)(c0:Int)(h1:∀w,Calls prog 73 #[.int .i64 a] w fun e w'=>e=.returned (.bool true)∧w'=w)(h2:∀w,Calls prog 73 #[.int .i64 a'] w fun e w'=>e=.returned (.bool true)∧w'=w)(h:∀w,Calls prog 90 #[.int .i64 4,.int .i64 a,.int .i64 b,.int .i64 a',.int .i64 b'] w fun e w'=>e=.returned (.tuple #[V rk ra rb rs,.int .i64 c0])∧G w w')(w:World):Calls prog 47 #[.int .i64 4,V 3 a b s,V 2 a' b' s'] w fun e w'=>e=.returned (.tuple #[V rk ra rb rs,.int .i64 c0])∧G w w':=by
 have H1:Hid _:=h1
 have H2:Hid _:=h2
 have H:Hid _:=h
 clear h1 h2 h
 go_enter func47,ntmps47
 go_wp2_with fail
 refine(H1.out _).mono ?_
 rintro e wx ⟨rfl,rfl⟩
 go_wp2_with fail
 refine(H2.out _).mono ?_
 rintro e wx ⟨rfl,rfl⟩
 go_wp2_with fail
 refine(H.out _).mono ?_
 rintro e w1 ⟨rfl,hb1⟩
 have g1:G w w1:=((((G.refl w).alloc _).alloc _).alloc _).trans hb1
 obtain⟨hc1,hf1⟩:=hb1.rules
 go_wp2
 exact bodyPost_ret (v:=.tuple #[V rk ra rb rs,.int .i64 c0]) (by simp[results,results47,go_sem,hc1]) rfl ⟨rfl,by
  repeat(first|exact g1|refine G.alloc ?_ _|refine G.setCell ?_ (by simp;try omega) _)⟩
theorem rar_r_4_32(a b a' b':Int)(s s':ByteArray)(h1:∀w,Calls prog 73 #[.int .i64 a] w fun e w'=>e=.returned (.bool true)∧w'=w)(h2:∀w,Calls prog 73 #[.int .i64 a'] w fun e w'=>e=.returned (.bool false)∧w'=w)(w:World):Calls prog 47 #[.int .i64 4,V 3 a b s,V 2 a' b' s'] w fun e w'=>e=.returned (.tuple #[V0,.int .i64 11])∧G w w':=by
 have H1:Hid _:=h1
 have H2:Hid _:=h2
 clear h1 h2
 go_enter func47,ntmps47
 go_wp2_with fail
 refine(H1.out _).mono ?_
 rintro e wx ⟨rfl,rfl⟩
 go_wp2_with fail
 refine(H2.out _).mono ?_
 rintro e wx ⟨rfl,rfl⟩
 go_wp2
 exact bodyPost_ret (v:=.tuple #[V0,.int .i64 11]) (by simp[results,results47,go_sem]) rfl ⟨rfl,by
  repeat(first|exact G.refl _|refine G.alloc ?_ _|refine G.setCell ?_ (by simp;try omega) _)⟩
theorem rar_cx_4_33(a b a' b':Int)(s s':ByteArray)(rk ra rb:Int)(rs:ByteArray)(c0:Int)(h1:∀w,Calls prog 73 #[.int .i64 a] w fun e w'=>e=.returned (.bool true)∧w'=w)(h2:∀w,Calls prog 73 #[.int .i64 a'] w fun e w'=>e=.returned (.bool true)∧w'=w)(h:∀w,Calls prog 90 #[.int .i64 4,.int .i64 a,.int .i64 b,.int .i64 a',.int .i64 b'] w fun e w'=>e=.returned (.tuple #[V rk ra rb rs,.int .i64 c0])∧G w w')(w:World):Calls prog 47 #[.int .i64 4,V 3 a b s,V 3 a' b' s'] w fun e w'=>e=.returned (.tuple #[V rk ra rb rs,.int .i64 c0])∧G w w':=by
 have H1:Hid _:=h1
 have H2:Hid _:=h2
 have H:Hid _:=h
 clear h1 h2 h
 go_enter func47,ntmps47
 go_wp2_with fail
 refine(H1.out _).mono ?_
 rintro e wx ⟨rfl,rfl⟩
 go_wp2_with fail
 refine(H2.out _).mono ?_
 rintro e wx ⟨rfl,rfl⟩
 go_wp2_with fail
 refine(H.out _).mono ?_
 rintro e w1 ⟨rfl,hb1⟩
 have g1:G w w1:=((((G.refl w).alloc _).alloc _).alloc _).trans hb1
 obtain⟨hc1,hf1⟩:=hb1.rules
 go_wp2
 exact bodyPost_ret (v:=.tuple #[V rk ra rb rs,.int .i64 c0]) (by simp[results,results47,go_sem,hc1]) rfl ⟨rfl,by
  repeat(first|exact g1|refine G.alloc ?_ _|refine G.setCell ?_ (by simp;try omega) _)⟩
theorem rar_ww_5(a b a' b':Int)(s s':ByteArray)(rk ra rb:Int)(rs:ByteArray)(c0:Int)(h:∀w,Calls prog 89 #[.int .i64 5,.int .i64 a,.int .i64 a'] w fun e w'=>e=.returned (.tuple #[V rk ra rb rs,.int .i64 c0])∧G w w')(w:World):Calls prog 47 #[.int .i64 5,V 2 a b s,V 2 a' b' s'] w fun e w'=>e=.returned (.tuple #[V rk ra rb rs,.int .i64 c0])∧G w w':=by
 have H:Hid _:=h
 clear h
 go_enter func47,ntmps47
 go_wp2_with fail
 refine(H.out _).mono ?_
 rintro e w1 ⟨rfl,hb1⟩
 have g1:G w w1:=((((G.refl w).alloc _).alloc _).alloc _).trans hb1
 obtain⟨hc1,hf1⟩:=hb1.rules
 go_wp2
 exact bodyPost_ret (v:=.tuple #[V rk ra rb rs,.int .i64 c0]) (by simp[results,results47,go_sem,hc1]) rfl ⟨rfl,by
  repeat(first|exact g1|refine G.alloc ?_ _|refine G.setCell ?_ (by simp;try omega) _)⟩
theorem rar_cx_5_23(a b a' b':Int)(s s':ByteArray)(rk ra rb:Int)(rs:ByteArray)(c0:Int)(h1:∀w,Calls prog 73 #[.int .i64 a] w fun e w'=>e=.returned (.bool true)∧w'=w)(h2:∀w,Calls prog 73 #[.int .i64 a'] w fun e w'=>e=.returned (.bool true)∧w'=w)(h:∀w,Calls prog 90 #[.int .i64 5,.int .i64 a,.int .i64 b,.int .i64 a',.int .i64 b'] w fun e w'=>e=.returned (.tuple #[V rk ra rb rs,.int .i64 c0])∧G w w')(w:World):Calls prog 47 #[.int .i64 5,V 2 a b s,V 3 a' b' s'] w fun e w'=>e=.returned (.tuple #[V rk ra rb rs,.int .i64 c0])∧G w w':=by
 have H1:Hid _:=h1
 have H2:Hid _:=h2
 have H:Hid _:=h
 clear h1 h2 h
 go_enter func47,ntmps47
 go_wp2_with fail
 refine(H1.out _).mono ?_
 rintro e wx ⟨rfl,rfl⟩
 go_wp2_with fail
 refine(H2.out _).mono ?_
 rintro e wx ⟨rfl,rfl⟩
 go_wp2_with fail
 refine(H.out _).mono ?_
 rintro e w1 ⟨rfl,hb1⟩
 have g1:G w w1:=((((G.refl w).alloc _).alloc _).alloc _).trans hb1
 obtain⟨hc1,hf1⟩:=hb1.rules
 go_wp2
 exact bodyPost_ret (v:=.tuple #[V rk ra rb rs,.int .i64 c0]) (by simp[results,results47,go_sem,hc1]) rfl ⟨rfl,by
  repeat(first|exact g1|refine G.alloc ?_ _|refine G.setCell ?_ (by simp;try omega) _)⟩
theorem rar_r_5_23(a b a' b':Int)(s s':ByteArray)(h1:∀w,Calls prog 73 #[.int .i64 a] w fun e w'=>e=.returned (.bool false)∧w'=w)(w:World):Calls prog 47 #[.int .i64 5,V 2 a b s,V 3 a' b' s'] w fun e w'=>e=.returned (.tuple #[V0,.int .i64 11])∧G w w':=by
 have H1:Hid _:=h1
 clear h1
 go_enter func47,ntmps47
 go_wp2_with fail
 refine(H1.out _).mono ?_
 rintro e wx ⟨rfl,rfl⟩
 go_wp2
 exact bodyPost_ret (v:=.tuple #[V0,.int .i64 11]) (by simp[results,results47,go_sem]) rfl ⟨rfl,by
  repeat(first|exact G.refl _|refine G.alloc ?_ _|refine G.setCell ?_ (by simp;try omega) _)⟩
theorem rar_cx_5_32(a b a' b':Int)(s s':ByteArray)(rk ra rb:Int)(rs:ByteArray)(c0:Int)(h1:∀w,Calls prog 73 #[.int .i64 a] w fun e w'=>e=.returned (.bool true)∧w'=w)(h2:∀w,Calls prog 73 #[.int .i64 a'] w fun e w'=>e=.returned (.bool true)∧w'=w)(h:∀w,Calls prog 90 #[.int .i64 5,.int .i64 a,.int .i64 b,.int .i64 a',.int .i64 b'] w fun e w'=>e=.returned (.tuple #[V rk ra rb rs,.int .i64 c0])∧G w w')(w:World):Calls prog 47 #[.int .i64 5,V 3 a b s,V 2 a' b' s'] w fun e w'=>e=.returned (.tuple #[V rk ra rb rs,.int .i64 c0])∧G w w':=by
 have H1:Hid _:=h1
 have H2:Hid _:=h2
 have H:Hid _:=h
 clear h1 h2 h
 go_enter func47,ntmps47
 go_wp2_with fail
 refine(H1.out _).mono ?_
 rintro e wx ⟨rfl,rfl⟩
 go_wp2_with fail
 refine(H2.out _).mono ?_
 rintro e wx ⟨rfl,rfl⟩
 go_wp2_with fail
 refine(H.out _).mono ?_
 rintro e w1 ⟨rfl,hb1⟩
 have g1:G w w1:=((((G.refl w).alloc _).alloc _).alloc _).trans hb1
 obtain⟨hc1,hf1⟩:=hb1.rules
 go_wp2
 exact bodyPost_ret (v:=.tuple #[V rk ra rb rs,.int .i64 c0]) (by simp[results,results47,go_sem,hc1]) rfl ⟨rfl,by
  repeat(first|exact g1|refine G.alloc ?_ _|refine G.setCell ?_ (by simp;try omega) _)⟩
theorem rar_r_5_32(a b a' b':Int)(s s':ByteArray)(h1:∀w,Calls prog 73 #[.int .i64 a] w fun e w'=>e=.returned (.bool true)∧w'=w)(h2:∀w,Calls prog 73 #[.int .i64 a'] w fun e w'=>e=.returned (.bool false)∧w'=w)(w:World):Calls prog 47 #[.int .i64 5,V 3 a b s,V 2 a' b' s'] w fun e w'=>e=.returned (.tuple #[V0,.int .i64 11])∧G w w':=by
 have H1:Hid _:=h1
 have H2:Hid _:=h2
 clear h1 h2
 go_enter func47,ntmps47
 go_wp2_with fail
 refine(H1.out _).mono ?_
 rintro e wx ⟨rfl,rfl⟩
 go_wp2_with fail
 refine(H2.out _).mono ?_
 rintro e wx ⟨rfl,rfl⟩
 go_wp2
 exact bodyPost_ret (v:=.tuple #[V0,.int .i64 11]) (by simp[results,results47,go_sem]) rfl ⟨rfl,by
  repeat(first|exact G.refl _|refine G.alloc ?_ _|refine G.setCell ?_ (by simp;try omega) _)⟩
theorem rar_cx_5_33(a b a' b':Int)(s s':ByteArray)(rk ra rb:Int)(rs:ByteArray)(c0:Int)(h1:∀w,Calls prog 73 #[.int .i64 a] w fun e w'=>e=.returned (.bool true)∧w'=w)(h2:∀w,Calls prog 73 #[.int .i64 a'] w fun e w'=>e=.returned (.bool true)∧w'=w)(h:∀w,Calls prog 90 #[.int .i64 5,.int .i64 a,.int .i64 b,.int .i64 a',.int .i64 b'] w fun e w'=>e=.returned (.tuple #[V rk ra rb rs,.int .i64 c0])∧G w w')(w:World):Calls prog 47 #[.int .i64 5,V 3 a b s,V 3 a' b' s'] w fun e w'=>e=.returned (.tuple #[V rk ra rb rs,.int .i64 c0])∧G w w':=by
 have H1:Hid _:=h1
 have H2:Hid _:=h2
 have H:Hid _:=h
 clear h1 h2 h
 go_enter func47,ntmps47
 go_wp2_with fail
 refine(H1.out _).mono ?_
 rintro e wx ⟨rfl,rfl⟩
 go_wp2_with fail
 refine(H2.out _).mono ?_
 rintro e wx ⟨rfl,rfl⟩
 go_wp2_with fail
 refine(H.out _).mono ?_
 rintro e w1 ⟨rfl,hb1⟩
 have g1:G w w1:=((((G.refl w).alloc _).alloc _).alloc _).trans hb1
 obtain⟨hc1,hf1⟩:=hb1.rules
 go_wp2
 exact bodyPost_ret (v:=.tuple #[V rk ra rb rs,.int .i64 c0]) (by simp[results,results47,go_sem,hc1]) rfl ⟨rfl,by
  repeat(first|exact g1|refine G.alloc ?_ _|refine G.setCell ?_ (by simp;try omega) _)⟩
end
end Go.Proofs.YthmdjhfbhbheeaaGreatDoor
