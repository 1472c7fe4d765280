import Derived.Test.YthmdjhfbhbheeaaGreatDoorBinE
namespace Go.Proofs.YthmdjhfbhbheeaaGreatDoor
open Go.Proofs.Tryz
set_option maxHeartbeats 1000000
set_option maxRecDepth 100000
section
open Go.RowKit Go.Lib Go.Shelf
theorem zAU(q:Bool)(w:World):CG 36 #[.bool q] w (V 1 (tI q) 0 E0):=by
 cases q
 ·exact zAL w
 ·exact zAx w
theorem zFP(op:Int)(k a b k' a' b':Int)(s s':ByteArray)(h:1<k)(w:World):CG 42 #[.int .i64 op,V k a b s,V k' a' b' s'] w (.tuple #[V0,.int .i64 10]):=by
 go_enter func42,ntmps42
 go_wp2
 exact bodyPost_ret (v:=.tuple #[V0,.int .i64 10]) (by simp[results,results42,go_sem]) rfl ⟨rfl,by
  repeat(first|exact G.refl _|refine G.alloc ?_ _|refine G.setCell ?_ (by simp;try omega) _)⟩
theorem zFO(op:Int)(k a b k' a' b':Int)(s s':ByteArray)(h0:k≤1)(h:1<k')(w:World):CG 42 #[.int .i64 op,V k a b s,V k' a' b' s'] w (.tuple #[V0,.int .i64 10]):=by
 go_enter func42,ntmps42
 go_wp2
 exact bodyPost_ret (v:=.tuple #[V0,.int .i64 10]) (by simp[results,results42,go_sem]) rfl ⟨rfl,by
  repeat(first|exact G.refl _|refine G.alloc ?_ _|refine G.setCell ?_ (by simp;try omega) _)⟩
theorem zKq(w:World):CG 42 #[.int .i64 12,V 1 0 0 E0,V 1 0 0 E0] w (.tuple #[V 1 0 0 E0,.int .i64 0]):=by
 go_enter func42,ntmps42
 go_wp2_with fail
 refine(zAL _).mono ?_;rintro e w1 ⟨rfl,hb1⟩;have g1:G w w1:=((((G.refl w).alloc _).alloc _).alloc _).trans hb1;obtain⟨hc1,hf1⟩:=hb1.rules
 go_wp2
 exact bodyPost_ret (v:=.tuple #[V 1 0 0 E0,.int .i64 0]) (by simp[results,results42,go_sem,hc1]) rfl ⟨rfl,by
  repeat(first|exact g1|refine G.alloc ?_ _|refine G.setCell ?_ (by simp;try omega) _)⟩
theorem zKp(w:World):CG 42 #[.int .i64 12,V 1 0 0 E0,V 1 1 0 E0] w (.tuple #[V 1 0 0 E0,.int .i64 0]):=by
 go_enter func42,ntmps42
 go_wp2_with fail
 refine(zAL _).mono ?_;rintro e w1 ⟨rfl,hb1⟩;have g1:G w w1:=((((G.refl w).alloc _).alloc _).alloc _).trans hb1;obtain⟨hc1,hf1⟩:=hb1.rules
 go_wp2
 exact bodyPost_ret (v:=.tuple #[V 1 0 0 E0,.int .i64 0]) (by simp[results,results42,go_sem,hc1]) rfl ⟨rfl,by
  repeat(first|exact g1|refine G.alloc ?_ _|refine G.setCell ?_ (by simp;try omega) _)⟩
theorem zKo(w:World):CG 42 #[.int .i64 12,V 1 0 0 E0,V 0 0 0 E0] w (.tuple #[V 1 0 0 E0,.int .i64 0]):=by
 go_enter func42,ntmps42
 go_wp2_with fail
 refine(zAL _).mono ?_;rintro e w1 ⟨rfl,hb1⟩;have g1:G w w1:=((((G.refl w).alloc _).alloc _).alloc _).trans hb1;obtain⟨hc1,hf1⟩:=hb1.rules
 go_wp2
 exact bodyPost_ret (v:=.tuple #[V 1 0 0 E0,.int .i64 0]) (by simp[results,results42,go_sem,hc1]) rfl ⟨rfl,by
  repeat(first|exact g1|refine G.alloc ?_ _|refine G.setCell ?_ (by simp;try omega) _)⟩
theorem zKn(w:World):CG 42 #[.int .i64 12,V 1 1 0 E0,V 1 0 0 E0] w (.tuple #[V 1 0 0 E0,.int .i64 0]):=by
 go_enter func42,ntmps42
 go_wp2_with fail
 refine(zAL _).mono ?_;rintro e w1 ⟨rfl,hb1⟩;have g1:G w w1:=((((G.refl w).alloc _).alloc _).alloc _).trans hb1;obtain⟨hc1,hf1⟩:=hb1.rules
 go_wp2
 exact bodyPost_ret (v:=.tuple #[V 1 0 0 E0,.int .i64 0]) (by simp[results,results42,go_sem,hc1]) rfl ⟨rfl,by
  repeat(first|exact g1|refine G.alloc ?_ _|refine G.setCell ?_ (by simp;try omega) _)⟩
theorem zKm(w:World):CG 42 #[.int .i64 12,V 1 1 0 E0,V 1 1 0 E0] w (.tuple #[V 1 1 0 E0,.int .i64 0]):=by
 go_enter func42,ntmps42
 go_wp2_with fail
 refine(zAx _).mono ?_;rintro e w1 ⟨rfl,hb1⟩;have g1:G w w1:=((((G.refl w).alloc _).alloc _).alloc _).trans hb1;obtain⟨hc1,hf1⟩:=hb1.rules
 go_wp2
 exact bodyPost_ret (v:=.tuple #[V 1 1 0 E0,.int .i64 0]) (by simp[results,results42,go_sem,hc1]) rfl ⟨rfl,by
  repeat(first|exact g1|refine G.alloc ?_ _|refine G.setCell ?_ (by simp;try omega) _)⟩
theorem zKl(w:World):CG 42 #[.int .i64 12,V 1 1 0 E0,V 0 0 0 E0] w (.tuple #[V 0 0 0 E0,.int .i64 0]):=by
 go_enter func42,ntmps42
 go_wp2
 exact bodyPost_ret (v:=.tuple #[V 0 0 0 E0,.int .i64 0]) (by simp[results,results42,go_sem]) rfl ⟨rfl,by
  repeat(first|exact G.refl _|refine G.alloc ?_ _|refine G.setCell ?_ (by simp;try omega) _)⟩
theorem zKk(w:World):CG 42 #[.int .i64 12,V 0 0 0 E0,V 1 0 0 E0] w (.tuple #[V 1 0 0 E0,.int .i64 0]):=by
 go_enter func42,ntmps42
 go_wp2_with fail
 refine(zAL _).mono ?_;rintro e w1 ⟨rfl,hb1⟩;have g1:G w w1:=((((G.refl w).alloc _).alloc _).alloc _).trans hb1;obtain⟨hc1,hf1⟩:=hb1.rules
 go_wp2
 exact bodyPost_ret (v:=.tuple #[V 1 0 0 E0,.int .i64 0]) (by simp[results,results42,go_sem,hc1]) rfl ⟨rfl,by
  repeat(first|exact g1|refine G.alloc ?_ _|refine G.setCell ?_ (by simp;try omega) _)⟩
theorem zKj(w:World):CG 42 #[.int .i64 12,V 0 0 0 E0,V 1 1 0 E0] w (.tuple #[V 0 0 0 E0,.int .i64 0]):=by
 go_enter func42,ntmps42
 go_wp2
 exact bodyPost_ret (v:=.tuple #[V 0 0 0 E0,.int .i64 0]) (by simp[results,results42,go_sem]) rfl ⟨rfl,by
  repeat(first|exact G.refl _|refine G.alloc ?_ _|refine G.setCell ?_ (by simp;try omega) _)⟩
theorem zKi(w:World):CG 42 #[.int .i64 12,V 0 0 0 E0,V 0 0 0 E0] w (.tuple #[V 0 0 0 E0,.int .i64 0]):=by
 go_enter func42,ntmps42
 go_wp2
 exact bodyPost_ret (v:=.tuple #[V 0 0 0 E0,.int .i64 0]) (by simp[results,results42,go_sem]) rfl ⟨rfl,by
  repeat(first|exact G.refl _|refine G.alloc ?_ _|refine G.setCell ?_ (by simp;try omega) _)⟩
theorem zKh(w:World):CG 42 #[.int .i64 13,V 1 0 0 E0,V 1 0 0 E0] w (.tuple #[V 1 0 0 E0,.int .i64 0]):=by
 go_enter func42,ntmps42
 go_wp2_with fail
 refine(zAL _).mono ?_;rintro e w1 ⟨rfl,hb1⟩;have g1:G w w1:=((((G.refl w).alloc _).alloc _).alloc _).trans hb1;obtain⟨hc1,hf1⟩:=hb1.rules
 go_wp2
 exact bodyPost_ret (v:=.tuple #[V 1 0 0 E0,.int .i64 0]) (by simp[results,results42,go_sem,hc1]) rfl ⟨rfl,by
  repeat(first|exact g1|refine G.alloc ?_ _|refine G.setCell ?_ (by simp;try omega) _)⟩
theorem zKg(w:World):CG 42 #[.int .i64 13,V 1 0 0 E0,V 1 1 0 E0] w (.tuple #[V 1 1 0 E0,.int .i64 0]):=by
 go_enter func42,ntmps42
 go_wp2_with fail
 refine(zAx _).mono ?_;rintro e w1 ⟨rfl,hb1⟩;have g1:G w w1:=((((G.refl w).alloc _).alloc _).alloc _).trans hb1;obtain⟨hc1,hf1⟩:=hb1.rules
 go_wp2
 exact bodyPost_ret (v:=.tuple #[V 1 1 0 E0,.int .i64 0]) (by simp[results,results42,go_sem,hc1]) rfl ⟨rfl,by
  repeat(first|exact g1|refine G.alloc ?_ _|refine G.setCell ?_ (by simp;try omega) _)⟩
theorem zKf(w:World):CG 42 #[.int .i64 13,V 1 0 0 E0,V 0 0 0 E0] w (.tuple #[V 0 0 0 E0,.int .i64 0]):=by
 go_enter func42,ntmps42
 go_wp2
 exact bodyPost_ret (v:=.tuple #[V 0 0 0 E0,.int .i64 0]) (by simp[results,results42,go_sem]) rfl ⟨rfl,by
  repeat(first|exact G.refl _|refine G.alloc ?_ _|refine G.setCell ?_ (by simp;try omega) _)⟩
theorem zKe(w:World):CG 42 #[.int .i64 13,V 1 1 0 E0,V 1 0 0 E0] w (.tuple #[V 1 1 0 E0,.int .i64 0]):=by
 go_enter func42,ntmps42
 go_wp2_with fail
 refine(zAx _).mono ?_;rintro e w1 ⟨rfl,hb1⟩;have g1:G w w1:=((((G.refl w).alloc _).alloc _).alloc _).trans hb1;obtain⟨hc1,hf1⟩:=hb1.rules
 go_wp2
 exact bodyPost_ret (v:=.tuple #[V 1 1 0 E0,.int .i64 0]) (by simp[results,results42,go_sem,hc1]) rfl ⟨rfl,by
  repeat(first|exact g1|refine G.alloc ?_ _|refine G.setCell ?_ (by simp;try omega) _)⟩
theorem zKd(w:World):CG 42 #[.int .i64 13,V 1 1 0 E0,V 1 1 0 E0] w (.tuple #[V 1 1 0 E0,.int .i64 0]):=by
 go_enter func42,ntmps42
 go_wp2_with fail
 refine(zAx _).mono ?_;rintro e w1 ⟨rfl,hb1⟩;have g1:G w w1:=((((G.refl w).alloc _).alloc _).alloc _).trans hb1;obtain⟨hc1,hf1⟩:=hb1.rules
 go_wp2
 exact bodyPost_ret (v:=.tuple #[V 1 1 0 E0,.int .i64 0]) (by simp[results,results42,go_sem,hc1]) rfl ⟨rfl,by
  repeat(first|exact g1|refine G.alloc ?_ _|refine G.setCell ?_ (by simp;try omega) _)⟩
theorem zKc(w:World):CG 42 #[.int .i64 13,V 1 1 0 E0,V 0 0 0 E0] w (.tuple #[V 1 1 0 E0,.int .i64 0]):=by
 go_enter func42,ntmps42
 go_wp2_with fail
 refine(zAx _).mono ?_;rintro e w1 ⟨rfl,hb1⟩;have g1:G w w1:=((((G.refl w).alloc _).alloc _).alloc _).trans hb1;obtain⟨hc1,hf1⟩:=hb1.rules
 go_wp2
 exact bodyPost_ret (v:=.tuple #[V 1 1 0 E0,.int .i64 0]) (by simp[results,results42,go_sem,hc1]) rfl ⟨rfl,by
  repeat(first|exact g1|refine G.alloc ?_ _|refine G.setCell ?_ (by simp;try omega) _)⟩
theorem zKb(w:World):CG 42 #[.int .i64 13,V 0 0 0 E0,V 1 0 0 E0] w (.tuple #[V 0 0 0 E0,.int .i64 0]):=by
 go_enter func42,ntmps42
 go_wp2
 exact bodyPost_ret (v:=.tuple #[V 0 0 0 E0,.int .i64 0]) (by simp[results,results42,go_sem]) rfl ⟨rfl,by
  repeat(first|exact G.refl _|refine G.alloc ?_ _|refine G.setCell ?_ (by simp;try omega) _)⟩
theorem zKa(w:World):CG 42 #[.int .i64 13,V 0 0 0 E0,V 1 1 0 E0] w (.tuple #[V 1 1 0 E0,.int .i64 0]):=by
 go_enter func42,ntmps42
 go_wp2_with fail
 refine(zAx _).mono ?_;rintro e w1 ⟨rfl,hb1⟩;have g1:G w w1:=((((G.refl w).alloc _).alloc _).alloc _).trans hb1;obtain⟨hc1,hf1⟩:=hb1.rules
 go_wp2
 exact bodyPost_ret (v:=.tuple #[V 1 1 0 E0,.int .i64 0]) (by simp[results,results42,go_sem,hc1]) rfl ⟨rfl,by
  repeat(first|exact g1|refine G.alloc ?_ _|refine G.setCell ?_ (by simp;try omega) _)⟩
theorem zJ9(w:World):CG 42 #[.int .i64 13,V 0 0 0 E0,V 0 0 0 E0] w (.tuple #[V 0 0 0 E0,.int .i64 0]):=by
 go_enter func42,ntmps42
 go_wp2
 exact bodyPost_ret (v:=.tuple #[V 0 0 0 E0,.int .i64 0]) (by simp[results,results42,go_sem]) rfl ⟨rfl,by
  repeat(first|exact G.refl _|refine G.alloc ?_ _|refine G.setCell ?_ (by simp;try omega) _)⟩
theorem zJ8(w:World):CG 42 #[.int .i64 14,V 1 0 0 E0,V 1 0 0 E0] w (.tuple #[V 1 0 0 E0,.int .i64 0]):=by
 go_enter func42,ntmps42
 go_wp2_with fail
 refine(zAL _).mono ?_;rintro e w1 ⟨rfl,hb1⟩;have g1:G w w1:=((((G.refl w).alloc _).alloc _).alloc _).trans hb1;obtain⟨hc1,hf1⟩:=hb1.rules
 go_wp2
 exact bodyPost_ret (v:=.tuple #[V 1 0 0 E0,.int .i64 0]) (by simp[results,results42,go_sem,hc1]) rfl ⟨rfl,by
  repeat(first|exact g1|refine G.alloc ?_ _|refine G.setCell ?_ (by simp;try omega) _)⟩
theorem zJ7(w:World):CG 42 #[.int .i64 14,V 1 0 0 E0,V 1 1 0 E0] w (.tuple #[V 1 1 0 E0,.int .i64 0]):=by
 go_enter func42,ntmps42
 go_wp2_with fail
 refine(zAx _).mono ?_;rintro e w1 ⟨rfl,hb1⟩;have g1:G w w1:=((((G.refl w).alloc _).alloc _).alloc _).trans hb1;obtain⟨hc1,hf1⟩:=hb1.rules
 go_wp2
 exact bodyPost_ret (v:=.tuple #[V 1 1 0 E0,.int .i64 0]) (by simp[results,results42,go_sem,hc1]) rfl ⟨rfl,by
  repeat(first|exact g1|refine G.alloc ?_ _|refine G.setCell ?_ (by simp;try omega) _)⟩
theorem zJ6(w:World):CG 42 #[.int .i64 14,V 1 0 0 E0,V 0 0 0 E0] w (.tuple #[V 0 0 0 E0,.int .i64 0]):=by
 go_enter func42,ntmps42
 go_wp2
 exact bodyPost_ret (v:=.tuple #[V 0 0 0 E0,.int .i64 0]) (by simp[results,results42,go_sem]) rfl ⟨rfl,by
  repeat(first|exact G.refl _|refine G.alloc ?_ _|refine G.setCell ?_ (by simp;try omega) _)⟩
theorem zJ5(w:World):CG 42 #[.int .i64 14,V 1 1 0 E0,V 1 0 0 E0] w (.tuple #[V 1 1 0 E0,.int .i64 0]):=by
 go_enter func42,ntmps42
 go_wp2_with fail
 refine(zAx _).mono ?_;rintro e w1 ⟨rfl,hb1⟩;have g1:G w w1:=((((G.refl w).alloc _).alloc _).alloc _).trans hb1;obtain⟨hc1,hf1⟩:=hb1.rules
 go_wp2
 exact bodyPost_ret (v:=.tuple #[V 1 1 0 E0,.int .i64 0]) (by simp[results,results42,go_sem,hc1]) rfl ⟨rfl,by
  repeat(first|exact g1|refine G.alloc ?_ _|refine G.setCell ?_ (by simp;try omega) _)⟩
theorem zJ4(w:World):CG 42 #[.int .i64 14,V 1 1 0 E0,V 1 1 0 E0] w (.tuple #[V 1 0 0 E0,.int .i64 0]):=by
 go_enter func42,ntmps42
 go_wp2_with fail
 refine(zAL _).mono ?_;rintro e w1 ⟨rfl,hb1⟩;have g1:G w w1:=((((G.refl w).alloc _).alloc _).alloc _).trans hb1;obtain⟨hc1,hf1⟩:=hb1.rules
 go_wp2
 exact bodyPost_ret (v:=.tuple #[V 1 0 0 E0,.int .i64 0]) (by simp[results,results42,go_sem,hc1]) rfl ⟨rfl,by
  repeat(first|exact g1|refine G.alloc ?_ _|refine G.setCell ?_ (by simp;try omega) _)⟩
theorem zJ3(w:World):CG 42 #[.int .i64 14,V 1 1 0 E0,V 0 0 0 E0] w (.tuple #[V 0 0 0 E0,.int .i64 0]):=by
 go_enter func42,ntmps42
 go_wp2
 exact bodyPost_ret (v:=.tuple #[V 0 0 0 E0,.int .i64 0]) (by simp[results,results42,go_sem]) rfl ⟨rfl,by
  repeat(first|exact G.refl _|refine G.alloc ?_ _|refine G.setCell ?_ (by simp;try omega) _)⟩
theorem zJ2(w:World):CG 42 #[.int .i64 14,V 0 0 0 E0,V 1 0 0 E0] w (.tuple #[V 0 0 0 E0,.int .i64 0]):=by
 go_enter func42,ntmps42
 go_wp2
 exact bodyPost_ret (v:=.tuple #[V 0 0 0 E0,.int .i64 0]) (by simp[results,results42,go_sem]) rfl ⟨rfl,by
  repeat(first|exact G.refl _|refine G.alloc ?_ _|refine G.setCell ?_ (by simp;try omega) _)⟩
theorem zJ1(w:World):CG 42 #[.int .i64 14,V 0 0 0 E0,V 1 1 0 E0] w (.tuple #[V 0 0 0 E0,.int .i64 0]):=by
 go_enter func42,ntmps42
 go_wp2
 exact bodyPost_ret (v:=.tuple #[V 0 0 0 E0,.int .i64 0]) (by simp[results,results42,go_sem]) rfl ⟨rfl,by
  repeat(first|exact G.refl _|refine G.alloc ?_ _|refine G.setCell ?_ (by simp;try omega) _)⟩
theorem zJ0(w:World):CG 42 #[.int .i64 14,V 0 0 0 E0,V 0 0 0 E0] w (.tuple #[V 0 0 0 E0,.int .i64 0]):=by
 go_enter func42,ntmps42
 go_wp2
 exact bodyPost_ret (v:=.tuple #[V 0 0 0 E0,.int .i64 0]) (by simp[results,results42,go_sem]) rfl ⟨rfl,by
  repeat(first|exact G.refl _|refine G.alloc ?_ _|refine G.setCell ?_ (by simp;try omega) _)⟩
theorem zHz(k a b k' a' b':Int)(s s':ByteArray)(hk:k=k')(w:World):CG 43 #[V k a b s,V k' a' b' s'] w (Value.bool ((a==a')&&(b==b')&&(s.toList==s'.toList))):=by
 subst hk
 by_cases ha:a=a'
 ·subst ha
  by_cases hb:b=b'
  ·subst hb
   generalize hq:(a==a&&b==b&&s.toList==s'.toList)=q
   have hq':(s.toList==s'.toList)=q:=by rw[←hq];simp
   clear hq
   go_enter func43,ntmps43
   go_wp2
   go_ret;exact⟨rfl,((G.refl _).alloc _).alloc _⟩
  ·have hb':(b==b')=false:=by simpa using hb
   rw[hb',Bool.and_false,Bool.false_and];clear hb
   go_enter func43,ntmps43
   go_wp2
   go_ret;exact⟨rfl,((G.refl _).alloc _).alloc _⟩
 ·have ha':(a==a')=false:=by simpa using ha
  rw[ha',Bool.false_and,Bool.false_and];clear ha
  go_enter func43,ntmps43
  go_wp2
  go_ret;exact⟨rfl,((G.refl _).alloc _).alloc _⟩
theorem zLY(a b a' b':Int)(s s':ByteArray)(w:World):CG 43 #[V 2 a b s,V 3 a' b' s'] w (Value.bool ((a==a')&&(b==0)&&(b'==0))):=by
 by_cases ha:a=a'
 ·subst ha
  by_cases hb:b=0
  ·subst hb
   generalize hq:(a==a&&(0:Int)==0&&b'==0)=q
   have hq':(b'==0)=q:=by rw[←hq];simp
   clear hq
   go_enter func43,ntmps43
   go_wp2
   go_ret;exact⟨rfl,((G.refl _).alloc _).alloc _⟩
  ·have hb':(b==0)=false:=by simpa using hb
   rw[hb',Bool.and_false,Bool.false_and];clear hb
   go_enter func43,ntmps43
   go_wp2
   go_ret;exact⟨rfl,((G.refl _).alloc _).alloc _⟩
 ·have ha':(a==a')=false:=by simpa using ha
  rw[ha',Bool.false_and,Bool.false_and];clear ha
  go_enter func43,ntmps43
  go_wp2
  go_ret;exact⟨rfl,((G.refl _).alloc _).alloc _⟩
theorem zL2(a b a' b':Int)(s s':ByteArray)(w:World):CG 43 #[V 3 a b s,V 2 a' b' s'] w (Value.bool ((a==a')&&(b==0)&&(b'==0))):=by
 by_cases ha:a=a'
 ·subst ha
  by_cases hb:b=0
  ·subst hb
   generalize hq:(a==a&&(0:Int)==0&&b'==0)=q
   have hq':(b'==0)=q:=by rw[←hq];simp
   clear hq
   go_enter func43,ntmps43
   go_wp2
   go_ret;exact⟨rfl,((G.refl _).alloc _).alloc _⟩
  ·have hb':(b==0)=false:=by simpa using hb
   rw[hb',Bool.and_false,Bool.false_and];clear hb
   go_enter func43,ntmps43
   go_wp2
   go_ret;exact⟨rfl,((G.refl _).alloc _).alloc _⟩
 ·have ha':(a==a')=false:=by simpa using ha
  rw[ha',Bool.false_and,Bool.false_and];clear ha
  go_enter func43,ntmps43
  go_wp2
  go_ret;exact⟨rfl,((G.refl _).alloc _).alloc _⟩
theorem zL1(k a b k' a' b':Int)(s s':ByteArray)(hk:(k==k')=false)(h2:(k==2)=false)(h3:(k==3)=false)(w:World):CG 43 #[V k a b s,V k' a' b' s'] w (Value.bool false):=by
 go_enter func43,ntmps43
 go_wp2
 go_ret;exact⟨rfl,((G.refl _).alloc _).alloc _⟩
theorem zL0(k a b k' a' b':Int)(s s':ByteArray)(hk:(k==k')=false)(h2:k=2)(h3:(k'==3)=false)(w:World):CG 43 #[V k a b s,V k' a' b' s'] w (Value.bool false):=by
 subst h2
 go_enter func43,ntmps43
 go_wp2
 go_ret;exact⟨rfl,((G.refl _).alloc _).alloc _⟩
theorem zLZ(k a b k' a' b':Int)(s s':ByteArray)(hk:(k==k')=false)(h2:k=3)(h3:(k'==2)=false)(w:World):CG 43 #[V k a b s,V k' a' b' s'] w (Value.bool false):=by
 subst h2
 go_enter func43,ntmps43
 go_wp2
 go_ret;exact⟨rfl,((G.refl _).alloc _).alloc _⟩
theorem zOL(c:Int)(a b a' b':Int)(s s':ByteArray)(h:∀w,Calls prog 50 #[.int .i64 a,.int .i64 a'] w fun e w'=>e=.returned (.int .i64 c)∧w'=w)(w:World):Calls prog 44 #[.int .i64 8,V 1 a b s,V 1 a' b' s'] w fun e w'=>e=.returned (.tuple #[V 1 (tI (decide (c<0))) 0 E0,.int .i64 0])∧G w w':=by
 have H:Hid _:=h;clear h
 go_enter func44,ntmps44
 go_wp2_with fail
 refine(H.out _).mono ?_;rintro e wx ⟨rfl,rfl⟩
 go_wp2_with fail
 refine(zAU _ _).mono ?_;rintro e w1 ⟨rfl,hb1⟩;have g1:G w w1:=((((G.refl w).alloc _).alloc _).alloc _).trans hb1;obtain⟨hc1,hf1⟩:=hb1.rules
 go_wp2
 exact bodyPost_ret (v:=.tuple #[V 1 (tI (decide (c<0))) 0 E0,.int .i64 0]) (by simp[results,results44,go_sem,hc1]) rfl ⟨rfl,by
  repeat(first|exact g1|refine G.alloc ?_ _|refine G.setCell ?_ (by simp;try omega) _)⟩
theorem zOK(c:Int)(a b a' b':Int)(s s':ByteArray)(h:∀w,Calls prog 50 #[.int .i64 a,.int .i64 a'] w fun e w'=>e=.returned (.int .i64 c)∧w'=w)(w:World):Calls prog 44 #[.int .i64 8,V 2 a b s,V 2 a' b' s'] w fun e w'=>e=.returned (.tuple #[V 1 (tI (decide (c<0))) 0 E0,.int .i64 0])∧G w w':=by
 have H:Hid _:=h;clear h
 go_enter func44,ntmps44
 go_wp2_with fail
 refine(H.out _).mono ?_;rintro e wx ⟨rfl,rfl⟩
 go_wp2_with fail
 refine(zAU _ _).mono ?_;rintro e w1 ⟨rfl,hb1⟩;have g1:G w w1:=((((G.refl w).alloc _).alloc _).alloc _).trans hb1;obtain⟨hc1,hf1⟩:=hb1.rules
 go_wp2
 exact bodyPost_ret (v:=.tuple #[V 1 (tI (decide (c<0))) 0 E0,.int .i64 0]) (by simp[results,results44,go_sem,hc1]) rfl ⟨rfl,by
  repeat(first|exact g1|refine G.alloc ?_ _|refine G.setCell ?_ (by simp;try omega) _)⟩
theorem zOJ(c:Int)(a b a' b':Int)(s s':ByteArray)(h:∀w,CG 52 #[.string s,.string s'] w (.int .i64 c))(w:World):Calls prog 44 #[.int .i64 8,V 4 a b s,V 4 a' b' s'] w fun e w'=>e=.returned (.tuple #[V 1 (tI (decide (c<0))) 0 E0,.int .i64 0])∧G w w':=by
 have H:Hid _:=h;clear h
 go_enter func44,ntmps44
 go_wp2_with fail
 refine(H.out _).mono ?_;rintro e w1 ⟨rfl,hb1⟩;have g1:G w w1:=((((G.refl w).alloc _).alloc _).alloc _).trans hb1;obtain⟨hc1,hf1⟩:=hb1.rules
 have hz1:w.heap.size+2<w1.heap.size:=by have:=hb1.size;simp at this;omega
 have hz1a:w.heap.size<w1.heap.size:=by omega
 have hz1b:w.heap.size+1<w1.heap.size:=by omega
 go_wp2_with fail
 refine(zAU _ _).mono ?_;rintro e w2 ⟨rfl,hb2⟩;have g2:G w w2:=g1.trans hb2;obtain⟨hc2,hf2⟩:=hb2.rules
 go_wp2
 exact bodyPost_ret (v:=.tuple #[V 1 (tI (decide (c<0))) 0 E0,.int .i64 0]) (by simp[results,results44,go_sem,hc1,hc2,hz1]) rfl ⟨rfl,by
  repeat(first|exact g2|refine G.alloc ?_ _|refine G.setCell ?_ (by simp;try omega) _)⟩
theorem zOI(c:Int)(a b a' b':Int)(s s':ByteArray)(h:∀w,Calls prog 50 #[.int .i64 a,.int .i64 a'] w fun e w'=>e=.returned (.int .i64 c)∧w'=w)(w:World):Calls prog 44 #[.int .i64 9,V 1 a b s,V 1 a' b' s'] w fun e w'=>e=.returned (.tuple #[V 1 (tI (decide (c≤0))) 0 E0,.int .i64 0])∧G w w':=by
 have H:Hid _:=h;clear h
 go_enter func44,ntmps44
 go_wp2_with fail
 refine(H.out _).mono ?_;rintro e wx ⟨rfl,rfl⟩
 go_wp2_with fail
 refine(zAU _ _).mono ?_;rintro e w1 ⟨rfl,hb1⟩;have g1:G w w1:=((((G.refl w).alloc _).alloc _).alloc _).trans hb1;obtain⟨hc1,hf1⟩:=hb1.rules
 go_wp2
 exact bodyPost_ret (v:=.tuple #[V 1 (tI (decide (c≤0))) 0 E0,.int .i64 0]) (by simp[results,results44,go_sem,hc1]) rfl ⟨rfl,by
  repeat(first|exact g1|refine G.alloc ?_ _|refine G.setCell ?_ (by simp;try omega) _)⟩
theorem zOH(c:Int)(a b a' b':Int)(s s':ByteArray)(h:∀w,Calls prog 50 #[.int .i64 a,.int .i64 a'] w fun e w'=>e=.returned (.int .i64 c)∧w'=w)(w:World):Calls prog 44 #[.int .i64 9,V 2 a b s,V 2 a' b' s'] w fun e w'=>e=.returned (.tuple #[V 1 (tI (decide (c≤0))) 0 E0,.int .i64 0])∧G w w':=by
 have H:Hid _:=h;clear h
 go_enter func44,ntmps44
 go_wp2_with fail
 refine(H.out _).mono ?_;rintro e wx ⟨rfl,rfl⟩
 go_wp2_with fail
 refine(zAU _ _).mono ?_;rintro e w1 ⟨rfl,hb1⟩;have g1:G w w1:=((((G.refl w).alloc _).alloc _).alloc _).trans hb1;obtain⟨hc1,hf1⟩:=hb1.rules
 go_wp2
 exact bodyPost_ret (v:=.tuple #[V 1 (tI (decide (c≤0))) 0 E0,.int .i64 0]) (by simp[results,results44,go_sem,hc1]) rfl ⟨rfl,by
  repeat(first|exact g1|refine G.alloc ?_ _|refine G.setCell ?_ (by simp;try omega) _)⟩
theorem zOG(c:Int)(a b a' b':Int)(s s':ByteArray)(h:∀w,CG 52 #[.string s,.string s'] w (.int .i64 c))(w:World):Calls prog 44 #[.int .i64 9,V 4 a b s,V 4 a' b' s'] w fun e w'=>e=.returned (.tuple #[V 1 (tI (decide (c≤0))) 0 E0,.int .i64 0])∧G w w':=by
 have H:Hid _:=h;clear h
 go_enter func44,ntmps44
 go_wp2_with fail
 refine(H.out _).mono ?_;rintro e w1 ⟨rfl,hb1⟩;have g1:G w w1:=((((G.refl w).alloc _).alloc _).alloc _).trans hb1;obtain⟨hc1,hf1⟩:=hb1.rules
 have hz1:w.heap.size+2<w1.heap.size:=by have:=hb1.size;simp at this;omega
 have hz1a:w.heap.size<w1.heap.size:=by omega
 have hz1b:w.heap.size+1<w1.heap.size:=by omega
 go_wp2_with fail
 refine(zAU _ _).mono ?_;rintro e w2 ⟨rfl,hb2⟩;have g2:G w w2:=g1.trans hb2;obtain⟨hc2,hf2⟩:=hb2.rules
 go_wp2
 exact bodyPost_ret (v:=.tuple #[V 1 (tI (decide (c≤0))) 0 E0,.int .i64 0]) (by simp[results,results44,go_sem,hc1,hc2,hz1]) rfl ⟨rfl,by
  repeat(first|exact g2|refine G.alloc ?_ _|refine G.setCell ?_ (by simp;try omega) _)⟩
theorem zLM(c:Int)(a b a' b':Int)(s s':ByteArray)(h:∀w,Calls prog 50 #[.int .i64 a,.int .i64 a'] w fun e w'=>e=.returned (.int .i64 c)∧w'=w)(w:World):Calls prog 44 #[.int .i64 10,V 1 a b s,V 1 a' b' s'] w fun e w'=>e=.returned (.tuple #[V 1 (tI (decide (0<c))) 0 E0,.int .i64 0])∧G w w':=by
 have H:Hid _:=h;clear h
 go_enter func44,ntmps44
 go_wp2_with fail
 refine(H.out _).mono ?_;rintro e wx ⟨rfl,rfl⟩
 go_wp2_with fail
 refine(zAU _ _).mono ?_;rintro e w1 ⟨rfl,hb1⟩;have g1:G w w1:=((((G.refl w).alloc _).alloc _).alloc _).trans hb1;obtain⟨hc1,hf1⟩:=hb1.rules
 go_wp2
 exact bodyPost_ret (v:=.tuple #[V 1 (tI (decide (0<c))) 0 E0,.int .i64 0]) (by simp[results,results44,go_sem,hc1]) rfl ⟨rfl,by
  repeat(first|exact g1|refine G.alloc ?_ _|refine G.setCell ?_ (by simp;try omega) _)⟩
theorem zLL(c:Int)(a b a' b':Int)(s s':ByteArray)(h:∀w,Calls prog 50 #[.int .i64 a,.int .i64 a'] w fun e w'=>e=.returned (.int .i64 c)∧w'=w)(w:World):Calls prog 44 #[.int .i64 10,V 2 a b s,V 2 a' b' s'] w fun e w'=>e=.returned (.tuple #[V 1 (tI (decide (0<c))) 0 E0,.int .i64 0])∧G w w':=by
 have H:Hid _:=h;clear h
 go_enter func44,ntmps44
 go_wp2_with fail
 refine(H.out _).mono ?_;rintro e wx ⟨rfl,rfl⟩
 go_wp2_with fail
 refine(zAU _ _).mono ?_;rintro e w1 ⟨rfl,hb1⟩;have g1:G w w1:=((((G.refl w).alloc _).alloc _).alloc _).trans hb1;obtain⟨hc1,hf1⟩:=hb1.rules
 go_wp2
 exact bodyPost_ret (v:=.tuple #[V 1 (tI (decide (0<c))) 0 E0,.int .i64 0]) (by simp[results,results44,go_sem,hc1]) rfl ⟨rfl,by
  repeat(first|exact g1|refine G.alloc ?_ _|refine G.setCell ?_ (by simp;try omega) _)⟩
theorem zLK(c:Int)(a b a' b':Int)(s s':ByteArray)(h:∀w,CG 52 #[.string s,.string s'] w (.int .i64 c))(w:World):Calls prog 44 #[.int .i64 10,V 4 a b s,V 4 a' b' s'] w fun e w'=>e=.returned (.tuple #[V 1 (tI (decide (0<c))) 0 E0,.int .i64 0])∧G w w':=by
 have H:Hid _:=h;clear h
 go_enter func44,ntmps44
 go_wp2_with fail
 refine(H.out _).mono ?_;rintro e w1 ⟨rfl,hb1⟩;have g1:G w w1:=((((G.refl w).alloc _).alloc _).alloc _).trans hb1;obtain⟨hc1,hf1⟩:=hb1.rules
 have hz1:w.heap.size+2<w1.heap.size:=by have:=hb1.size;simp at this;omega
 have hz1a:w.heap.size<w1.heap.size:=by omega
 have hz1b:w.heap.size+1<w1.heap.size:=by omega
 go_wp2_with fail
 refine(zAU _ _).mono ?_;rintro e w2 ⟨rfl,hb2⟩;have g2:G w w2:=g1.trans hb2;obtain⟨hc2,hf2⟩:=hb2.rules
 go_wp2
 exact bodyPost_ret (v:=.tuple #[V 1 (tI (decide (0<c))) 0 E0,.int .i64 0]) (by simp[results,results44,go_sem,hc1,hc2,hz1]) rfl ⟨rfl,by
  repeat(first|exact g2|refine G.alloc ?_ _|refine G.setCell ?_ (by simp;try omega) _)⟩
theorem zLJ(c:Int)(a b a' b':Int)(s s':ByteArray)(h:∀w,Calls prog 50 #[.int .i64 a,.int .i64 a'] w fun e w'=>e=.returned (.int .i64 c)∧w'=w)(w:World):Calls prog 44 #[.int .i64 11,V 1 a b s,V 1 a' b' s'] w fun e w'=>e=.returned (.tuple #[V 1 (tI (decide (0≤c))) 0 E0,.int .i64 0])∧G w w':=by
 have H:Hid _:=h;clear h
 go_enter func44,ntmps44
 go_wp2_with fail
 refine(H.out _).mono ?_;rintro e wx ⟨rfl,rfl⟩
 go_wp2_with fail
 refine(zAU _ _).mono ?_;rintro e w1 ⟨rfl,hb1⟩;have g1:G w w1:=((((G.refl w).alloc _).alloc _).alloc _).trans hb1;obtain⟨hc1,hf1⟩:=hb1.rules
 go_wp2
 exact bodyPost_ret (v:=.tuple #[V 1 (tI (decide (0≤c))) 0 E0,.int .i64 0]) (by simp[results,results44,go_sem,hc1]) rfl ⟨rfl,by
  repeat(first|exact g1|refine G.alloc ?_ _|refine G.setCell ?_ (by simp;try omega) _)⟩
theorem zLI(c:Int)(a b a' b':Int)(s s':ByteArray)(h:∀w,Calls prog 50 #[.int .i64 a,.int .i64 a'] w fun e w'=>e=.returned (.int .i64 c)∧w'=w)(w:World):Calls prog 44 #[.int .i64 11,V 2 a b s,V 2 a' b' s'] w fun e w'=>e=.returned (.tuple #[V 1 (tI (decide (0≤c))) 0 E0,.int .i64 0])∧G w w':=by
 have H:Hid _:=h;clear h
 go_enter func44,ntmps44
 go_wp2_with fail
 refine(H.out _).mono ?_;rintro e wx ⟨rfl,rfl⟩
 go_wp2_with fail
 refine(zAU _ _).mono ?_;rintro e w1 ⟨rfl,hb1⟩;have g1:G w w1:=((((G.refl w).alloc _).alloc _).alloc _).trans hb1;obtain⟨hc1,hf1⟩:=hb1.rules
 go_wp2
 exact bodyPost_ret (v:=.tuple #[V 1 (tI (decide (0≤c))) 0 E0,.int .i64 0]) (by simp[results,results44,go_sem,hc1]) rfl ⟨rfl,by
  repeat(first|exact g1|refine G.alloc ?_ _|refine G.setCell ?_ (by simp;try omega) _)⟩
theorem zLH(c:Int)(a b a' b':Int)(s s':ByteArray)(h:∀w,CG 52 #[.string s,.string s'] w (.int .i64 c))(w:World):Calls prog 44 #[.int .i64 11,V 4 a b s,V 4 a' b' s'] w fun e w'=>e=.returned (.tuple #[V 1 (tI (decide (0≤c))) 0 E0,.int .i64 0])∧G w w':=by
 have H:Hid _:=h;clear h
 go_enter func44,ntmps44
 go_wp2_with fail
 refine(H.out _).mono ?_;rintro e w1 ⟨rfl,hb1⟩;have g1:G w w1:=((((G.refl w).alloc _).alloc _).alloc _).trans hb1;obtain⟨hc1,hf1⟩:=hb1.rules
 have hz1:w.heap.size+2<w1.heap.size:=by have:=hb1.size;simp at this;omega
 have hz1a:w.heap.size<w1.heap.size:=by omega
 have hz1b:w.heap.size+1<w1.heap.size:=by omega
 go_wp2_with fail
 refine(zAU _ _).mono ?_;rintro e w2 ⟨rfl,hb2⟩;have g2:G w w2:=g1.trans hb2;obtain⟨hc2,hf2⟩:=hb2.rules
 go_wp2
 exact bodyPost_ret (v:=.tuple #[V 1 (tI (decide (0≤c))) 0 E0,.int .i64 0]) (by simp[results,results44,go_sem,hc1,hc2,hz1]) rfl ⟨rfl,by
  repeat(first|exact g2|refine G.alloc ?_ _|refine G.setCell ?_ (by simp;try omega) _)⟩
theorem zFN(op:Int)(k a b k' a' b':Int)(s s':ByteArray)(h:(k==k')=false)(w:World):CG 44 #[.int .i64 op,V k a b s,V k' a' b' s'] w (.tuple #[V0,.int .i64 0]):=by
 have h':(k != k')=true:=by rw[bne,h];rfl
 go_enter func44,ntmps44
 go_wp2
 exact bodyPost_ret (v:=.tuple #[V0,.int .i64 0]) (by simp[results,results44,go_sem]) rfl ⟨rfl,by
  repeat(first|exact G.refl _|refine G.alloc ?_ _|refine G.setCell ?_ (by simp;try omega) _)⟩
theorem zD9(op k a b a' b':Int)(s s':ByteArray)(h1:(k==1)=false)(h2:(k==2)=false)(h4:(k==4)=false)(w:World):CG 44 #[.int .i64 op,V k a b s,V k a' b' s'] w (.tuple #[V0,.int .i64 0]):=by
 go_enter func44,ntmps44
 go_wp2
 exact bodyPost_ret (v:=.tuple #[V0,.int .i64 0]) (by simp[results,results44,go_sem]) rfl ⟨rfl,by
  repeat(first|exact G.refl _|refine G.alloc ?_ _|refine G.setCell ?_ (by simp;try omega) _)⟩
theorem zOA(k a b k' a' b':Int)(s s':ByteArray)(h:(k==2)=false)(w:World):CG 46 #[V k a b s,V k' a' b' s'] w (.tuple #[V0,.int .i64 10]):=by
 have h':(k != 2)=true:=by rw[bne,h];rfl
 go_enter func46,ntmps46
 go_wp2
 exact bodyPost_ret (v:=.tuple #[V0,.int .i64 10]) (by simp[results,results46,go_sem]) rfl ⟨rfl,by
  repeat(first|exact G.refl _|refine G.alloc ?_ _|refine G.setCell ?_ (by simp;try omega) _)⟩
theorem zOz(a b k' a' b':Int)(s s':ByteArray)(h:(k'==2)=false)(w:World):CG 46 #[V 2 a b s,V k' a' b' s'] w (.tuple #[V0,.int .i64 10]):=by
 have h':(k' != 2)=true:=by rw[bne,h];rfl
 go_enter func46,ntmps46
 go_wp2
 exact bodyPost_ret (v:=.tuple #[V0,.int .i64 10]) (by simp[results,results46,go_sem]) rfl ⟨rfl,by
  repeat(first|exact G.refl _|refine G.alloc ?_ _|refine G.setCell ?_ (by simp;try omega) _)⟩
theorem zR3(a b a' b':Int)(s s':ByteArray)(h1:∀w,Calls prog 73 #[.int .i64 a] w fun e w'=>e=.returned (.bool false)∧w'=w)(w:World):CG 46 #[V 2 a b s,V 2 a' b' s'] w (.tuple #[V0,.int .i64 11]):=by
 have H1:Hid _:=h1;clear h1
 go_enter func46,ntmps46
 go_wp2_with fail
 refine(H1.out _).mono ?_;rintro e wx ⟨rfl,rfl⟩
 go_wp2
 exact bodyPost_ret (v:=.tuple #[V0,.int .i64 11]) (by simp[results,results46,go_sem]) rfl ⟨rfl,by
  repeat(first|exact G.refl _|refine G.alloc ?_ _|refine G.setCell ?_ (by simp;try omega) _)⟩
theorem zR2(a b a' b':Int)(s s':ByteArray)(h1:∀w,Calls prog 73 #[.int .i64 a] w fun e w'=>e=.returned (.bool true)∧w'=w)(h2:∀w,Calls prog 73 #[.int .i64 a'] w fun e w'=>e=.returned (.bool false)∧w'=w)(w:World):CG 46 #[V 2 a b s,V 2 a' b' s'] w (.tuple #[V0,.int .i64 11]):=by
 have H1:Hid _:=h1;have H2:Hid _:=h2;clear h1 h2
 go_enter func46,ntmps46
 go_wp2_with fail
 refine(H1.out _).mono ?_;rintro e wx ⟨rfl,rfl⟩
 go_wp2_with fail
 refine(H2.out _).mono ?_;rintro e wx ⟨rfl,rfl⟩
 go_wp2
 exact bodyPost_ret (v:=.tuple #[V0,.int .i64 11]) (by simp[results,results46,go_sem]) rfl ⟨rfl,by
  repeat(first|exact G.refl _|refine G.alloc ?_ _|refine G.setCell ?_ (by simp;try omega) _)⟩
theorem zR4(a b a' b':Int)(s s':ByteArray)(h1:∀w,Calls prog 73 #[.int .i64 a] w fun e w'=>e=.returned (.bool true)∧w'=w)(h2:∀w,Calls prog 73 #[.int .i64 a'] w fun e w'=>e=.returned (.bool true)∧w'=w)(w:World):CG 46 #[V 2 a b s,V 2 a' b' s'] w (.tuple #[V 3 a a' E0,.int .i64 0]):=by
 have H1:Hid _:=h1;have H2:Hid _:=h2;clear h1 h2
 go_enter func46,ntmps46
 go_wp2_with fail
 refine(H1.out _).mono ?_;rintro e wx ⟨rfl,rfl⟩
 go_wp2_with fail
 refine(H2.out _).mono ?_;rintro e wx ⟨rfl,rfl⟩
 go_wp2_with fail
 refine(rpair a a' _).mono ?_;rintro e w1 ⟨rfl,hb1⟩;have g1:G w w1:=((((G.refl w).alloc _).alloc _).alloc _).trans hb1;obtain⟨hc1,hf1⟩:=hb1.rules
 go_wp2
 exact bodyPost_ret (v:=.tuple #[V 3 a a' E0,.int .i64 0]) (by simp[results,results46,go_sem,hc1]) rfl ⟨rfl,by
  repeat(first|exact g1|refine G.alloc ?_ _|refine G.setCell ?_ (by simp;try omega) _)⟩
end
section
open Go.RowKit Go.Lib Go.Shelf
theorem zVx(op:Int)(k a b k' a' b':Int)(s s':ByteArray)(ho:op<1∨18<op)(w:World):CG 17 #[.int .i64 op,V k a b s,V k' a' b' s'] w (.tuple #[V0,.int .i64 1]):=by
 by_cases h:op<1
 ·clear ho
  go_enter func17,ntmps17
  go_wp2
  exact bodyPost_ret (v:=.tuple #[V0,.int .i64 1]) (by simp[results,results17,go_sem]) rfl ⟨rfl,by
   repeat(first|exact G.refl _|refine G.alloc ?_ _|refine G.setCell ?_ (by simp;try omega) _)⟩
 ·have h':18<op:=by omega
  clear ho
  go_enter func17,ntmps17
  go_wp2
  exact bodyPost_ret (v:=.tuple #[V0,.int .i64 1]) (by simp[results,results17,go_sem]) rfl ⟨rfl,by
   repeat(first|exact G.refl _|refine G.alloc ?_ _|refine G.setCell ?_ (by simp;try omega) _)⟩
theorem zSL(op:Int)(ho:1≤op)(ho':op≤18)(k a b k' a' b':Int)(s s':ByteArray)(h1:∀w,CG 26 #[V k a b s] w (.bool false))(w:World):CG 17 #[.int .i64 op,V k a b s,V k' a' b' s'] w (.tuple #[V0,.int .i64 16]):=by
 have H1:Hid _:=h1;clear h1
 go_enter func17,ntmps17
 go_wp2_with fail
 refine(H1.out _).mono ?_;rintro e w1 ⟨rfl,hb1⟩;have g1:G w w1:=((((G.refl w).alloc _).alloc _).alloc _).trans hb1;obtain⟨hc1,hf1⟩:=hb1.rules
 go_wp2
 exact bodyPost_ret (v:=.tuple #[V0,.int .i64 16]) (by simp[results,results17,go_sem,hc1]) rfl ⟨rfl,by
  repeat(first|exact g1|refine G.alloc ?_ _|refine G.setCell ?_ (by simp;try omega) _)⟩
theorem zSK(op:Int)(ho:1≤op)(ho':op≤18)(k a b k' a' b':Int)(s s':ByteArray)(h1:∀w,CG 26 #[V k a b s] w (.bool true))(h2:∀w,CG 26 #[V k' a' b' s'] w (.bool false))(w:World):CG 17 #[.int .i64 op,V k a b s,V k' a' b' s'] w (.tuple #[V0,.int .i64 16]):=by
 have H1:Hid _:=h1;have H2:Hid _:=h2;clear h1 h2
 go_enter func17,ntmps17
 go_wp2_with fail
 refine(H1.out _).mono ?_;rintro e w1 ⟨rfl,hb1⟩;have g1:G w w1:=((((G.refl w).alloc _).alloc _).alloc _).trans hb1;obtain⟨hc1,hf1⟩:=hb1.rules
 have hz1:w.heap.size+2<w1.heap.size:=by have:=hb1.size;simp at this;omega
 have hz1a:w.heap.size<w1.heap.size:=by omega
 have hz1b:w.heap.size+1<w1.heap.size:=by omega
 go_wp2_with fail
 refine(H2.out _).mono ?_;rintro e w2 ⟨rfl,hb2⟩;have g2:G w w2:=g1.trans hb2;obtain⟨hc2,hf2⟩:=hb2.rules
 go_wp2
 exact bodyPost_ret (v:=.tuple #[V0,.int .i64 16]) (by simp[results,results17,go_sem,hc1,hc2,hz1]) rfl ⟨rfl,by
  repeat(first|exact g2|refine G.alloc ?_ _|refine G.setCell ?_ (by simp;try omega) _)⟩
theorem zEB(rk ra rb:Int)(rs:ByteArray)(c:Int)(k a b k' a' b':Int)(s s':ByteArray)(h1:∀w,CG 26 #[V k a b s] w (.bool true))(h2:∀w,CG 26 #[V k' a' b' s'] w (.bool true))(h3:∀w,CG 42 #[.int .i64 12,V k a b s,V k' a' b' s'] w (.tuple #[V rk ra rb rs,.int .i64 c]))(w:World):CG 17 #[.int .i64 12,V k a b s,V k' a' b' s'] w (.tuple #[V rk ra rb rs,.int .i64 c]):=by
 have H1:Hid _:=h1;have H2:Hid _:=h2;have H3:Hid _:=h3;clear h1 h2 h3
 go_enter func17,ntmps17
 go_wp2_with fail
 refine(H1.out _).mono ?_;rintro e w1 ⟨rfl,hb1⟩;have g1:G w w1:=((((G.refl w).alloc _).alloc _).alloc _).trans hb1;obtain⟨hc1,hf1⟩:=hb1.rules
 have hz1:w.heap.size+2<w1.heap.size:=by have:=hb1.size;simp at this;omega
 have hz1a:w.heap.size<w1.heap.size:=by omega
 have hz1b:w.heap.size+1<w1.heap.size:=by omega
 go_wp2_with fail
 refine(H2.out _).mono ?_;rintro e w2 ⟨rfl,hb2⟩;have g2:G w w2:=g1.trans hb2;obtain⟨hc2,hf2⟩:=hb2.rules
 have hz2:w.heap.size+2<w2.heap.size:=by have:=hb2.size;omega
 have hz2a:w.heap.size<w2.heap.size:=by omega
 have hz2b:w.heap.size+1<w2.heap.size:=by omega
 go_wp2_with fail
 refine(H3.out _).mono ?_;rintro e w3 ⟨rfl,hb3⟩;have g3:G w w3:=g2.trans hb3;obtain⟨hc3,hf3⟩:=hb3.rules
 go_wp2
 exact bodyPost_ret (v:=.tuple #[V rk ra rb rs,.int .i64 c]) (by simp[results,results17,go_sem,hc1,hc2,hc3,hz1,hz2]) rfl ⟨rfl,by
  repeat(first|exact g3|refine G.alloc ?_ _|refine G.setCell ?_ (by simp;try omega) _)⟩
theorem zEA(rk ra rb:Int)(rs:ByteArray)(c:Int)(k a b k' a' b':Int)(s s':ByteArray)(h1:∀w,CG 26 #[V k a b s] w (.bool true))(h2:∀w,CG 26 #[V k' a' b' s'] w (.bool true))(h3:∀w,CG 42 #[.int .i64 13,V k a b s,V k' a' b' s'] w (.tuple #[V rk ra rb rs,.int .i64 c]))(w:World):CG 17 #[.int .i64 13,V k a b s,V k' a' b' s'] w (.tuple #[V rk ra rb rs,.int .i64 c]):=by
 have H1:Hid _:=h1;have H2:Hid _:=h2;have H3:Hid _:=h3;clear h1 h2 h3
 go_enter func17,ntmps17
 go_wp2_with fail
 refine(H1.out _).mono ?_;rintro e w1 ⟨rfl,hb1⟩;have g1:G w w1:=((((G.refl w).alloc _).alloc _).alloc _).trans hb1;obtain⟨hc1,hf1⟩:=hb1.rules
 have hz1:w.heap.size+2<w1.heap.size:=by have:=hb1.size;simp at this;omega
 have hz1a:w.heap.size<w1.heap.size:=by omega
 have hz1b:w.heap.size+1<w1.heap.size:=by omega
 go_wp2_with fail
 refine(H2.out _).mono ?_;rintro e w2 ⟨rfl,hb2⟩;have g2:G w w2:=g1.trans hb2;obtain⟨hc2,hf2⟩:=hb2.rules
 have hz2:w.heap.size+2<w2.heap.size:=by have:=hb2.size;omega
 have hz2a:w.heap.size<w2.heap.size:=by omega
 have hz2b:w.heap.size+1<w2.heap.size:=by omega
 go_wp2_with fail
 refine(H3.out _).mono ?_;rintro e w3 ⟨rfl,hb3⟩;have g3:G w w3:=g2.trans hb3;obtain⟨hc3,hf3⟩:=hb3.rules
 go_wp2
 exact bodyPost_ret (v:=.tuple #[V rk ra rb rs,.int .i64 c]) (by simp[results,results17,go_sem,hc1,hc2,hc3,hz1,hz2]) rfl ⟨rfl,by
  repeat(first|exact g3|refine G.alloc ?_ _|refine G.setCell ?_ (by simp;try omega) _)⟩
theorem zEz(rk ra rb:Int)(rs:ByteArray)(c:Int)(k a b k' a' b':Int)(s s':ByteArray)(h1:∀w,CG 26 #[V k a b s] w (.bool true))(h2:∀w,CG 26 #[V k' a' b' s'] w (.bool true))(h3:∀w,CG 42 #[.int .i64 14,V k a b s,V k' a' b' s'] w (.tuple #[V rk ra rb rs,.int .i64 c]))(w:World):CG 17 #[.int .i64 14,V k a b s,V k' a' b' s'] w (.tuple #[V rk ra rb rs,.int .i64 c]):=by
 have H1:Hid _:=h1;have H2:Hid _:=h2;have H3:Hid _:=h3;clear h1 h2 h3
 go_enter func17,ntmps17
 go_wp2_with fail
 refine(H1.out _).mono ?_;rintro e w1 ⟨rfl,hb1⟩;have g1:G w w1:=((((G.refl w).alloc _).alloc _).alloc _).trans hb1;obtain⟨hc1,hf1⟩:=hb1.rules
 have hz1:w.heap.size+2<w1.heap.size:=by have:=hb1.size;simp at this;omega
 have hz1a:w.heap.size<w1.heap.size:=by omega
 have hz1b:w.heap.size+1<w1.heap.size:=by omega
 go_wp2_with fail
 refine(H2.out _).mono ?_;rintro e w2 ⟨rfl,hb2⟩;have g2:G w w2:=g1.trans hb2;obtain⟨hc2,hf2⟩:=hb2.rules
 have hz2:w.heap.size+2<w2.heap.size:=by have:=hb2.size;omega
 have hz2a:w.heap.size<w2.heap.size:=by omega
 have hz2b:w.heap.size+1<w2.heap.size:=by omega
 go_wp2_with fail
 refine(H3.out _).mono ?_;rintro e w3 ⟨rfl,hb3⟩;have g3:G w w3:=g2.trans hb3;obtain⟨hc3,hf3⟩:=hb3.rules
 go_wp2
 exact bodyPost_ret (v:=.tuple #[V rk ra rb rs,.int .i64 c]) (by simp[results,results17,go_sem,hc1,hc2,hc3,hz1,hz2]) rfl ⟨rfl,by
  repeat(first|exact g3|refine G.alloc ?_ _|refine G.setCell ?_ (by simp;try omega) _)⟩
theorem zO5(op:Int)(ho:1≤op)(ho':op≤18)(n12:(op==12)=false)(n13:(op==13)=false)(n14:(op==14)=false)(a b k' a' b':Int)(s s':ByteArray)(h1:∀w,CG 26 #[V 0 a b s] w (.bool true))(h2:∀w,CG 26 #[V k' a' b' s'] w (.bool true))(w:World):CG 17 #[.int .i64 op,V 0 a b s,V k' a' b' s'] w (.tuple #[V0,.int .i64 0]):=by
 have H1:Hid _:=h1;have H2:Hid _:=h2;clear h1 h2
 go_enter func17,ntmps17
 go_wp2_with fail
 refine(H1.out _).mono ?_;rintro e w1 ⟨rfl,hb1⟩;have g1:G w w1:=((((G.refl w).alloc _).alloc _).alloc _).trans hb1;obtain⟨hc1,hf1⟩:=hb1.rules
 have hz1:w.heap.size+2<w1.heap.size:=by have:=hb1.size;simp at this;omega
 have hz1a:w.heap.size<w1.heap.size:=by omega
 have hz1b:w.heap.size+1<w1.heap.size:=by omega
 go_wp2_with fail
 refine(H2.out _).mono ?_;rintro e w2 ⟨rfl,hb2⟩;have g2:G w w2:=g1.trans hb2;obtain⟨hc2,hf2⟩:=hb2.rules
 go_wp2
 exact bodyPost_ret (v:=.tuple #[V0,.int .i64 0]) (by simp[results,results17,go_sem,hc1,hc2,hz1]) rfl ⟨rfl,by
  repeat(first|exact g2|refine G.alloc ?_ _|refine G.setCell ?_ (by simp;try omega) _)⟩
theorem zO4(op:Int)(ho:1≤op)(ho':op≤18)(n12:(op==12)=false)(n13:(op==13)=false)(n14:(op==14)=false)(k a b a' b':Int)(s s':ByteArray)(z:(k==0)=false)(h1:∀w,CG 26 #[V k a b s] w (.bool true))(h2:∀w,CG 26 #[V 0 a' b' s'] w (.bool true))(w:World):CG 17 #[.int .i64 op,V k a b s,V 0 a' b' s'] w (.tuple #[V0,.int .i64 0]):=by
 have H1:Hid _:=h1;have H2:Hid _:=h2;clear h1 h2
 go_enter func17,ntmps17
 go_wp2_with fail
 refine(H1.out _).mono ?_;rintro e w1 ⟨rfl,hb1⟩;have g1:G w w1:=((((G.refl w).alloc _).alloc _).alloc _).trans hb1;obtain⟨hc1,hf1⟩:=hb1.rules
 have hz1:w.heap.size+2<w1.heap.size:=by have:=hb1.size;simp at this;omega
 have hz1a:w.heap.size<w1.heap.size:=by omega
 have hz1b:w.heap.size+1<w1.heap.size:=by omega
 go_wp2_with fail
 refine(H2.out _).mono ?_;rintro e w2 ⟨rfl,hb2⟩;have g2:G w w2:=g1.trans hb2;obtain⟨hc2,hf2⟩:=hb2.rules
 go_wp2
 exact bodyPost_ret (v:=.tuple #[V0,.int .i64 0]) (by simp[results,results17,go_sem,hc1,hc2,hz1]) rfl ⟨rfl,by
  repeat(first|exact g2|refine G.alloc ?_ _|refine G.setCell ?_ (by simp;try omega) _)⟩
theorem rB_6(q:Bool)(k a b k' a' b':Int)(s s':ByteArray)(z:(k==0)=false)(z':(k'==0)=false)(h1:∀w,CG 26 #[V k a b s] w (.bool true))(h2:∀w,CG 26 #[V k' a' b' s'] w (.bool true))(h3:∀w,CG 43 #[V k a b s,V k' a' b' s'] w (.bool q))(w:World):CG 17 #[.int .i64 6,V k a b s,V k' a' b' s'] w (.tuple #[V 1 (tI q) 0 E0,.int .i64 0]):=by
 have H1:Hid _:=h1;have H2:Hid _:=h2;have H3:Hid _:=h3;clear h1 h2 h3
 go_enter func17,ntmps17
 go_wp2_with fail
 refine(H1.out _).mono ?_;rintro e w1 ⟨rfl,hb1⟩;have g1:G w w1:=((((G.refl w).alloc _).alloc _).alloc _).trans hb1;obtain⟨hc1,hf1⟩:=hb1.rules
 have hz1:w.heap.size+2<w1.heap.size:=by have:=hb1.size;simp at this;omega
 have hz1a:w.heap.size<w1.heap.size:=by omega
 have hz1b:w.heap.size+1<w1.heap.size:=by omega
 go_wp2_with fail
 refine(H2.out _).mono ?_;rintro e w2 ⟨rfl,hb2⟩;have g2:G w w2:=g1.trans hb2;obtain⟨hc2,hf2⟩:=hb2.rules
 have hz2:w.heap.size+2<w2.heap.size:=by have:=hb2.size;omega
 have hz2a:w.heap.size<w2.heap.size:=by omega
 have hz2b:w.heap.size+1<w2.heap.size:=by omega
 go_wp2_with fail
 refine(H3.out _).mono ?_;rintro e w3 ⟨rfl,hb3⟩;have g3:G w w3:=g2.trans hb3;obtain⟨hc3,hf3⟩:=hb3.rules
 have hz3:w.heap.size+2<w3.heap.size:=by have:=hb3.size;omega
 have hz3a:w.heap.size<w3.heap.size:=by omega
 have hz3b:w.heap.size+1<w3.heap.size:=by omega
 go_wp2_with fail
 refine(zAU q _).mono ?_;rintro e w4 ⟨rfl,hb4⟩;have g4:G w w4:=g3.trans hb4;obtain⟨hc4,hf4⟩:=hb4.rules
 go_wp2
 exact bodyPost_ret (v:=.tuple #[V 1 (tI q) 0 E0,.int .i64 0]) (by simp[results,results17,go_sem,hc1,hc2,hc3,hc4,hz1,hz2,hz3]) rfl ⟨rfl,by
  repeat(first|exact g4|refine G.alloc ?_ _|refine G.setCell ?_ (by simp;try omega) _)⟩
theorem rB_7(q:Bool)(k a b k' a' b':Int)(s s':ByteArray)(z:(k==0)=false)(z':(k'==0)=false)(h1:∀w,CG 26 #[V k a b s] w (.bool true))(h2:∀w,CG 26 #[V k' a' b' s'] w (.bool true))(h3:∀w,CG 43 #[V k a b s,V k' a' b' s'] w (.bool q))(w:World):CG 17 #[.int .i64 7,V k a b s,V k' a' b' s'] w (.tuple #[V 1 (tI (!q)) 0 E0,.int .i64 0]):=by
 have H1:Hid _:=h1;have H2:Hid _:=h2;have H3:Hid _:=h3;clear h1 h2 h3
 go_enter func17,ntmps17
 go_wp2_with fail
 refine(H1.out _).mono ?_;rintro e w1 ⟨rfl,hb1⟩;have g1:G w w1:=((((G.refl w).alloc _).alloc _).alloc _).trans hb1;obtain⟨hc1,hf1⟩:=hb1.rules
 have hz1:w.heap.size+2<w1.heap.size:=by have:=hb1.size;simp at this;omega
 have hz1a:w.heap.size<w1.heap.size:=by omega
 have hz1b:w.heap.size+1<w1.heap.size:=by omega
 go_wp2_with fail
 refine(H2.out _).mono ?_;rintro e w2 ⟨rfl,hb2⟩;have g2:G w w2:=g1.trans hb2;obtain⟨hc2,hf2⟩:=hb2.rules
 have hz2:w.heap.size+2<w2.heap.size:=by have:=hb2.size;omega
 have hz2a:w.heap.size<w2.heap.size:=by omega
 have hz2b:w.heap.size+1<w2.heap.size:=by omega
 go_wp2_with fail
 refine(H3.out _).mono ?_;rintro e w3 ⟨rfl,hb3⟩;have g3:G w w3:=g2.trans hb3;obtain⟨hc3,hf3⟩:=hb3.rules
 have hz3:w.heap.size+2<w3.heap.size:=by have:=hb3.size;omega
 have hz3a:w.heap.size<w3.heap.size:=by omega
 have hz3b:w.heap.size+1<w3.heap.size:=by omega
 go_wp2_with fail
 refine(zAU (!q) _).mono ?_;rintro e w4 ⟨rfl,hb4⟩;have g4:G w w4:=g3.trans hb4;obtain⟨hc4,hf4⟩:=hb4.rules
 go_wp2
 exact bodyPost_ret (v:=.tuple #[V 1 (tI (!q)) 0 E0,.int .i64 0]) (by simp[results,results17,go_sem,hc1,hc2,hc3,hc4,hz1,hz2,hz3]) rfl ⟨rfl,by
  repeat(first|exact g4|refine G.alloc ?_ _|refine G.setCell ?_ (by simp;try omega) _)⟩
theorem rB_8(rk ra rb:Int)(rs:ByteArray)(c:Int)(k a b k' a' b':Int)(s s':ByteArray)(z:(k==0)=false)(z':(k'==0)=false)(h1:∀w,CG 26 #[V k a b s] w (.bool true))(h2:∀w,CG 26 #[V k' a' b' s'] w (.bool true))(h3:∀w,CG 44 #[.int .i64 8,V k a b s,V k' a' b' s'] w (.tuple #[V rk ra rb rs,.int .i64 c]))(w:World):CG 17 #[.int .i64 8,V k a b s,V k' a' b' s'] w (.tuple #[V rk ra rb rs,.int .i64 c]):=by
 have H1:Hid _:=h1;have H2:Hid _:=h2;have H3:Hid _:=h3;clear h1 h2 h3
 go_enter func17,ntmps17
 go_wp2_with fail
 refine(H1.out _).mono ?_;rintro e w1 ⟨rfl,hb1⟩;have g1:G w w1:=((((G.refl w).alloc _).alloc _).alloc _).trans hb1;obtain⟨hc1,hf1⟩:=hb1.rules
 have hz1:w.heap.size+2<w1.heap.size:=by have:=hb1.size;simp at this;omega
 have hz1a:w.heap.size<w1.heap.size:=by omega
 have hz1b:w.heap.size+1<w1.heap.size:=by omega
 go_wp2_with fail
 refine(H2.out _).mono ?_;rintro e w2 ⟨rfl,hb2⟩;have g2:G w w2:=g1.trans hb2;obtain⟨hc2,hf2⟩:=hb2.rules
 have hz2:w.heap.size+2<w2.heap.size:=by have:=hb2.size;omega
 have hz2a:w.heap.size<w2.heap.size:=by omega
 have hz2b:w.heap.size+1<w2.heap.size:=by omega
 go_wp2_with fail
 refine(H3.out _).mono ?_;rintro e w3 ⟨rfl,hb3⟩;have g3:G w w3:=g2.trans hb3;obtain⟨hc3,hf3⟩:=hb3.rules
 go_wp2
 exact bodyPost_ret (v:=.tuple #[V rk ra rb rs,.int .i64 c]) (by simp[results,results17,go_sem,hc1,hc2,hc3,hz1,hz2]) rfl ⟨rfl,by
  repeat(first|exact g3|refine G.alloc ?_ _|refine G.setCell ?_ (by simp;try omega) _)⟩
theorem rB_9(rk ra rb:Int)(rs:ByteArray)(c:Int)(k a b k' a' b':Int)(s s':ByteArray)(z:(k==0)=false)(z':(k'==0)=false)(h1:∀w,CG 26 #[V k a b s] w (.bool true))(h2:∀w,CG 26 #[V k' a' b' s'] w (.bool true))(h3:∀w,CG 44 #[.int .i64 9,V k a b s,V k' a' b' s'] w (.tuple #[V rk ra rb rs,.int .i64 c]))(w:World):CG 17 #[.int .i64 9,V k a b s,V k' a' b' s'] w (.tuple #[V rk ra rb rs,.int .i64 c]):=by
 have H1:Hid _:=h1;have H2:Hid _:=h2;have H3:Hid _:=h3;clear h1 h2 h3
 go_enter func17,ntmps17
 go_wp2_with fail
 refine(H1.out _).mono ?_;rintro e w1 ⟨rfl,hb1⟩;have g1:G w w1:=((((G.refl w).alloc _).alloc _).alloc _).trans hb1;obtain⟨hc1,hf1⟩:=hb1.rules
 have hz1:w.heap.size+2<w1.heap.size:=by have:=hb1.size;simp at this;omega
 have hz1a:w.heap.size<w1.heap.size:=by omega
 have hz1b:w.heap.size+1<w1.heap.size:=by omega
 go_wp2_with fail
 refine(H2.out _).mono ?_;rintro e w2 ⟨rfl,hb2⟩;have g2:G w w2:=g1.trans hb2;obtain⟨hc2,hf2⟩:=hb2.rules
 have hz2:w.heap.size+2<w2.heap.size:=by have:=hb2.size;omega
 have hz2a:w.heap.size<w2.heap.size:=by omega
 have hz2b:w.heap.size+1<w2.heap.size:=by omega
 go_wp2_with fail
 refine(H3.out _).mono ?_;rintro e w3 ⟨rfl,hb3⟩;have g3:G w w3:=g2.trans hb3;obtain⟨hc3,hf3⟩:=hb3.rules
 go_wp2
 exact bodyPost_ret (v:=.tuple #[V rk ra rb rs,.int .i64 c]) (by simp[results,results17,go_sem,hc1,hc2,hc3,hz1,hz2]) rfl ⟨rfl,by
  repeat(first|exact g3|refine G.alloc ?_ _|refine G.setCell ?_ (by simp;try omega) _)⟩
theorem zMf(rk ra rb:Int)(rs:ByteArray)(c:Int)(k a b k' a' b':Int)(s s':ByteArray)(z:(k==0)=false)(z':(k'==0)=false)(h1:∀w,CG 26 #[V k a b s] w (.bool true))(h2:∀w,CG 26 #[V k' a' b' s'] w (.bool true))(h3:∀w,CG 44 #[.int .i64 10,V k a b s,V k' a' b' s'] w (.tuple #[V rk ra rb rs,.int .i64 c]))(w:World):CG 17 #[.int .i64 10,V k a b s,V k' a' b' s'] w (.tuple #[V rk ra rb rs,.int .i64 c]):=by
 have H1:Hid _:=h1;have H2:Hid _:=h2;have H3:Hid _:=h3;clear h1 h2 h3
 go_enter func17,ntmps17
 go_wp2_with fail
 refine(H1.out _).mono ?_;rintro e w1 ⟨rfl,hb1⟩;have g1:G w w1:=((((G.refl w).alloc _).alloc _).alloc _).trans hb1;obtain⟨hc1,hf1⟩:=hb1.rules
 have hz1:w.heap.size+2<w1.heap.size:=by have:=hb1.size;simp at this;omega
 have hz1a:w.heap.size<w1.heap.size:=by omega
 have hz1b:w.heap.size+1<w1.heap.size:=by omega
 go_wp2_with fail
 refine(H2.out _).mono ?_;rintro e w2 ⟨rfl,hb2⟩;have g2:G w w2:=g1.trans hb2;obtain⟨hc2,hf2⟩:=hb2.rules
 have hz2:w.heap.size+2<w2.heap.size:=by have:=hb2.size;omega
 have hz2a:w.heap.size<w2.heap.size:=by omega
 have hz2b:w.heap.size+1<w2.heap.size:=by omega
 go_wp2_with fail
 refine(H3.out _).mono ?_;rintro e w3 ⟨rfl,hb3⟩;have g3:G w w3:=g2.trans hb3;obtain⟨hc3,hf3⟩:=hb3.rules
 go_wp2
 exact bodyPost_ret (v:=.tuple #[V rk ra rb rs,.int .i64 c]) (by simp[results,results17,go_sem,hc1,hc2,hc3,hz1,hz2]) rfl ⟨rfl,by
  repeat(first|exact g3|refine G.alloc ?_ _|refine G.setCell ?_ (by simp;try omega) _)⟩
theorem zMe(rk ra rb:Int)(rs:ByteArray)(c:Int)(k a b k' a' b':Int)(s s':ByteArray)(z:(k==0)=false)(z':(k'==0)=false)(h1:∀w,CG 26 #[V k a b s] w (.bool true))(h2:∀w,CG 26 #[V k' a' b' s'] w (.bool true))(h3:∀w,CG 44 #[.int .i64 11,V k a b s,V k' a' b' s'] w (.tuple #[V rk ra rb rs,.int .i64 c]))(w:World):CG 17 #[.int .i64 11,V k a b s,V k' a' b' s'] w (.tuple #[V rk ra rb rs,.int .i64 c]):=by
 have H1:Hid _:=h1;have H2:Hid _:=h2;have H3:Hid _:=h3;clear h1 h2 h3
 go_enter func17,ntmps17
 go_wp2_with fail
 refine(H1.out _).mono ?_;rintro e w1 ⟨rfl,hb1⟩;have g1:G w w1:=((((G.refl w).alloc _).alloc _).alloc _).trans hb1;obtain⟨hc1,hf1⟩:=hb1.rules
 have hz1:w.heap.size+2<w1.heap.size:=by have:=hb1.size;simp at this;omega
 have hz1a:w.heap.size<w1.heap.size:=by omega
 have hz1b:w.heap.size+1<w1.heap.size:=by omega
 go_wp2_with fail
 refine(H2.out _).mono ?_;rintro e w2 ⟨rfl,hb2⟩;have g2:G w w2:=g1.trans hb2;obtain⟨hc2,hf2⟩:=hb2.rules
 have hz2:w.heap.size+2<w2.heap.size:=by have:=hb2.size;omega
 have hz2a:w.heap.size<w2.heap.size:=by omega
 have hz2b:w.heap.size+1<w2.heap.size:=by omega
 go_wp2_with fail
 refine(H3.out _).mono ?_;rintro e w3 ⟨rfl,hb3⟩;have g3:G w w3:=g2.trans hb3;obtain⟨hc3,hf3⟩:=hb3.rules
 go_wp2
 exact bodyPost_ret (v:=.tuple #[V rk ra rb rs,.int .i64 c]) (by simp[results,results17,go_sem,hc1,hc2,hc3,hz1,hz2]) rfl ⟨rfl,by
  repeat(first|exact g3|refine G.alloc ?_ _|refine G.setCell ?_ (by simp;try omega) _)⟩
theorem zSO(rk ra rb:Int)(rs:ByteArray)(c:Int)(k a b k' a' b':Int)(s s':ByteArray)(z:(k==0)=false)(z':(k'==0)=false)(h1:∀w,CG 26 #[V k a b s] w (.bool true))(h2:∀w,CG 26 #[V k' a' b' s'] w (.bool true))(h3:∀w,CG 45 #[.int .i64 15,V k a b s,V k' a' b' s'] w (.tuple #[V rk ra rb rs,.int .i64 c]))(w:World):CG 17 #[.int .i64 15,V k a b s,V k' a' b' s'] w (.tuple #[V rk ra rb rs,.int .i64 c]):=by
 have H1:Hid _:=h1;have H2:Hid _:=h2;have H3:Hid _:=h3;clear h1 h2 h3
 go_enter func17,ntmps17
 go_wp2_with fail
 refine(H1.out _).mono ?_;rintro e w1 ⟨rfl,hb1⟩;have g1:G w w1:=((((G.refl w).alloc _).alloc _).alloc _).trans hb1;obtain⟨hc1,hf1⟩:=hb1.rules
 have hz1:w.heap.size+2<w1.heap.size:=by have:=hb1.size;simp at this;omega
 have hz1a:w.heap.size<w1.heap.size:=by omega
 have hz1b:w.heap.size+1<w1.heap.size:=by omega
 go_wp2_with fail
 refine(H2.out _).mono ?_;rintro e w2 ⟨rfl,hb2⟩;have g2:G w w2:=g1.trans hb2;obtain⟨hc2,hf2⟩:=hb2.rules
 have hz2:w.heap.size+2<w2.heap.size:=by have:=hb2.size;omega
 have hz2a:w.heap.size<w2.heap.size:=by omega
 have hz2b:w.heap.size+1<w2.heap.size:=by omega
 go_wp2_with fail
 refine(H3.out _).mono ?_;rintro e w3 ⟨rfl,hb3⟩;have g3:G w w3:=g2.trans hb3;obtain⟨hc3,hf3⟩:=hb3.rules
 go_wp2
 exact bodyPost_ret (v:=.tuple #[V rk ra rb rs,.int .i64 c]) (by simp[results,results17,go_sem,hc1,hc2,hc3,hz1,hz2]) rfl ⟨rfl,by
  repeat(first|exact g3|refine G.alloc ?_ _|refine G.setCell ?_ (by simp;try omega) _)⟩
theorem zSN(rk ra rb:Int)(rs:ByteArray)(c:Int)(k a b k' a' b':Int)(s s':ByteArray)(z:(k==0)=false)(z':(k'==0)=false)(h1:∀w,CG 26 #[V k a b s] w (.bool true))(h2:∀w,CG 26 #[V k' a' b' s'] w (.bool true))(h3:∀w,CG 45 #[.int .i64 17,V k a b s,V k' a' b' s'] w (.tuple #[V rk ra rb rs,.int .i64 c]))(w:World):CG 17 #[.int .i64 17,V k a b s,V k' a' b' s'] w (.tuple #[V rk ra rb rs,.int .i64 c]):=by
 have H1:Hid _:=h1;have H2:Hid _:=h2;have H3:Hid _:=h3;clear h1 h2 h3
 go_enter func17,ntmps17
 go_wp2_with fail
 refine(H1.out _).mono ?_;rintro e w1 ⟨rfl,hb1⟩;have g1:G w w1:=((((G.refl w).alloc _).alloc _).alloc _).trans hb1;obtain⟨hc1,hf1⟩:=hb1.rules
 have hz1:w.heap.size+2<w1.heap.size:=by have:=hb1.size;simp at this;omega
 have hz1a:w.heap.size<w1.heap.size:=by omega
 have hz1b:w.heap.size+1<w1.heap.size:=by omega
 go_wp2_with fail
 refine(H2.out _).mono ?_;rintro e w2 ⟨rfl,hb2⟩;have g2:G w w2:=g1.trans hb2;obtain⟨hc2,hf2⟩:=hb2.rules
 have hz2:w.heap.size+2<w2.heap.size:=by have:=hb2.size;omega
 have hz2a:w.heap.size<w2.heap.size:=by omega
 have hz2b:w.heap.size+1<w2.heap.size:=by omega
 go_wp2_with fail
 refine(H3.out _).mono ?_;rintro e w3 ⟨rfl,hb3⟩;have g3:G w w3:=g2.trans hb3;obtain⟨hc3,hf3⟩:=hb3.rules
 go_wp2
 exact bodyPost_ret (v:=.tuple #[V rk ra rb rs,.int .i64 c]) (by simp[results,results17,go_sem,hc1,hc2,hc3,hz1,hz2]) rfl ⟨rfl,by
  repeat(first|exact g3|refine G.alloc ?_ _|refine G.setCell ?_ (by simp;try omega) _)⟩
theorem zSM(rk ra rb:Int)(rs:ByteArray)(c:Int)(k a b k' a' b':Int)(s s':ByteArray)(z:(k==0)=false)(z':(k'==0)=false)(h1:∀w,CG 26 #[V k a b s] w (.bool true))(h2:∀w,CG 26 #[V k' a' b' s'] w (.bool true))(h3:∀w,CG 45 #[.int .i64 18,V k a b s,V k' a' b' s'] w (.tuple #[V rk ra rb rs,.int .i64 c]))(w:World):CG 17 #[.int .i64 18,V k a b s,V k' a' b' s'] w (.tuple #[V rk ra rb rs,.int .i64 c]):=by
 have H1:Hid _:=h1;have H2:Hid _:=h2;have H3:Hid _:=h3;clear h1 h2 h3
 go_enter func17,ntmps17
 go_wp2_with fail
 refine(H1.out _).mono ?_;rintro e w1 ⟨rfl,hb1⟩;have g1:G w w1:=((((G.refl w).alloc _).alloc _).alloc _).trans hb1;obtain⟨hc1,hf1⟩:=hb1.rules
 have hz1:w.heap.size+2<w1.heap.size:=by have:=hb1.size;simp at this;omega
 have hz1a:w.heap.size<w1.heap.size:=by omega
 have hz1b:w.heap.size+1<w1.heap.size:=by omega
 go_wp2_with fail
 refine(H2.out _).mono ?_;rintro e w2 ⟨rfl,hb2⟩;have g2:G w w2:=g1.trans hb2;obtain⟨hc2,hf2⟩:=hb2.rules
 have hz2:w.heap.size+2<w2.heap.size:=by have:=hb2.size;omega
 have hz2a:w.heap.size<w2.heap.size:=by omega
 have hz2b:w.heap.size+1<w2.heap.size:=by omega
 go_wp2_with fail
 refine(H3.out _).mono ?_;rintro e w3 ⟨rfl,hb3⟩;have g3:G w w3:=g2.trans hb3;obtain⟨hc3,hf3⟩:=hb3.rules
 go_wp2
 exact bodyPost_ret (v:=.tuple #[V rk ra rb rs,.int .i64 c]) (by simp[results,results17,go_sem,hc1,hc2,hc3,hz1,hz2]) rfl ⟨rfl,by
  repeat(first|exact g3|refine G.alloc ?_ _|refine G.setCell ?_ (by simp;try omega) _)⟩
theorem zMd(rk ra rb:Int)(rs:ByteArray)(c:Int)(k a b k' a' b':Int)(s s':ByteArray)(z:(k==0)=false)(z':(k'==0)=false)(h1:∀w,CG 26 #[V k a b s] w (.bool true))(h2:∀w,CG 26 #[V k' a' b' s'] w (.bool true))(h3:∀w,CG 46 #[V k a b s,V k' a' b' s'] w (.tuple #[V rk ra rb rs,.int .i64 c]))(w:World):CG 17 #[.int .i64 16,V k a b s,V k' a' b' s'] w (.tuple #[V rk ra rb rs,.int .i64 c]):=by
 have H1:Hid _:=h1;have H2:Hid _:=h2;have H3:Hid _:=h3;clear h1 h2 h3
 go_enter func17,ntmps17
 go_wp2_with fail
 refine(H1.out _).mono ?_;rintro e w1 ⟨rfl,hb1⟩;have g1:G w w1:=((((G.refl w).alloc _).alloc _).alloc _).trans hb1;obtain⟨hc1,hf1⟩:=hb1.rules
 have hz1:w.heap.size+2<w1.heap.size:=by have:=hb1.size;simp at this;omega
 have hz1a:w.heap.size<w1.heap.size:=by omega
 have hz1b:w.heap.size+1<w1.heap.size:=by omega
 go_wp2_with fail
 refine(H2.out _).mono ?_;rintro e w2 ⟨rfl,hb2⟩;have g2:G w w2:=g1.trans hb2;obtain⟨hc2,hf2⟩:=hb2.rules
 have hz2:w.heap.size+2<w2.heap.size:=by have:=hb2.size;omega
 have hz2a:w.heap.size<w2.heap.size:=by omega
 have hz2b:w.heap.size+1<w2.heap.size:=by omega
 go_wp2_with fail
 refine(H3.out _).mono ?_;rintro e w3 ⟨rfl,hb3⟩;have g3:G w w3:=g2.trans hb3;obtain⟨hc3,hf3⟩:=hb3.rules
 go_wp2
 exact bodyPost_ret (v:=.tuple #[V rk ra rb rs,.int .i64 c]) (by simp[results,results17,go_sem,hc1,hc2,hc3,hz1,hz2]) rfl ⟨rfl,by
  repeat(first|exact g3|refine G.alloc ?_ _|refine G.setCell ?_ (by simp;try omega) _)⟩
theorem rB_1(rk ra rb:Int)(rs:ByteArray)(c:Int)(k a b k' a' b':Int)(s s':ByteArray)(z:(k==0)=false)(z':(k'==0)=false)(h1:∀w,CG 26 #[V k a b s] w (.bool true))(h2:∀w,CG 26 #[V k' a' b' s'] w (.bool true))(h3:∀w,CG 47 #[.int .i64 1,V k a b s,V k' a' b' s'] w (.tuple #[V rk ra rb rs,.int .i64 c]))(w:World):CG 17 #[.int .i64 1,V k a b s,V k' a' b' s'] w (.tuple #[V rk ra rb rs,.int .i64 c]):=by
 have H1:Hid _:=h1;have H2:Hid _:=h2;have H3:Hid _:=h3;clear h1 h2 h3
 go_enter func17,ntmps17
 go_wp2_with fail
 refine(H1.out _).mono ?_;rintro e w1 ⟨rfl,hb1⟩;have g1:G w w1:=((((G.refl w).alloc _).alloc _).alloc _).trans hb1;obtain⟨hc1,hf1⟩:=hb1.rules
 have hz1:w.heap.size+2<w1.heap.size:=by have:=hb1.size;simp at this;omega
 have hz1a:w.heap.size<w1.heap.size:=by omega
 have hz1b:w.heap.size+1<w1.heap.size:=by omega
 go_wp2_with fail
 refine(H2.out _).mono ?_;rintro e w2 ⟨rfl,hb2⟩;have g2:G w w2:=g1.trans hb2;obtain⟨hc2,hf2⟩:=hb2.rules
 have hz2:w.heap.size+2<w2.heap.size:=by have:=hb2.size;omega
 have hz2a:w.heap.size<w2.heap.size:=by omega
 have hz2b:w.heap.size+1<w2.heap.size:=by omega
 go_wp2_with fail
 refine(H3.out _).mono ?_;rintro e w3 ⟨rfl,hb3⟩;have g3:G w w3:=g2.trans hb3;obtain⟨hc3,hf3⟩:=hb3.rules
 go_wp2
 exact bodyPost_ret (v:=.tuple #[V rk ra rb rs,.int .i64 c]) (by simp[results,results17,go_sem,hc1,hc2,hc3,hz1,hz2]) rfl ⟨rfl,by
  repeat(first|exact g3|refine G.alloc ?_ _|refine G.setCell ?_ (by simp;try omega) _)⟩
theorem rB_2(rk ra rb:Int)(rs:ByteArray)(c:Int)(k a b k' a' b':Int)(s s':ByteArray)(z:(k==0)=false)(z':(k'==0)=false)(h1:∀w,CG 26 #[V k a b s] w (.bool true))(h2:∀w,CG 26 #[V k' a' b' s'] w (.bool true))(h3:∀w,CG 47 #[.int .i64 2,V k a b s,V k' a' b' s'] w (.tuple #[V rk ra rb rs,.int .i64 c]))(w:World):CG 17 #[.int .i64 2,V k a b s,V k' a' b' s'] w (.tuple #[V rk ra rb rs,.int .i64 c]):=by
 have H1:Hid _:=h1;have H2:Hid _:=h2;have H3:Hid _:=h3;clear h1 h2 h3
 go_enter func17,ntmps17
 go_wp2_with fail
 refine(H1.out _).mono ?_;rintro e w1 ⟨rfl,hb1⟩;have g1:G w w1:=((((G.refl w).alloc _).alloc _).alloc _).trans hb1;obtain⟨hc1,hf1⟩:=hb1.rules
 have hz1:w.heap.size+2<w1.heap.size:=by have:=hb1.size;simp at this;omega
 have hz1a:w.heap.size<w1.heap.size:=by omega
 have hz1b:w.heap.size+1<w1.heap.size:=by omega
 go_wp2_with fail
 refine(H2.out _).mono ?_;rintro e w2 ⟨rfl,hb2⟩;have g2:G w w2:=g1.trans hb2;obtain⟨hc2,hf2⟩:=hb2.rules
 have hz2:w.heap.size+2<w2.heap.size:=by have:=hb2.size;omega
 have hz2a:w.heap.size<w2.heap.size:=by omega
 have hz2b:w.heap.size+1<w2.heap.size:=by omega
 go_wp2_with fail
 refine(H3.out _).mono ?_;rintro e w3 ⟨rfl,hb3⟩;have g3:G w w3:=g2.trans hb3;obtain⟨hc3,hf3⟩:=hb3.rules
 go_wp2
 exact bodyPost_ret (v:=.tuple #[V rk ra rb rs,.int .i64 c]) (by simp[results,results17,go_sem,hc1,hc2,hc3,hz1,hz2]) rfl ⟨rfl,by
  repeat(first|exact g3|refine G.alloc ?_ _|refine G.setCell ?_ (by simp;try omega) _)⟩
theorem rB_3(rk ra rb:Int)(rs:ByteArray)(c:Int)(k a b k' a' b':Int)(s s':ByteArray)(z:(k==0)=false)(z':(k'==0)=false)(h1:∀w,CG 26 #[V k a b s] w (.bool true))(h2:∀w,CG 26 #[V k' a' b' s'] w (.bool true))(h3:∀w,CG 47 #[.int .i64 3,V k a b s,V k' a' b' s'] w (.tuple #[V rk ra rb rs,.int .i64 c]))(w:World):CG 17 #[.int .i64 3,V k a b s,V k' a' b' s'] w (.tuple #[V rk ra rb rs,.int .i64 c]):=by
 have H1:Hid _:=h1;have H2:Hid _:=h2;have H3:Hid _:=h3;clear h1 h2 h3
 go_enter func17,ntmps17
 go_wp2_with fail
 refine(H1.out _).mono ?_;rintro e w1 ⟨rfl,hb1⟩;have g1:G w w1:=((((G.refl w).alloc _).alloc _).alloc _).trans hb1;obtain⟨hc1,hf1⟩:=hb1.rules
 have hz1:w.heap.size+2<w1.heap.size:=by have:=hb1.size;simp at this;omega
 have hz1a:w.heap.size<w1.heap.size:=by omega
 have hz1b:w.heap.size+1<w1.heap.size:=by omega
 go_wp2_with fail
 refine(H2.out _).mono ?_;rintro e w2 ⟨rfl,hb2⟩;have g2:G w w2:=g1.trans hb2;obtain⟨hc2,hf2⟩:=hb2.rules
 have hz2:w.heap.size+2<w2.heap.size:=by have:=hb2.size;omega
 have hz2a:w.heap.size<w2.heap.size:=by omega
 have hz2b:w.heap.size+1<w2.heap.size:=by omega
 go_wp2_with fail
 refine(H3.out _).mono ?_;rintro e w3 ⟨rfl,hb3⟩;have g3:G w w3:=g2.trans hb3;obtain⟨hc3,hf3⟩:=hb3.rules
 go_wp2
 exact bodyPost_ret (v:=.tuple #[V rk ra rb rs,.int .i64 c]) (by simp[results,results17,go_sem,hc1,hc2,hc3,hz1,hz2]) rfl ⟨rfl,by
  repeat(first|exact g3|refine G.alloc ?_ _|refine G.setCell ?_ (by simp;try omega) _)⟩
theorem rB_4(rk ra rb:Int)(rs:ByteArray)(c:Int)(k a b k' a' b':Int)(s s':ByteArray)(z:(k==0)=false)(z':(k'==0)=false)(h1:∀w,CG 26 #[V k a b s] w (.bool true))(h2:∀w,CG 26 #[V k' a' b' s'] w (.bool true))(h3:∀w,CG 47 #[.int .i64 4,V k a b s,V k' a' b' s'] w (.tuple #[V rk ra rb rs,.int .i64 c]))(w:World):CG 17 #[.int .i64 4,V k a b s,V k' a' b' s'] w (.tuple #[V rk ra rb rs,.int .i64 c]):=by
 have H1:Hid _:=h1;have H2:Hid _:=h2;have H3:Hid _:=h3;clear h1 h2 h3
 go_enter func17,ntmps17
 go_wp2_with fail
 refine(H1.out _).mono ?_;rintro e w1 ⟨rfl,hb1⟩;have g1:G w w1:=((((G.refl w).alloc _).alloc _).alloc _).trans hb1;obtain⟨hc1,hf1⟩:=hb1.rules
 have hz1:w.heap.size+2<w1.heap.size:=by have:=hb1.size;simp at this;omega
 have hz1a:w.heap.size<w1.heap.size:=by omega
 have hz1b:w.heap.size+1<w1.heap.size:=by omega
 go_wp2_with fail
 refine(H2.out _).mono ?_;rintro e w2 ⟨rfl,hb2⟩;have g2:G w w2:=g1.trans hb2;obtain⟨hc2,hf2⟩:=hb2.rules
 have hz2:w.heap.size+2<w2.heap.size:=by have:=hb2.size;omega
 have hz2a:w.heap.size<w2.heap.size:=by omega
 have hz2b:w.heap.size+1<w2.heap.size:=by omega
 go_wp2_with fail
 refine(H3.out _).mono ?_;rintro e w3 ⟨rfl,hb3⟩;have g3:G w w3:=g2.trans hb3;obtain⟨hc3,hf3⟩:=hb3.rules
 go_wp2
 exact bodyPost_ret (v:=.tuple #[V rk ra rb rs,.int .i64 c]) (by simp[results,results17,go_sem,hc1,hc2,hc3,hz1,hz2]) rfl ⟨rfl,by
  repeat(first|exact g3|refine G.alloc ?_ _|refine G.setCell ?_ (by simp;try omega) _)⟩
theorem rB_5(rk ra rb:Int)(rs:ByteArray)(c:Int)(k a b k' a' b':Int)(s s':ByteArray)(z:(k==0)=false)(z':(k'==0)=false)(h1:∀w,CG 26 #[V k a b s] w (.bool true))(h2:∀w,CG 26 #[V k' a' b' s'] w (.bool true))(h3:∀w,CG 47 #[.int .i64 5,V k a b s,V k' a' b' s'] w (.tuple #[V rk ra rb rs,.int .i64 c]))(w:World):CG 17 #[.int .i64 5,V k a b s,V k' a' b' s'] w (.tuple #[V rk ra rb rs,.int .i64 c]):=by
 have H1:Hid _:=h1;have H2:Hid _:=h2;have H3:Hid _:=h3;clear h1 h2 h3
 go_enter func17,ntmps17
 go_wp2_with fail
 refine(H1.out _).mono ?_;rintro e w1 ⟨rfl,hb1⟩;have g1:G w w1:=((((G.refl w).alloc _).alloc _).alloc _).trans hb1;obtain⟨hc1,hf1⟩:=hb1.rules
 have hz1:w.heap.size+2<w1.heap.size:=by have:=hb1.size;simp at this;omega
 have hz1a:w.heap.size<w1.heap.size:=by omega
 have hz1b:w.heap.size+1<w1.heap.size:=by omega
 go_wp2_with fail
 refine(H2.out _).mono ?_;rintro e w2 ⟨rfl,hb2⟩;have g2:G w w2:=g1.trans hb2;obtain⟨hc2,hf2⟩:=hb2.rules
 have hz2:w.heap.size+2<w2.heap.size:=by have:=hb2.size;omega
 have hz2a:w.heap.size<w2.heap.size:=by omega
 have hz2b:w.heap.size+1<w2.heap.size:=by omega
 go_wp2_with fail
 refine(H3.out _).mono ?_;rintro e w3 ⟨rfl,hb3⟩;have g3:G w w3:=g2.trans hb3;obtain⟨hc3,hf3⟩:=hb3.rules
 go_wp2
 exact bodyPost_ret (v:=.tuple #[V rk ra rb rs,.int .i64 c]) (by simp[results,results17,go_sem,hc1,hc2,hc3,hz1,hz2]) rfl ⟨rfl,by
  repeat(first|exact g3|refine G.alloc ?_ _|refine G.setCell ?_ (by simp;try omega) _)⟩
end
end Go.Proofs.YthmdjhfbhbheeaaGreatDoor
