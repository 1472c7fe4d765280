import Derived.Test.YthmdjhfbhbheeaaGreatDoorBinE
namespace Go.Proofs.YthmdjhfbhbheeaaGreatDoor
open Go.Proofs.Tryz
set_option maxHeartbeats 1000000
set_option maxRecDepth 100000
section
open Go.RowKit Go.Lib Go.Shelf
theorem rtruth_q(q:Bool)(w:World):Calls prog 36 #[.bool q] w fun e w'=>e=.returned (V 1 (tI q) 0 E0)∧G w w':=by
 cases q
 ·exact rtruth_no w
 ·exact rtruth_yes w
theorem rlog_no1(op:Int)(k a b k' a' b':Int)(s s':ByteArray)(h:1<k)(w:World):Calls prog 42 #[.int .i64 op,V k a b s,V k' a' b' s'] w fun e w'=>e=.returned (.tuple #[V0,.int .i64 10])∧G w w':=by
 go_enter func42,ntmps42
 go_wp2
 exact bodyPost_ret (v:=.tuple #[V0,.int .i64 10]) (by simp[results,results42,go_sem]) rfl ⟨rfl,by
  repeat(first|exact G.refl _|refine G.alloc ?_ _|refine G.setCell ?_ (by simp;try omega) _)⟩
theorem rlog_no2(op:Int)(k a b k' a' b':Int)(s s':ByteArray)(h0:k≤1)(h:1<k')(w:World):Calls prog 42 #[.int .i64 op,V k a b s,V k' a' b' s'] w fun e w'=>e=.returned (.tuple #[V0,.int .i64 10])∧G w w':=by
 go_enter func42,ntmps42
 go_wp2
 exact bodyPost_ret (v:=.tuple #[V0,.int .i64 10]) (by simp[results,results42,go_sem]) rfl ⟨rfl,by
  repeat(first|exact G.refl _|refine G.alloc ?_ _|refine G.setCell ?_ (by simp;try omega) _)⟩
theorem rlog_12_00(w:World):Calls prog 42 #[.int .i64 12,V 1 0 0 E0,V 1 0 0 E0] w fun e w'=>e=.returned (.tuple #[V 1 0 0 E0,.int .i64 0])∧G w w':=by
 go_enter func42,ntmps42
 go_wp2_with fail
 refine(rtruth_no _).mono ?_
 rintro e w1 ⟨rfl,hb1⟩
 have g1:G w w1:=((((G.refl w).alloc _).alloc _).alloc _).trans hb1
 obtain⟨hc1,hf1⟩:=hb1.rules
 go_wp2
 exact bodyPost_ret (v:=.tuple #[V 1 0 0 E0,.int .i64 0]) (by simp[results,results42,go_sem,hc1]) rfl ⟨rfl,by
  repeat(first|exact g1|refine G.alloc ?_ _|refine G.setCell ?_ (by simp;try omega) _)⟩
theorem rlog_12_01(w:World):Calls prog 42 #[.int .i64 12,V 1 0 0 E0,V 1 1 0 E0] w fun e w'=>e=.returned (.tuple #[V 1 0 0 E0,.int .i64 0])∧G w w':=by
 go_enter func42,ntmps42
 go_wp2_with fail
 refine(rtruth_no _).mono ?_
 rintro e w1 ⟨rfl,hb1⟩
 have g1:G w w1:=((((G.refl w).alloc _).alloc _).alloc _).trans hb1
 obtain⟨hc1,hf1⟩:=hb1.rules
 go_wp2
 exact bodyPost_ret (v:=.tuple #[V 1 0 0 E0,.int .i64 0]) (by simp[results,results42,go_sem,hc1]) rfl ⟨rfl,by
  repeat(first|exact g1|refine G.alloc ?_ _|refine G.setCell ?_ (by simp;try omega) _)⟩
theorem rlog_12_02(w:World):Calls prog 42 #[.int .i64 12,V 1 0 0 E0,V 0 0 0 E0] w fun e w'=>e=.returned (.tuple #[V 1 0 0 E0,.int .i64 0])∧G w w':=by
 go_enter func42,ntmps42
 go_wp2_with fail
 refine(rtruth_no _).mono ?_
 rintro e w1 ⟨rfl,hb1⟩
 have g1:G w w1:=((((G.refl w).alloc _).alloc _).alloc _).trans hb1
 obtain⟨hc1,hf1⟩:=hb1.rules
 go_wp2
 exact bodyPost_ret (v:=.tuple #[V 1 0 0 E0,.int .i64 0]) (by simp[results,results42,go_sem,hc1]) rfl ⟨rfl,by
  repeat(first|exact g1|refine G.alloc ?_ _|refine G.setCell ?_ (by simp;try omega) _)⟩
theorem rlog_12_10(w:World):Calls prog 42 #[.int .i64 12,V 1 1 0 E0,V 1 0 0 E0] w fun e w'=>e=.returned (.tuple #[V 1 0 0 E0,.int .i64 0])∧G w w':=by
 go_enter func42,ntmps42
 go_wp2_with fail
 refine(rtruth_no _).mono ?_
 rintro e w1 ⟨rfl,hb1⟩
 have g1:G w w1:=((((G.refl w).alloc _).alloc _).alloc _).trans hb1
 obtain⟨hc1,hf1⟩:=hb1.rules
 go_wp2
 exact bodyPost_ret (v:=.tuple #[V 1 0 0 E0,.int .i64 0]) (by simp[results,results42,go_sem,hc1]) rfl ⟨rfl,by
  repeat(first|exact g1|refine G.alloc ?_ _|refine G.setCell ?_ (by simp;try omega) _)⟩
theorem rlog_12_11(w:World):Calls prog 42 #[.int .i64 12,V 1 1 0 E0,V 1 1 0 E0] w fun e w'=>e=.returned (.tuple #[V 1 1 0 E0,.int .i64 0])∧G w w':=by
 go_enter func42,ntmps42
 go_wp2_with fail
 refine(rtruth_yes _).mono ?_
 rintro e w1 ⟨rfl,hb1⟩
 have g1:G w w1:=((((G.refl w).alloc _).alloc _).alloc _).trans hb1
 obtain⟨hc1,hf1⟩:=hb1.rules
 go_wp2
 exact bodyPost_ret (v:=.tuple #[V 1 1 0 E0,.int .i64 0]) (by simp[results,results42,go_sem,hc1]) rfl ⟨rfl,by
  repeat(first|exact g1|refine G.alloc ?_ _|refine G.setCell ?_ (by simp;try omega) _)⟩
theorem rlog_12_12(w:World):Calls prog 42 #[.int .i64 12,V 1 1 0 E0,V 0 0 0 E0] w fun e w'=>e=.returned (.tuple #[V 0 0 0 E0,.int .i64 0])∧G w w':=by
 go_enter func42,ntmps42
 go_wp2
 exact bodyPost_ret (v:=.tuple #[V 0 0 0 E0,.int .i64 0]) (by simp[results,results42,go_sem]) rfl ⟨rfl,by
  repeat(first|exact G.refl _|refine G.alloc ?_ _|refine G.setCell ?_ (by simp;try omega) _)⟩
theorem rlog_12_20(w:World):Calls prog 42 #[.int .i64 12,V 0 0 0 E0,V 1 0 0 E0] w fun e w'=>e=.returned (.tuple #[V 1 0 0 E0,.int .i64 0])∧G w w':=by
 go_enter func42,ntmps42
 go_wp2_with fail
 refine(rtruth_no _).mono ?_
 rintro e w1 ⟨rfl,hb1⟩
 have g1:G w w1:=((((G.refl w).alloc _).alloc _).alloc _).trans hb1
 obtain⟨hc1,hf1⟩:=hb1.rules
 go_wp2
 exact bodyPost_ret (v:=.tuple #[V 1 0 0 E0,.int .i64 0]) (by simp[results,results42,go_sem,hc1]) rfl ⟨rfl,by
  repeat(first|exact g1|refine G.alloc ?_ _|refine G.setCell ?_ (by simp;try omega) _)⟩
theorem rlog_12_21(w:World):Calls prog 42 #[.int .i64 12,V 0 0 0 E0,V 1 1 0 E0] w fun e w'=>e=.returned (.tuple #[V 0 0 0 E0,.int .i64 0])∧G w w':=by
 go_enter func42,ntmps42
 go_wp2
 exact bodyPost_ret (v:=.tuple #[V 0 0 0 E0,.int .i64 0]) (by simp[results,results42,go_sem]) rfl ⟨rfl,by
  repeat(first|exact G.refl _|refine G.alloc ?_ _|refine G.setCell ?_ (by simp;try omega) _)⟩
theorem rlog_12_22(w:World):Calls prog 42 #[.int .i64 12,V 0 0 0 E0,V 0 0 0 E0] w fun e w'=>e=.returned (.tuple #[V 0 0 0 E0,.int .i64 0])∧G w w':=by
 go_enter func42,ntmps42
 go_wp2
 exact bodyPost_ret (v:=.tuple #[V 0 0 0 E0,.int .i64 0]) (by simp[results,results42,go_sem]) rfl ⟨rfl,by
  repeat(first|exact G.refl _|refine G.alloc ?_ _|refine G.setCell ?_ (by simp;try omega) _)⟩
theorem rlog_13_00(w:World):Calls prog 42 #[.int .i64 13,V 1 0 0 E0,V 1 0 0 E0] w fun e w'=>e=.returned (.tuple #[V 1 0 0 E0,.int .i64 0])∧G w w':=by
 go_enter func42,ntmps42
 go_wp2_with fail
 refine(rtruth_no _).mono ?_
 rintro e w1 ⟨rfl,hb1⟩
 have g1:G w w1:=((((G.refl w).alloc _).alloc _).alloc _).trans hb1
 obtain⟨hc1,hf1⟩:=hb1.rules
 go_wp2
 exact bodyPost_ret (v:=.tuple #[V 1 0 0 E0,.int .i64 0]) (by simp[results,results42,go_sem,hc1]) rfl ⟨rfl,by
  repeat(first|exact g1|refine G.alloc ?_ _|refine G.setCell ?_ (by simp;try omega) _)⟩
theorem rlog_13_01(w:World):Calls prog 42 #[.int .i64 13,V 1 0 0 E0,V 1 1 0 E0] w fun e w'=>e=.returned (.tuple #[V 1 1 0 E0,.int .i64 0])∧G w w':=by
 go_enter func42,ntmps42
 go_wp2_with fail
 refine(rtruth_yes _).mono ?_
 rintro e w1 ⟨rfl,hb1⟩
 have g1:G w w1:=((((G.refl w).alloc _).alloc _).alloc _).trans hb1
 obtain⟨hc1,hf1⟩:=hb1.rules
 go_wp2
 exact bodyPost_ret (v:=.tuple #[V 1 1 0 E0,.int .i64 0]) (by simp[results,results42,go_sem,hc1]) rfl ⟨rfl,by
  repeat(first|exact g1|refine G.alloc ?_ _|refine G.setCell ?_ (by simp;try omega) _)⟩
theorem rlog_13_02(w:World):Calls prog 42 #[.int .i64 13,V 1 0 0 E0,V 0 0 0 E0] w fun e w'=>e=.returned (.tuple #[V 0 0 0 E0,.int .i64 0])∧G w w':=by
 go_enter func42,ntmps42
 go_wp2
 exact bodyPost_ret (v:=.tuple #[V 0 0 0 E0,.int .i64 0]) (by simp[results,results42,go_sem]) rfl ⟨rfl,by
  repeat(first|exact G.refl _|refine G.alloc ?_ _|refine G.setCell ?_ (by simp;try omega) _)⟩
theorem rlog_13_10(w:World):Calls prog 42 #[.int .i64 13,V 1 1 0 E0,V 1 0 0 E0] w fun e w'=>e=.returned (.tuple #[V 1 1 0 E0,.int .i64 0])∧G w w':=by
 go_enter func42,ntmps42
 go_wp2_with fail
 refine(rtruth_yes _).mono ?_
 rintro e w1 ⟨rfl,hb1⟩
 have g1:G w w1:=((((G.refl w).alloc _).alloc _).alloc _).trans hb1
 obtain⟨hc1,hf1⟩:=hb1.rules
 go_wp2
 exact bodyPost_ret (v:=.tuple #[V 1 1 0 E0,.int .i64 0]) (by simp[results,results42,go_sem,hc1]) rfl ⟨rfl,by
  repeat(first|exact g1|refine G.alloc ?_ _|refine G.setCell ?_ (by simp;try omega) _)⟩
theorem rlog_13_11(w:World):Calls prog 42 #[.int .i64 13,V 1 1 0 E0,V 1 1 0 E0] w fun e w'=>e=.returned (.tuple #[V 1 1 0 E0,.int .i64 0])∧G w w':=by
 go_enter func42,ntmps42
 go_wp2_with fail
 refine(rtruth_yes _).mono ?_
 rintro e w1 ⟨rfl,hb1⟩
 have g1:G w w1:=((((G.refl w).alloc _).alloc _).alloc _).trans hb1
 obtain⟨hc1,hf1⟩:=hb1.rules
 go_wp2
 exact bodyPost_ret (v:=.tuple #[V 1 1 0 E0,.int .i64 0]) (by simp[results,results42,go_sem,hc1]) rfl ⟨rfl,by
  repeat(first|exact g1|refine G.alloc ?_ _|refine G.setCell ?_ (by simp;try omega) _)⟩
theorem rlog_13_12(w:World):Calls prog 42 #[.int .i64 13,V 1 1 0 E0,V 0 0 0 E0] w fun e w'=>e=.returned (.tuple #[V 1 1 0 E0,.int .i64 0])∧G w w':=by
 go_enter func42,ntmps42
 go_wp2_with fail
 refine(rtruth_yes _).mono ?_
 rintro e w1 ⟨rfl,hb1⟩
 have g1:G w w1:=((((G.refl w).alloc _).alloc _).alloc _).trans hb1
 obtain⟨hc1,hf1⟩:=hb1.rules
 go_wp2
 exact bodyPost_ret (v:=.tuple #[V 1 1 0 E0,.int .i64 0]) (by simp[results,results42,go_sem,hc1]) rfl ⟨rfl,by
  repeat(first|exact g1|refine G.alloc ?_ _|refine G.setCell ?_ (by simp;try omega) _)⟩
theorem rlog_13_20(w:World):Calls prog 42 #[.int .i64 13,V 0 0 0 E0,V 1 0 0 E0] w fun e w'=>e=.returned (.tuple #[V 0 0 0 E0,.int .i64 0])∧G w w':=by
 go_enter func42,ntmps42
 go_wp2
 exact bodyPost_ret (v:=.tuple #[V 0 0 0 E0,.int .i64 0]) (by simp[results,results42,go_sem]) rfl ⟨rfl,by
  repeat(first|exact G.refl _|refine G.alloc ?_ _|refine G.setCell ?_ (by simp;try omega) _)⟩
theorem rlog_13_21(w:World):Calls prog 42 #[.int .i64 13,V 0 0 0 E0,V 1 1 0 E0] w fun e w'=>e=.returned (.tuple #[V 1 1 0 E0,.int .i64 0])∧G w w':=by
 go_enter func42,ntmps42
 go_wp2_with fail
 refine(rtruth_yes _).mono ?_
 rintro e w1 ⟨rfl,hb1⟩
 have g1:G w w1:=((((G.refl w).alloc _).alloc _).alloc _).trans hb1
 obtain⟨hc1,hf1⟩:=hb1.rules
 go_wp2
 exact bodyPost_ret (v:=.tuple #[V 1 1 0 E0,.int .i64 0]) (by simp[results,results42,go_sem,hc1]) rfl ⟨rfl,by
  repeat(first|exact g1|refine G.alloc ?_ _|refine G.setCell ?_ (by simp;try omega) _)⟩
theorem rlog_13_22(w:World):Calls prog 42 #[.int .i64 13,V 0 0 0 E0,V 0 0 0 E0] w fun e w'=>e=.returned (.tuple #[V 0 0 0 E0,.int .i64 0])∧G w w':=by
 go_enter func42,ntmps42
 go_wp2
 exact bodyPost_ret (v:=.tuple #[V 0 0 0 E0,.int .i64 0]) (by simp[results,results42,go_sem]) rfl ⟨rfl,by
  repeat(first|exact G.refl _|refine G.alloc ?_ _|refine G.setCell ?_ (by simp;try omega) _)⟩
theorem rlog_14_00(w:World):Calls prog 42 #[.int .i64 14,V 1 0 0 E0,V 1 0 0 E0] w fun e w'=>e=.returned (.tuple #[V 1 0 0 E0,.int .i64 0])∧G w w':=by
 go_enter func42,ntmps42
 go_wp2_with fail
 refine(rtruth_no _).mono ?_
 rintro e w1 ⟨rfl,hb1⟩
 have g1:G w w1:=((((G.refl w).alloc _).alloc _).alloc _).trans hb1
 obtain⟨hc1,hf1⟩:=hb1.rules
 go_wp2
 exact bodyPost_ret (v:=.tuple #[V 1 0 0 E0,.int .i64 0]) (by simp[results,results42,go_sem,hc1]) rfl ⟨rfl,by
  repeat(first|exact g1|refine G.alloc ?_ _|refine G.setCell ?_ (by simp;try omega) _)⟩
theorem rlog_14_01(w:World):Calls prog 42 #[.int .i64 14,V 1 0 0 E0,V 1 1 0 E0] w fun e w'=>e=.returned (.tuple #[V 1 1 0 E0,.int .i64 0])∧G w w':=by
 go_enter func42,ntmps42
 go_wp2_with fail
 refine(rtruth_yes _).mono ?_
 rintro e w1 ⟨rfl,hb1⟩
 have g1:G w w1:=((((G.refl w).alloc _).alloc _).alloc _).trans hb1
 obtain⟨hc1,hf1⟩:=hb1.rules
 go_wp2
 exact bodyPost_ret (v:=.tuple #[V 1 1 0 E0,.int .i64 0]) (by simp[results,results42,go_sem,hc1]) rfl ⟨rfl,by
  repeat(first|exact g1|refine G.alloc ?_ _|refine G.setCell ?_ (by simp;try omega) _)⟩
theorem rlog_14_02(w:World):Calls prog 42 #[.int .i64 14,V 1 0 0 E0,V 0 0 0 E0] w fun e w'=>e=.returned (.tuple #[V 0 0 0 E0,.int .i64 0])∧G w w':=by
 go_enter func42,ntmps42
 go_wp2
 exact bodyPost_ret (v:=.tuple #[V 0 0 0 E0,.int .i64 0]) (by simp[results,results42,go_sem]) rfl ⟨rfl,by
  repeat(first|exact G.refl _|refine G.alloc ?_ _|refine G.setCell ?_ (by simp;try omega) _)⟩
theorem rlog_14_10(w:World):Calls prog 42 #[.int .i64 14,V 1 1 0 E0,V 1 0 0 E0] w fun e w'=>e=.returned (.tuple #[V 1 1 0 E0,.int .i64 0])∧G w w':=by
 go_enter func42,ntmps42
 go_wp2_with fail
 refine(rtruth_yes _).mono ?_
 rintro e w1 ⟨rfl,hb1⟩
 have g1:G w w1:=((((G.refl w).alloc _).alloc _).alloc _).trans hb1
 obtain⟨hc1,hf1⟩:=hb1.rules
 go_wp2
 exact bodyPost_ret (v:=.tuple #[V 1 1 0 E0,.int .i64 0]) (by simp[results,results42,go_sem,hc1]) rfl ⟨rfl,by
  repeat(first|exact g1|refine G.alloc ?_ _|refine G.setCell ?_ (by simp;try omega) _)⟩
theorem rlog_14_11(w:World):Calls prog 42 #[.int .i64 14,V 1 1 0 E0,V 1 1 0 E0] w fun e w'=>e=.returned (.tuple #[V 1 0 0 E0,.int .i64 0])∧G w w':=by
 go_enter func42,ntmps42
 go_wp2_with fail
 refine(rtruth_no _).mono ?_
 rintro e w1 ⟨rfl,hb1⟩
 have g1:G w w1:=((((G.refl w).alloc _).alloc _).alloc _).trans hb1
 obtain⟨hc1,hf1⟩:=hb1.rules
 go_wp2
 exact bodyPost_ret (v:=.tuple #[V 1 0 0 E0,.int .i64 0]) (by simp[results,results42,go_sem,hc1]) rfl ⟨rfl,by
  repeat(first|exact g1|refine G.alloc ?_ _|refine G.setCell ?_ (by simp;try omega) _)⟩
theorem rlog_14_12(w:World):Calls prog 42 #[.int .i64 14,V 1 1 0 E0,V 0 0 0 E0] w fun e w'=>e=.returned (.tuple #[V 0 0 0 E0,.int .i64 0])∧G w w':=by
 go_enter func42,ntmps42
 go_wp2
 exact bodyPost_ret (v:=.tuple #[V 0 0 0 E0,.int .i64 0]) (by simp[results,results42,go_sem]) rfl ⟨rfl,by
  repeat(first|exact G.refl _|refine G.alloc ?_ _|refine G.setCell ?_ (by simp;try omega) _)⟩
theorem rlog_14_20(w:World):Calls prog 42 #[.int .i64 14,V 0 0 0 E0,V 1 0 0 E0] w fun e w'=>e=.returned (.tuple #[V 0 0 0 E0,.int .i64 0])∧G w w':=by
 go_enter func42,ntmps42
 go_wp2
 exact bodyPost_ret (v:=.tuple #[V 0 0 0 E0,.int .i64 0]) (by simp[results,results42,go_sem]) rfl ⟨rfl,by
  repeat(first|exact G.refl _|refine G.alloc ?_ _|refine G.setCell ?_ (by simp;try omega) _)⟩
theorem rlog_14_21(w:World):Calls prog 42 #[.int .i64 14,V 0 0 0 E0,V 1 1 0 E0] w fun e w'=>e=.returned (.tuple #[V 0 0 0 E0,.int .i64 0])∧G w w':=by
 go_enter func42,ntmps42
 go_wp2
 exact bodyPost_ret (v:=.tuple #[V 0 0 0 E0,.int .i64 0]) (by simp[results,results42,go_sem]) rfl ⟨rfl,by
  repeat(first|exact G.refl _|refine G.alloc ?_ _|refine G.setCell ?_ (by simp;try omega) _)⟩
theorem rlog_14_22(w:World):Calls prog 42 #[.int .i64 14,V 0 0 0 E0,V 0 0 0 E0] w fun e w'=>e=.returned (.tuple #[V 0 0 0 E0,.int .i64 0])∧G w w':=by
 go_enter func42,ntmps42
 go_wp2
 exact bodyPost_ret (v:=.tuple #[V 0 0 0 E0,.int .i64 0]) (by simp[results,results42,go_sem]) rfl ⟨rfl,by
  repeat(first|exact G.refl _|refine G.alloc ?_ _|refine G.setCell ?_ (by simp;try omega) _)⟩
theorem requal_same(k a b k' a' b':Int)(s s':ByteArray)(hk:k=k')(w:World):Calls prog 43 #[V k a b s,V k' a' b' s'] w fun e w'=>e=.returned (Value.bool ((a==a')&&(b==b')&&(s.toList==s'.toList)))∧G w w':=by
 subst hk
 by_cases ha:a=a'
 ·subst ha
  by_cases hb:b=b'
  ·subst hb
   generalize hq:(a==a&&b==b&&s.toList==s'.toList)=q
   have hq':(s.toList==s'.toList)=q:=by rw[←hq];simp
   clear hq
   go_enter func43,ntmps43
   go_wp2
   go_ret
   exact⟨rfl,((G.refl _).alloc _).alloc _⟩
  ·have hb':(b==b')=false:=by simpa using hb
   rw[hb',Bool.and_false,Bool.false_and]
   clear hb
   go_enter func43,ntmps43
   go_wp2
   go_ret
   exact⟨rfl,((G.refl _).alloc _).alloc _⟩
 ·have ha':(a==a')=false:=by simpa using ha
  rw[ha',Bool.false_and,Bool.false_and]
  clear ha
  go_enter func43,ntmps43
  go_wp2
  go_ret
  exact⟨rfl,((G.refl _).alloc _).alloc _⟩
theorem requal_wc(a b a' b':Int)(s s':ByteArray)(w:World):Calls prog 43 #[V 2 a b s,V 3 a' b' s'] w fun e w'=>e=.returned (Value.bool ((a==a')&&(b==0)&&(b'==0)))∧G w w':=by
 by_cases ha:a=a'
 ·subst ha
  by_cases hb:b=0
  ·subst hb
   generalize hq:(a==a&&(0:Int)==0&&b'==0)=q
   have hq':(b'==0)=q:=by rw[←hq];simp
   clear hq
   go_enter func43,ntmps43
   go_wp2
   go_ret
   exact⟨rfl,((G.refl _).alloc _).alloc _⟩
  ·have hb':(b==0)=false:=by simpa using hb
   rw[hb',Bool.and_false,Bool.false_and]
   clear hb
   go_enter func43,ntmps43
   go_wp2
   go_ret
   exact⟨rfl,((G.refl _).alloc _).alloc _⟩
 ·have ha':(a==a')=false:=by simpa using ha
  rw[ha',Bool.false_and,Bool.false_and]
  clear ha
  go_enter func43,ntmps43
  go_wp2
  go_ret
  exact⟨rfl,((G.refl _).alloc _).alloc _⟩
theorem requal_cw(a b a' b':Int)(s s':ByteArray)(w:World):Calls prog 43 #[V 3 a b s,V 2 a' b' s'] w fun e w'=>e=.returned (Value.bool ((a==a')&&(b==0)&&(b'==0)))∧G w w':=by
 by_cases ha:a=a'
 ·subst ha
  by_cases hb:b=0
  ·subst hb
   generalize hq:(a==a&&(0:Int)==0&&b'==0)=q
   have hq':(b'==0)=q:=by rw[←hq];simp
   clear hq
   go_enter func43,ntmps43
   go_wp2
   go_ret
   exact⟨rfl,((G.refl _).alloc _).alloc _⟩
  ·have hb':(b==0)=false:=by simpa using hb
   rw[hb',Bool.and_false,Bool.false_and]
   clear hb
   go_enter func43,ntmps43
   go_wp2
   go_ret
   exact⟨rfl,((G.refl _).alloc _).alloc _⟩
 ·have ha':(a==a')=false:=by simpa using ha
  rw[ha',Bool.false_and,Bool.false_and]
  clear ha
  go_enter func43,ntmps43
  go_wp2
  go_ret
  exact⟨rfl,((G.refl _).alloc _).alloc _⟩
theorem requal_n1(k a b k' a' b':Int)(s s':ByteArray)(hk:(k==k')=false)(h2:(k==2)=false)(h3:(k==3)=false)(w:World):Calls prog 43 #[V k a b s,V k' a' b' s'] w fun e w'=>e=.returned (Value.bool false)∧G w w':=by
 go_enter func43,ntmps43
 go_wp2
 go_ret
 exact⟨rfl,((G.refl _).alloc _).alloc _⟩
theorem requal_n2(k a b k' a' b':Int)(s s':ByteArray)(hk:(k==k')=false)(h2:k=2)(h3:(k'==3)=false)(w:World):Calls prog 43 #[V k a b s,V k' a' b' s'] w fun e w'=>e=.returned (Value.bool false)∧G w w':=by
 subst h2
 go_enter func43,ntmps43
 go_wp2
 go_ret
 exact⟨rfl,((G.refl _).alloc _).alloc _⟩
theorem requal_n3(k a b k' a' b':Int)(s s':ByteArray)(hk:(k==k')=false)(h2:k=3)(h3:(k'==2)=false)(w:World):Calls prog 43 #[V k a b s,V k' a' b' s'] w fun e w'=>e=.returned (Value.bool false)∧G w w':=by
 subst h2
 go_enter func43,ntmps43
 go_wp2
 go_ret
 exact⟨rfl,((G.refl _).alloc _).alloc _⟩
theorem rord_8_1(c:Int)(a b a' b':Int)(s s':ByteArray)(h:∀w,Calls prog 50 #[.int .i64 a,.int .i64 a'] w fun e w'=>e=.returned (.int .i64 c)∧w'=w)(w:World):Calls prog 44 #[.int .i64 8,V 1 a b s,V 1 a' b' s'] w fun e w'=>e=.returned (.tuple #[V 1 (tI (decide (c<0))) 0 E0,.int .i64 0])∧G w w':=by
 have H:Hid _:=h
 clear h
 go_enter func44,ntmps44
 go_wp2_with fail
 refine(H.out _).mono ?_
 rintro e wx ⟨rfl,rfl⟩
 go_wp2_with fail
 refine(rtruth_q _ _).mono ?_
 rintro e w1 ⟨rfl,hb1⟩
 have g1:G w w1:=((((G.refl w).alloc _).alloc _).alloc _).trans hb1
 obtain⟨hc1,hf1⟩:=hb1.rules
 go_wp2
 exact bodyPost_ret (v:=.tuple #[V 1 (tI (decide (c<0))) 0 E0,.int .i64 0]) (by simp[results,results44,go_sem,hc1]) rfl ⟨rfl,by
  repeat(first|exact g1|refine G.alloc ?_ _|refine G.setCell ?_ (by simp;try omega) _)⟩
theorem rord_8_2(c:Int)(a b a' b':Int)(s s':ByteArray)(h:∀w,Calls prog 50 #[.int .i64 a,.int .i64 a'] w fun e w'=>e=.returned (.int .i64 c)∧w'=w)(w:World):Calls prog 44 #[.int .i64 8,V 2 a b s,V 2 a' b' s'] w fun e w'=>e=.returned (.tuple #[V 1 (tI (decide (c<0))) 0 E0,.int .i64 0])∧G w w':=by
 have H:Hid _:=h
 clear h
 go_enter func44,ntmps44
 go_wp2_with fail
 refine(H.out _).mono ?_
 rintro e wx ⟨rfl,rfl⟩
 go_wp2_with fail
 refine(rtruth_q _ _).mono ?_
 rintro e w1 ⟨rfl,hb1⟩
 have g1:G w w1:=((((G.refl w).alloc _).alloc _).alloc _).trans hb1
 obtain⟨hc1,hf1⟩:=hb1.rules
 go_wp2
 exact bodyPost_ret (v:=.tuple #[V 1 (tI (decide (c<0))) 0 E0,.int .i64 0]) (by simp[results,results44,go_sem,hc1]) rfl ⟨rfl,by
  repeat(first|exact g1|refine G.alloc ?_ _|refine G.setCell ?_ (by simp;try omega) _)⟩
theorem rord_8_4(c:Int)(a b a' b':Int)(s s':ByteArray)(h:∀w,Calls prog 52 #[.string s,.string s'] w fun e w'=>e=.returned (.int .i64 c)∧G w w')(w:World):Calls prog 44 #[.int .i64 8,V 4 a b s,V 4 a' b' s'] w fun e w'=>e=.returned (.tuple #[V 1 (tI (decide (c<0))) 0 E0,.int .i64 0])∧G w w':=by
 have H:Hid _:=h
 clear h
 go_enter func44,ntmps44
 go_wp2_with fail
 refine(H.out _).mono ?_
 rintro e w1 ⟨rfl,hb1⟩
 have g1:G w w1:=((((G.refl w).alloc _).alloc _).alloc _).trans hb1
 obtain⟨hc1,hf1⟩:=hb1.rules
 have hz1:w.heap.size+2<w1.heap.size:=by have:=hb1.size;simp at this;omega
 have hz1a:w.heap.size<w1.heap.size:=by omega
 have hz1b:w.heap.size+1<w1.heap.size:=by omega
 go_wp2_with fail
 refine(rtruth_q _ _).mono ?_
 rintro e w2 ⟨rfl,hb2⟩
 have g2:G w w2:=g1.trans hb2
 obtain⟨hc2,hf2⟩:=hb2.rules
 go_wp2
 exact bodyPost_ret (v:=.tuple #[V 1 (tI (decide (c<0))) 0 E0,.int .i64 0]) (by simp[results,results44,go_sem,hc1,hc2,hz1]) rfl ⟨rfl,by
  repeat(first|exact g2|refine G.alloc ?_ _|refine G.setCell ?_ (by simp;try omega) _)⟩
theorem rord_9_1(c:Int)(a b a' b':Int)(s s':ByteArray)(h:∀w,Calls prog 50 #[.int .i64 a,.int .i64 a'] w fun e w'=>e=.returned (.int .i64 c)∧w'=w)(w:World):Calls prog 44 #[.int .i64 9,V 1 a b s,V 1 a' b' s'] w fun e w'=>e=.returned (.tuple #[V 1 (tI (decide (c≤0))) 0 E0,.int .i64 0])∧G w w':=by
 have H:Hid _:=h
 clear h
 go_enter func44,ntmps44
 go_wp2_with fail
 refine(H.out _).mono ?_
 rintro e wx ⟨rfl,rfl⟩
 go_wp2_with fail
 refine(rtruth_q _ _).mono ?_
 rintro e w1 ⟨rfl,hb1⟩
 have g1:G w w1:=((((G.refl w).alloc _).alloc _).alloc _).trans hb1
 obtain⟨hc1,hf1⟩:=hb1.rules
 go_wp2
 exact bodyPost_ret (v:=.tuple #[V 1 (tI (decide (c≤0))) 0 E0,.int .i64 0]) (by simp[results,results44,go_sem,hc1]) rfl ⟨rfl,by
  repeat(first|exact g1|refine G.alloc ?_ _|refine G.setCell ?_ (by simp;try omega) _)⟩
theorem rord_9_2(c:Int)(a b a' b':Int)(s s':ByteArray)(h:∀w,Calls prog 50 #[.int .i64 a,.int .i64 a'] w fun e w'=>e=.returned (.int .i64 c)∧w'=w)(w:World):Calls prog 44 #[.int .i64 9,V 2 a b s,V 2 a' b' s'] w fun e w'=>e=.returned (.tuple #[V 1 (tI (decide (c≤0))) 0 E0,.int .i64 0])∧G w w':=by
 have H:Hid _:=h
 clear h
 go_enter func44,ntmps44
 go_wp2_with fail
 refine(H.out _).mono ?_
 rintro e wx ⟨rfl,rfl⟩
 go_wp2_with fail
 refine(rtruth_q _ _).mono ?_
 rintro e w1 ⟨rfl,hb1⟩
 have g1:G w w1:=((((G.refl w).alloc _).alloc _).alloc _).trans hb1
 obtain⟨hc1,hf1⟩:=hb1.rules
 go_wp2
 exact bodyPost_ret (v:=.tuple #[V 1 (tI (decide (c≤0))) 0 E0,.int .i64 0]) (by simp[results,results44,go_sem,hc1]) rfl ⟨rfl,by
  repeat(first|exact g1|refine G.alloc ?_ _|refine G.setCell ?_ (by simp;try omega) _)⟩
theorem rord_9_4(c:Int)(a b a' b':Int)(s s':ByteArray)(h:∀w,Calls prog 52 #[.string s,.string s'] w fun e w'=>e=.returned (.int .i64 c)∧G w w')(w:World):Calls prog 44 #[.int .i64 9,V 4 a b s,V 4 a' b' s'] w fun e w'=>e=.returned (.tuple #[V 1 (tI (decide (c≤0))) 0 E0,.int .i64 0])∧G w w':=by
 have H:Hid _:=h
 clear h
 go_enter func44,ntmps44
 go_wp2_with fail
 refine(H.out _).mono ?_
 rintro e w1 ⟨rfl,hb1⟩
 have g1:G w w1:=((((G.refl w).alloc _).alloc _).alloc _).trans hb1
 obtain⟨hc1,hf1⟩:=hb1.rules
 have hz1:w.heap.size+2<w1.heap.size:=by have:=hb1.size;simp at this;omega
 have hz1a:w.heap.size<w1.heap.size:=by omega
 have hz1b:w.heap.size+1<w1.heap.size:=by omega
 go_wp2_with fail
 refine(rtruth_q _ _).mono ?_
 rintro e w2 ⟨rfl,hb2⟩
 have g2:G w w2:=g1.trans hb2
 obtain⟨hc2,hf2⟩:=hb2.rules
 go_wp2
 exact bodyPost_ret (v:=.tuple #[V 1 (tI (decide (c≤0))) 0 E0,.int .i64 0]) (by simp[results,results44,go_sem,hc1,hc2,hz1]) rfl ⟨rfl,by
  repeat(first|exact g2|refine G.alloc ?_ _|refine G.setCell ?_ (by simp;try omega) _)⟩
theorem rord_10_1(c:Int)(a b a' b':Int)(s s':ByteArray)(h:∀w,Calls prog 50 #[.int .i64 a,.int .i64 a'] w fun e w'=>e=.returned (.int .i64 c)∧w'=w)(w:World):Calls prog 44 #[.int .i64 10,V 1 a b s,V 1 a' b' s'] w fun e w'=>e=.returned (.tuple #[V 1 (tI (decide (0<c))) 0 E0,.int .i64 0])∧G w w':=by
 have H:Hid _:=h
 clear h
 go_enter func44,ntmps44
 go_wp2_with fail
 refine(H.out _).mono ?_
 rintro e wx ⟨rfl,rfl⟩
 go_wp2_with fail
 refine(rtruth_q _ _).mono ?_
 rintro e w1 ⟨rfl,hb1⟩
 have g1:G w w1:=((((G.refl w).alloc _).alloc _).alloc _).trans hb1
 obtain⟨hc1,hf1⟩:=hb1.rules
 go_wp2
 exact bodyPost_ret (v:=.tuple #[V 1 (tI (decide (0<c))) 0 E0,.int .i64 0]) (by simp[results,results44,go_sem,hc1]) rfl ⟨rfl,by
  repeat(first|exact g1|refine G.alloc ?_ _|refine G.setCell ?_ (by simp;try omega) _)⟩
theorem rord_10_2(c:Int)(a b a' b':Int)(s s':ByteArray)(h:∀w,Calls prog 50 #[.int .i64 a,.int .i64 a'] w fun e w'=>e=.returned (.int .i64 c)∧w'=w)(w:World):Calls prog 44 #[.int .i64 10,V 2 a b s,V 2 a' b' s'] w fun e w'=>e=.returned (.tuple #[V 1 (tI (decide (0<c))) 0 E0,.int .i64 0])∧G w w':=by
 have H:Hid _:=h
 clear h
 go_enter func44,ntmps44
 go_wp2_with fail
 refine(H.out _).mono ?_
 rintro e wx ⟨rfl,rfl⟩
 go_wp2_with fail
 refine(rtruth_q _ _).mono ?_
 rintro e w1 ⟨rfl,hb1⟩
 have g1:G w w1:=((((G.refl w).alloc _).alloc _).alloc _).trans hb1
 obtain⟨hc1,hf1⟩:=hb1.rules
 go_wp2
 exact bodyPost_ret (v:=.tuple #[V 1 (tI (decide (0<c))) 0 E0,.int .i64 0]) (by simp[results,results44,go_sem,hc1]) rfl ⟨rfl,by
  repeat(first|exact g1|refine G.alloc ?_ _|refine G.setCell ?_ (by simp;try omega) _)⟩
theorem rord_10_4(c:Int)(a b a' b':Int)(s s':ByteArray)(h:∀w,Calls prog 52 #[.string s,.string s'] w fun e w'=>e=.returned (.int .i64 c)∧G w w')(w:World):Calls prog 44 #[.int .i64 10,V 4 a b s,V 4 a' b' s'] w fun e w'=>e=.returned (.tuple #[V 1 (tI (decide (0<c))) 0 E0,.int .i64 0])∧G w w':=by
 have H:Hid _:=h
 clear h
 go_enter func44,ntmps44
 go_wp2_with fail
 refine(H.out _).mono ?_
 rintro e w1 ⟨rfl,hb1⟩
 have g1:G w w1:=((((G.refl w).alloc _).alloc _).alloc _).trans hb1
 obtain⟨hc1,hf1⟩:=hb1.rules
 have hz1:w.heap.size+2<w1.heap.size:=by have:=hb1.size;simp at this;omega
 have hz1a:w.heap.size<w1.heap.size:=by omega
 have hz1b:w.heap.size+1<w1.heap.size:=by omega
 go_wp2_with fail
 refine(rtruth_q _ _).mono ?_
 rintro e w2 ⟨rfl,hb2⟩
 have g2:G w w2:=g1.trans hb2
 obtain⟨hc2,hf2⟩:=hb2.rules
 go_wp2
 exact bodyPost_ret (v:=.tuple #[V 1 (tI (decide (0<c))) 0 E0,.int .i64 0]) (by simp[results,results44,go_sem,hc1,hc2,hz1]) rfl ⟨rfl,by
  repeat(first|exact g2|refine G.alloc ?_ _|refine G.setCell ?_ (by simp;try omega) _)⟩
theorem rord_11_1(c:Int)(a b a' b':Int)(s s':ByteArray)(h:∀w,Calls prog 50 #[.int .i64 a,.int .i64 a'] w fun e w'=>e=.returned (.int .i64 c)∧w'=w)(w:World):Calls prog 44 #[.int .i64 11,V 1 a b s,V 1 a' b' s'] w fun e w'=>e=.returned (.tuple #[V 1 (tI (decide (0≤c))) 0 E0,.int .i64 0])∧G w w':=by
 have H:Hid _:=h
 clear h
 go_enter func44,ntmps44
 go_wp2_with fail
 refine(H.out _).mono ?_
 rintro e wx ⟨rfl,rfl⟩
 go_wp2_with fail
 refine(rtruth_q _ _).mono ?_
 rintro e w1 ⟨rfl,hb1⟩
 have g1:G w w1:=((((G.refl w).alloc _).alloc _).alloc _).trans hb1
 obtain⟨hc1,hf1⟩:=hb1.rules
 go_wp2
 exact bodyPost_ret (v:=.tuple #[V 1 (tI (decide (0≤c))) 0 E0,.int .i64 0]) (by simp[results,results44,go_sem,hc1]) rfl ⟨rfl,by
  repeat(first|exact g1|refine G.alloc ?_ _|refine G.setCell ?_ (by simp;try omega) _)⟩
theorem rord_11_2(c:Int)(a b a' b':Int)(s s':ByteArray)(h:∀w,Calls prog 50 #[.int .i64 a,.int .i64 a'] w fun e w'=>e=.returned (.int .i64 c)∧w'=w)(w:World):Calls prog 44 #[.int .i64 11,V 2 a b s,V 2 a' b' s'] w fun e w'=>e=.returned (.tuple #[V 1 (tI (decide (0≤c))) 0 E0,.int .i64 0])∧G w w':=by
 have H:Hid _:=h
 clear h
 go_enter func44,ntmps44
 go_wp2_with fail
 refine(H.out _).mono ?_
 rintro e wx ⟨rfl,rfl⟩
 go_wp2_with fail
 refine(rtruth_q _ _).mono ?_
 rintro e w1 ⟨rfl,hb1⟩
 have g1:G w w1:=((((G.refl w).alloc _).alloc _).alloc _).trans hb1
 obtain⟨hc1,hf1⟩:=hb1.rules
 go_wp2
 exact bodyPost_ret (v:=.tuple #[V 1 (tI (decide (0≤c))) 0 E0,.int .i64 0]) (by simp[results,results44,go_sem,hc1]) rfl ⟨rfl,by
  repeat(first|exact g1|refine G.alloc ?_ _|refine G.setCell ?_ (by simp;try omega) _)⟩
theorem rord_11_4(c:Int)(a b a' b':Int)(s s':ByteArray)(h:∀w,Calls prog 52 #[.string s,.string s'] w fun e w'=>e=.returned (.int .i64 c)∧G w w')(w:World):Calls prog 44 #[.int .i64 11,V 4 a b s,V 4 a' b' s'] w fun e w'=>e=.returned (.tuple #[V 1 (tI (decide (0≤c))) 0 E0,.int .i64 0])∧G w w':=by
 have H:Hid _:=h
 clear h
 go_enter func44,ntmps44
 go_wp2_with fail
 refine(H.out _).mono ?_
 rintro e w1 ⟨rfl,hb1⟩
 have g1:G w w1:=((((G.refl w).alloc _).alloc _).alloc _).trans hb1
 obtain⟨hc1,hf1⟩:=hb1.rules
 have hz1:w.heap.size+2<w1.heap.size:=by have:=hb1.size;simp at this;omega
 have hz1a:w.heap.size<w1.heap.size:=by omega
 have hz1b:w.heap.size+1<w1.heap.size:=by omega
 go_wp2_with fail
 refine(rtruth_q _ _).mono ?_
 rintro e w2 ⟨rfl,hb2⟩
 have g2:G w w2:=g1.trans hb2
 obtain⟨hc2,hf2⟩:=hb2.rules
 go_wp2
 exact bodyPost_ret (v:=.tuple #[V 1 (tI (decide (0≤c))) 0 E0,.int .i64 0]) (by simp[results,results44,go_sem,hc1,hc2,hz1]) rfl ⟨rfl,by
  repeat(first|exact g2|refine G.alloc ?_ _|refine G.setCell ?_ (by simp;try omega) _)⟩
theorem rord_no(op:Int)(k a b k' a' b':Int)(s s':ByteArray)(h:(k==k')=false)(w:World):Calls prog 44 #[.int .i64 op,V k a b s,V k' a' b' s'] w fun e w'=>e=.returned (.tuple #[V0,.int .i64 0])∧G w w':=by
 have h':(k != k')=true:=by rw[bne,h];rfl
 go_enter func44,ntmps44
 go_wp2
 exact bodyPost_ret (v:=.tuple #[V0,.int .i64 0]) (by simp[results,results44,go_sem]) rfl ⟨rfl,by
  repeat(first|exact G.refl _|refine G.alloc ?_ _|refine G.setCell ?_ (by simp;try omega) _)⟩
theorem rord_no2(op k a b a' b':Int)(s s':ByteArray)(h1:(k==1)=false)(h2:(k==2)=false)(h4:(k==4)=false)(w:World):Calls prog 44 #[.int .i64 op,V k a b s,V k a' b' s'] w fun e w'=>e=.returned (.tuple #[V0,.int .i64 0])∧G w w':=by
 go_enter func44,ntmps44
 go_wp2
 exact bodyPost_ret (v:=.tuple #[V0,.int .i64 0]) (by simp[results,results44,go_sem]) rfl ⟨rfl,by
  repeat(first|exact G.refl _|refine G.alloc ?_ _|refine G.setCell ?_ (by simp;try omega) _)⟩
theorem rtog_no1(k a b k' a' b':Int)(s s':ByteArray)(h:(k==2)=false)(w:World):Calls prog 46 #[V k a b s,V k' a' b' s'] w fun e w'=>e=.returned (.tuple #[V0,.int .i64 10])∧G w w':=by
 have h':(k != 2)=true:=by rw[bne,h];rfl
 go_enter func46,ntmps46
 go_wp2
 exact bodyPost_ret (v:=.tuple #[V0,.int .i64 10]) (by simp[results,results46,go_sem]) rfl ⟨rfl,by
  repeat(first|exact G.refl _|refine G.alloc ?_ _|refine G.setCell ?_ (by simp;try omega) _)⟩
theorem rtog_no2(a b k' a' b':Int)(s s':ByteArray)(h:(k'==2)=false)(w:World):Calls prog 46 #[V 2 a b s,V k' a' b' s'] w fun e w'=>e=.returned (.tuple #[V0,.int .i64 10])∧G w w':=by
 have h':(k' != 2)=true:=by rw[bne,h];rfl
 go_enter func46,ntmps46
 go_wp2
 exact bodyPost_ret (v:=.tuple #[V0,.int .i64 10]) (by simp[results,results46,go_sem]) rfl ⟨rfl,by
  repeat(first|exact G.refl _|refine G.alloc ?_ _|refine G.setCell ?_ (by simp;try omega) _)⟩
theorem rtog_r1(a b a' b':Int)(s s':ByteArray)(h1:∀w,Calls prog 73 #[.int .i64 a] w fun e w'=>e=.returned (.bool false)∧w'=w)(w:World):Calls prog 46 #[V 2 a b s,V 2 a' b' s'] w fun e w'=>e=.returned (.tuple #[V0,.int .i64 11])∧G w w':=by
 have H1:Hid _:=h1
 clear h1
 go_enter func46,ntmps46
 go_wp2_with fail
 refine(H1.out _).mono ?_
 rintro e wx ⟨rfl,rfl⟩
 go_wp2
 exact bodyPost_ret (v:=.tuple #[V0,.int .i64 11]) (by simp[results,results46,go_sem]) rfl ⟨rfl,by
  repeat(first|exact G.refl _|refine G.alloc ?_ _|refine G.setCell ?_ (by simp;try omega) _)⟩
theorem rtog_r2(a b a' b':Int)(s s':ByteArray)(h1:∀w,Calls prog 73 #[.int .i64 a] w fun e w'=>e=.returned (.bool true)∧w'=w)(h2:∀w,Calls prog 73 #[.int .i64 a'] w fun e w'=>e=.returned (.bool false)∧w'=w)(w:World):Calls prog 46 #[V 2 a b s,V 2 a' b' s'] w fun e w'=>e=.returned (.tuple #[V0,.int .i64 11])∧G w w':=by
 have H1:Hid _:=h1
 have H2:Hid _:=h2
 clear h1 h2
 go_enter func46,ntmps46
 go_wp2_with fail
 refine(H1.out _).mono ?_
 rintro e wx ⟨rfl,rfl⟩
 go_wp2_with fail
 refine(H2.out _).mono ?_
 rintro e wx ⟨rfl,rfl⟩
 go_wp2
 exact bodyPost_ret (v:=.tuple #[V0,.int .i64 11]) (by simp[results,results46,go_sem]) rfl ⟨rfl,by
  repeat(first|exact G.refl _|refine G.alloc ?_ _|refine G.setCell ?_ (by simp;try omega) _)⟩
theorem rtog_ok(a b a' b':Int)(s s':ByteArray)(h1:∀w,Calls prog 73 #[.int .i64 a] w fun e w'=>e=.returned (.bool true)∧w'=w)(h2:∀w,Calls prog 73 #[.int .i64 a'] w fun e w'=>e=.returned (.bool true)∧w'=w)(w:World):Calls prog 46 #[V 2 a b s,V 2 a' b' s'] w fun e w'=>e=.returned (.tuple #[V 3 a a' E0,.int .i64 0])∧G w w':=by
 have H1:Hid _:=h1
 have H2:Hid _:=h2
 clear h1 h2
 go_enter func46,ntmps46
 go_wp2_with fail
 refine(H1.out _).mono ?_
 rintro e wx ⟨rfl,rfl⟩
 go_wp2_with fail
 refine(H2.out _).mono ?_
 rintro e wx ⟨rfl,rfl⟩
 go_wp2_with fail
 refine(rpair a a' _).mono ?_
 rintro e w1 ⟨rfl,hb1⟩
 have g1:G w w1:=((((G.refl w).alloc _).alloc _).alloc _).trans hb1
 obtain⟨hc1,hf1⟩:=hb1.rules
 go_wp2
 exact bodyPost_ret (v:=.tuple #[V 3 a a' E0,.int .i64 0]) (by simp[results,results46,go_sem,hc1]) rfl ⟨rfl,by
  repeat(first|exact g1|refine G.alloc ?_ _|refine G.setCell ?_ (by simp;try omega) _)⟩
end
section
open Go.RowKit Go.Lib Go.Shelf
theorem rB_arg(op:Int)(k a b k' a' b':Int)(s s':ByteArray)(ho:op<1∨18<op)(w:World):Calls prog 17 #[.int .i64 op,V k a b s,V k' a' b' s'] w fun e w'=>e=.returned (.tuple #[V0,.int .i64 1])∧G w w':=by
 by_cases h:op<1
 ·clear ho
  go_enter func17,ntmps17
  go_wp2
  exact bodyPost_ret (v:=.tuple #[V0,.int .i64 1]) (by simp[results,results17,go_sem]) rfl ⟨rfl,by
   repeat(first|exact G.refl _|refine G.alloc ?_ _|refine G.setCell ?_ (by simp;try omega) _)⟩
 ·have h':18<op:=by omega
  clear ho
  go_enter func17,ntmps17
  go_wp2
  exact bodyPost_ret (v:=.tuple #[V0,.int .i64 1]) (by simp[results,results17,go_sem]) rfl ⟨rfl,by
   repeat(first|exact G.refl _|refine G.alloc ?_ _|refine G.setCell ?_ (by simp;try omega) _)⟩
theorem rB_bad1(op:Int)(ho:1≤op)(ho':op≤18)(k a b k' a' b':Int)(s s':ByteArray)(h1:∀w,Calls prog 26 #[V k a b s] w fun e w'=>e=.returned (.bool false)∧G w w')(w:World):Calls prog 17 #[.int .i64 op,V k a b s,V k' a' b' s'] w fun e w'=>e=.returned (.tuple #[V0,.int .i64 16])∧G w w':=by
 have H1:Hid _:=h1
 clear h1
 go_enter func17,ntmps17
 go_wp2_with fail
 refine(H1.out _).mono ?_
 rintro e w1 ⟨rfl,hb1⟩
 have g1:G w w1:=((((G.refl w).alloc _).alloc _).alloc _).trans hb1
 obtain⟨hc1,hf1⟩:=hb1.rules
 go_wp2
 exact bodyPost_ret (v:=.tuple #[V0,.int .i64 16]) (by simp[results,results17,go_sem,hc1]) rfl ⟨rfl,by
  repeat(first|exact g1|refine G.alloc ?_ _|refine G.setCell ?_ (by simp;try omega) _)⟩
theorem rB_bad2(op:Int)(ho:1≤op)(ho':op≤18)(k a b k' a' b':Int)(s s':ByteArray)(h1:∀w,Calls prog 26 #[V k a b s] w fun e w'=>e=.returned (.bool true)∧G w w')(h2:∀w,Calls prog 26 #[V k' a' b' s'] w fun e w'=>e=.returned (.bool false)∧G w w')(w:World):Calls prog 17 #[.int .i64 op,V k a b s,V k' a' b' s'] w fun e w'=>e=.returned (.tuple #[V0,.int .i64 16])∧G w w':=by
 have H1:Hid _:=h1
 have H2:Hid _:=h2
 clear h1 h2
 go_enter func17,ntmps17
 go_wp2_with fail
 refine(H1.out _).mono ?_
 rintro e w1 ⟨rfl,hb1⟩
 have g1:G w w1:=((((G.refl w).alloc _).alloc _).alloc _).trans hb1
 obtain⟨hc1,hf1⟩:=hb1.rules
 have hz1:w.heap.size+2<w1.heap.size:=by have:=hb1.size;simp at this;omega
 have hz1a:w.heap.size<w1.heap.size:=by omega
 have hz1b:w.heap.size+1<w1.heap.size:=by omega
 go_wp2_with fail
 refine(H2.out _).mono ?_
 rintro e w2 ⟨rfl,hb2⟩
 have g2:G w w2:=g1.trans hb2
 obtain⟨hc2,hf2⟩:=hb2.rules
 go_wp2
 exact bodyPost_ret (v:=.tuple #[V0,.int .i64 16]) (by simp[results,results17,go_sem,hc1,hc2,hz1]) rfl ⟨rfl,by
  repeat(first|exact g2|refine G.alloc ?_ _|refine G.setCell ?_ (by simp;try omega) _)⟩
theorem rB_12(rk ra rb:Int)(rs:ByteArray)(c:Int)(k a b k' a' b':Int)(s s':ByteArray)(h1:∀w,Calls prog 26 #[V k a b s] w fun e w'=>e=.returned (.bool true)∧G w w')(h2:∀w,Calls prog 26 #[V k' a' b' s'] w fun e w'=>e=.returned (.bool true)∧G w w')(h3:∀w,Calls prog 42 #[.int .i64 12,V k a b s,V k' a' b' s'] w fun e w'=>e=.returned (.tuple #[V rk ra rb rs,.int .i64 c])∧G w w')(w:World):Calls prog 17 #[.int .i64 12,V k a b s,V k' a' b' s'] w fun e w'=>e=.returned (.tuple #[V rk ra rb rs,.int .i64 c])∧G w w':=by
 have H1:Hid _:=h1
 have H2:Hid _:=h2
 have H3:Hid _:=h3
 clear h1 h2 h3
 go_enter func17,ntmps17
 go_wp2_with fail
 refine(H1.out _).mono ?_
 rintro e w1 ⟨rfl,hb1⟩
 have g1:G w w1:=((((G.refl w).alloc _).alloc _).alloc _).trans hb1
 obtain⟨hc1,hf1⟩:=hb1.rules
 have hz1:w.heap.size+2<w1.heap.size:=by have:=hb1.size;simp at this;omega
 have hz1a:w.heap.size<w1.heap.size:=by omega
 have hz1b:w.heap.size+1<w1.heap.size:=by omega
 go_wp2_with fail
 refine(H2.out _).mono ?_
 rintro e w2 ⟨rfl,hb2⟩
 have g2:G w w2:=g1.trans hb2
 obtain⟨hc2,hf2⟩:=hb2.rules
 have hz2:w.heap.size+2<w2.heap.size:=by have:=hb2.size;omega
 have hz2a:w.heap.size<w2.heap.size:=by omega
 have hz2b:w.heap.size+1<w2.heap.size:=by omega
 go_wp2_with fail
 refine(H3.out _).mono ?_
 rintro e w3 ⟨rfl,hb3⟩
 have g3:G w w3:=g2.trans hb3
 obtain⟨hc3,hf3⟩:=hb3.rules
 go_wp2
 exact bodyPost_ret (v:=.tuple #[V rk ra rb rs,.int .i64 c]) (by simp[results,results17,go_sem,hc1,hc2,hc3,hz1,hz2]) rfl ⟨rfl,by
  repeat(first|exact g3|refine G.alloc ?_ _|refine G.setCell ?_ (by simp;try omega) _)⟩
theorem rB_13(rk ra rb:Int)(rs:ByteArray)(c:Int)(k a b k' a' b':Int)(s s':ByteArray)(h1:∀w,Calls prog 26 #[V k a b s] w fun e w'=>e=.returned (.bool true)∧G w w')(h2:∀w,Calls prog 26 #[V k' a' b' s'] w fun e w'=>e=.returned (.bool true)∧G w w')(h3:∀w,Calls prog 42 #[.int .i64 13,V k a b s,V k' a' b' s'] w fun e w'=>e=.returned (.tuple #[V rk ra rb rs,.int .i64 c])∧G w w')(w:World):Calls prog 17 #[.int .i64 13,V k a b s,V k' a' b' s'] w fun e w'=>e=.returned (.tuple #[V rk ra rb rs,.int .i64 c])∧G w w':=by
 have H1:Hid _:=h1
 have H2:Hid _:=h2
 have H3:Hid _:=h3
 clear h1 h2 h3
 go_enter func17,ntmps17
 go_wp2_with fail
 refine(H1.out _).mono ?_
 rintro e w1 ⟨rfl,hb1⟩
 have g1:G w w1:=((((G.refl w).alloc _).alloc _).alloc _).trans hb1
 obtain⟨hc1,hf1⟩:=hb1.rules
 have hz1:w.heap.size+2<w1.heap.size:=by have:=hb1.size;simp at this;omega
 have hz1a:w.heap.size<w1.heap.size:=by omega
 have hz1b:w.heap.size+1<w1.heap.size:=by omega
 go_wp2_with fail
 refine(H2.out _).mono ?_
 rintro e w2 ⟨rfl,hb2⟩
 have g2:G w w2:=g1.trans hb2
 obtain⟨hc2,hf2⟩:=hb2.rules
 have hz2:w.heap.size+2<w2.heap.size:=by have:=hb2.size;omega
 have hz2a:w.heap.size<w2.heap.size:=by omega
 have hz2b:w.heap.size+1<w2.heap.size:=by omega
 go_wp2_with fail
 refine(H3.out _).mono ?_
 rintro e w3 ⟨rfl,hb3⟩
 have g3:G w w3:=g2.trans hb3
 obtain⟨hc3,hf3⟩:=hb3.rules
 go_wp2
 exact bodyPost_ret (v:=.tuple #[V rk ra rb rs,.int .i64 c]) (by simp[results,results17,go_sem,hc1,hc2,hc3,hz1,hz2]) rfl ⟨rfl,by
  repeat(first|exact g3|refine G.alloc ?_ _|refine G.setCell ?_ (by simp;try omega) _)⟩
theorem rB_14(rk ra rb:Int)(rs:ByteArray)(c:Int)(k a b k' a' b':Int)(s s':ByteArray)(h1:∀w,Calls prog 26 #[V k a b s] w fun e w'=>e=.returned (.bool true)∧G w w')(h2:∀w,Calls prog 26 #[V k' a' b' s'] w fun e w'=>e=.returned (.bool true)∧G w w')(h3:∀w,Calls prog 42 #[.int .i64 14,V k a b s,V k' a' b' s'] w fun e w'=>e=.returned (.tuple #[V rk ra rb rs,.int .i64 c])∧G w w')(w:World):Calls prog 17 #[.int .i64 14,V k a b s,V k' a' b' s'] w fun e w'=>e=.returned (.tuple #[V rk ra rb rs,.int .i64 c])∧G w w':=by
 have H1:Hid _:=h1
 have H2:Hid _:=h2
 have H3:Hid _:=h3
 clear h1 h2 h3
 go_enter func17,ntmps17
 go_wp2_with fail
 refine(H1.out _).mono ?_
 rintro e w1 ⟨rfl,hb1⟩
 have g1:G w w1:=((((G.refl w).alloc _).alloc _).alloc _).trans hb1
 obtain⟨hc1,hf1⟩:=hb1.rules
 have hz1:w.heap.size+2<w1.heap.size:=by have:=hb1.size;simp at this;omega
 have hz1a:w.heap.size<w1.heap.size:=by omega
 have hz1b:w.heap.size+1<w1.heap.size:=by omega
 go_wp2_with fail
 refine(H2.out _).mono ?_
 rintro e w2 ⟨rfl,hb2⟩
 have g2:G w w2:=g1.trans hb2
 obtain⟨hc2,hf2⟩:=hb2.rules
 have hz2:w.heap.size+2<w2.heap.size:=by have:=hb2.size;omega
 have hz2a:w.heap.size<w2.heap.size:=by omega
 have hz2b:w.heap.size+1<w2.heap.size:=by omega
 go_wp2_with fail
 refine(H3.out _).mono ?_
 rintro e w3 ⟨rfl,hb3⟩
 have g3:G w w3:=g2.trans hb3
 obtain⟨hc3,hf3⟩:=hb3.rules
 go_wp2
 exact bodyPost_ret (v:=.tuple #[V rk ra rb rs,.int .i64 c]) (by simp[results,results17,go_sem,hc1,hc2,hc3,hz1,hz2]) rfl ⟨rfl,by
  repeat(first|exact g3|refine G.alloc ?_ _|refine G.setCell ?_ (by simp;try omega) _)⟩
theorem rB_null1(op:Int)(ho:1≤op)(ho':op≤18)(n12:(op==12)=false)(n13:(op==13)=false)(n14:(op==14)=false)(a b k' a' b':Int)(s s':ByteArray)(h1:∀w,Calls prog 26 #[V 0 a b s] w fun e w'=>e=.returned (.bool true)∧G w w')(h2:∀w,Calls prog 26 #[V k' a' b' s'] w fun e w'=>e=.returned (.bool true)∧G w w')(w:World):Calls prog 17 #[.int .i64 op,V 0 a b s,V k' a' b' s'] w fun e w'=>e=.returned (.tuple #[V0,.int .i64 0])∧G w w':=by
 have H1:Hid _:=h1
 have H2:Hid _:=h2
 clear h1 h2
 go_enter func17,ntmps17
 go_wp2_with fail
 refine(H1.out _).mono ?_
 rintro e w1 ⟨rfl,hb1⟩
 have g1:G w w1:=((((G.refl w).alloc _).alloc _).alloc _).trans hb1
 obtain⟨hc1,hf1⟩:=hb1.rules
 have hz1:w.heap.size+2<w1.heap.size:=by have:=hb1.size;simp at this;omega
 have hz1a:w.heap.size<w1.heap.size:=by omega
 have hz1b:w.heap.size+1<w1.heap.size:=by omega
 go_wp2_with fail
 refine(H2.out _).mono ?_
 rintro e w2 ⟨rfl,hb2⟩
 have g2:G w w2:=g1.trans hb2
 obtain⟨hc2,hf2⟩:=hb2.rules
 go_wp2
 exact bodyPost_ret (v:=.tuple #[V0,.int .i64 0]) (by simp[results,results17,go_sem,hc1,hc2,hz1]) rfl ⟨rfl,by
  repeat(first|exact g2|refine G.alloc ?_ _|refine G.setCell ?_ (by simp;try omega) _)⟩
theorem rB_null2(op:Int)(ho:1≤op)(ho':op≤18)(n12:(op==12)=false)(n13:(op==13)=false)(n14:(op==14)=false)(k a b a' b':Int)(s s':ByteArray)(z:(k==0)=false)(h1:∀w,Calls prog 26 #[V k a b s] w fun e w'=>e=.returned (.bool true)∧G w w')(h2:∀w,Calls prog 26 #[V 0 a' b' s'] w fun e w'=>e=.returned (.bool true)∧G w w')(w:World):Calls prog 17 #[.int .i64 op,V k a b s,V 0 a' b' s'] w fun e w'=>e=.returned (.tuple #[V0,.int .i64 0])∧G w w':=by
 have H1:Hid _:=h1
 have H2:Hid _:=h2
 clear h1 h2
 go_enter func17,ntmps17
 go_wp2_with fail
 refine(H1.out _).mono ?_
 rintro e w1 ⟨rfl,hb1⟩
 have g1:G w w1:=((((G.refl w).alloc _).alloc _).alloc _).trans hb1
 obtain⟨hc1,hf1⟩:=hb1.rules
 have hz1:w.heap.size+2<w1.heap.size:=by have:=hb1.size;simp at this;omega
 have hz1a:w.heap.size<w1.heap.size:=by omega
 have hz1b:w.heap.size+1<w1.heap.size:=by omega
 go_wp2_with fail
 refine(H2.out _).mono ?_
 rintro e w2 ⟨rfl,hb2⟩
 have g2:G w w2:=g1.trans hb2
 obtain⟨hc2,hf2⟩:=hb2.rules
 go_wp2
 exact bodyPost_ret (v:=.tuple #[V0,.int .i64 0]) (by simp[results,results17,go_sem,hc1,hc2,hz1]) rfl ⟨rfl,by
  repeat(first|exact g2|refine G.alloc ?_ _|refine G.setCell ?_ (by simp;try omega) _)⟩
theorem rB_6(q:Bool)(k a b k' a' b':Int)(s s':ByteArray)(z:(k==0)=false)(z':(k'==0)=false)(h1:∀w,Calls prog 26 #[V k a b s] w fun e w'=>e=.returned (.bool true)∧G w w')(h2:∀w,Calls prog 26 #[V k' a' b' s'] w fun e w'=>e=.returned (.bool true)∧G w w')(h3:∀w,Calls prog 43 #[V k a b s,V k' a' b' s'] w fun e w'=>e=.returned (.bool q)∧G w w')(w:World):Calls prog 17 #[.int .i64 6,V k a b s,V k' a' b' s'] w fun e w'=>e=.returned (.tuple #[V 1 (tI q) 0 E0,.int .i64 0])∧G w w':=by
 have H1:Hid _:=h1
 have H2:Hid _:=h2
 have H3:Hid _:=h3
 clear h1 h2 h3
 go_enter func17,ntmps17
 go_wp2_with fail
 refine(H1.out _).mono ?_
 rintro e w1 ⟨rfl,hb1⟩
 have g1:G w w1:=((((G.refl w).alloc _).alloc _).alloc _).trans hb1
 obtain⟨hc1,hf1⟩:=hb1.rules
 have hz1:w.heap.size+2<w1.heap.size:=by have:=hb1.size;simp at this;omega
 have hz1a:w.heap.size<w1.heap.size:=by omega
 have hz1b:w.heap.size+1<w1.heap.size:=by omega
 go_wp2_with fail
 refine(H2.out _).mono ?_
 rintro e w2 ⟨rfl,hb2⟩
 have g2:G w w2:=g1.trans hb2
 obtain⟨hc2,hf2⟩:=hb2.rules
 have hz2:w.heap.size+2<w2.heap.size:=by have:=hb2.size;omega
 have hz2a:w.heap.size<w2.heap.size:=by omega
 have hz2b:w.heap.size+1<w2.heap.size:=by omega
 go_wp2_with fail
 refine(H3.out _).mono ?_
 rintro e w3 ⟨rfl,hb3⟩
 have g3:G w w3:=g2.trans hb3
 obtain⟨hc3,hf3⟩:=hb3.rules
 have hz3:w.heap.size+2<w3.heap.size:=by have:=hb3.size;omega
 have hz3a:w.heap.size<w3.heap.size:=by omega
 have hz3b:w.heap.size+1<w3.heap.size:=by omega
 go_wp2_with fail
 refine(rtruth_q q _).mono ?_
 rintro e w4 ⟨rfl,hb4⟩
 have g4:G w w4:=g3.trans hb4
 obtain⟨hc4,hf4⟩:=hb4.rules
 go_wp2
 exact bodyPost_ret (v:=.tuple #[V 1 (tI q) 0 E0,.int .i64 0]) (by simp[results,results17,go_sem,hc1,hc2,hc3,hc4,hz1,hz2,hz3]) rfl ⟨rfl,by
  repeat(first|exact g4|refine G.alloc ?_ _|refine G.setCell ?_ (by simp;try omega) _)⟩
theorem rB_7(q:Bool)(k a b k' a' b':Int)(s s':ByteArray)(z:(k==0)=false)(z':(k'==0)=false)(h1:∀w,Calls prog 26 #[V k a b s] w fun e w'=>e=.returned (.bool true)∧G w w')(h2:∀w,Calls prog 26 #[V k' a' b' s'] w fun e w'=>e=.returned (.bool true)∧G w w')(h3:∀w,Calls prog 43 #[V k a b s,V k' a' b' s'] w fun e w'=>e=.returned (.bool q)∧G w w')(w:World):Calls prog 17 #[.int .i64 7,V k a b s,V k' a' b' s'] w fun e w'=>e=.returned (.tuple #[V 1 (tI (!q)) 0 E0,.int .i64 0])∧G w w':=by
 have H1:Hid _:=h1
 have H2:Hid _:=h2
 have H3:Hid _:=h3
 clear h1 h2 h3
 go_enter func17,ntmps17
 go_wp2_with fail
 refine(H1.out _).mono ?_
 rintro e w1 ⟨rfl,hb1⟩
 have g1:G w w1:=((((G.refl w).alloc _).alloc _).alloc _).trans hb1
 obtain⟨hc1,hf1⟩:=hb1.rules
 have hz1:w.heap.size+2<w1.heap.size:=by have:=hb1.size;simp at this;omega
 have hz1a:w.heap.size<w1.heap.size:=by omega
 have hz1b:w.heap.size+1<w1.heap.size:=by omega
 go_wp2_with fail
 refine(H2.out _).mono ?_
 rintro e w2 ⟨rfl,hb2⟩
 have g2:G w w2:=g1.trans hb2
 obtain⟨hc2,hf2⟩:=hb2.rules
 have hz2:w.heap.size+2<w2.heap.size:=by have:=hb2.size;omega
 have hz2a:w.heap.size<w2.heap.size:=by omega
 have hz2b:w.heap.size+1<w2.heap.size:=by omega
 go_wp2_with fail
 refine(H3.out _).mono ?_
 rintro e w3 ⟨rfl,hb3⟩
 have g3:G w w3:=g2.trans hb3
 obtain⟨hc3,hf3⟩:=hb3.rules
 have hz3:w.heap.size+2<w3.heap.size:=by have:=hb3.size;omega
 have hz3a:w.heap.size<w3.heap.size:=by omega
 have hz3b:w.heap.size+1<w3.heap.size:=by omega
 go_wp2_with fail
 refine(rtruth_q (!q) _).mono ?_
 rintro e w4 ⟨rfl,hb4⟩
 have g4:G w w4:=g3.trans hb4
 obtain⟨hc4,hf4⟩:=hb4.rules
 go_wp2
 exact bodyPost_ret (v:=.tuple #[V 1 (tI (!q)) 0 E0,.int .i64 0]) (by simp[results,results17,go_sem,hc1,hc2,hc3,hc4,hz1,hz2,hz3]) rfl ⟨rfl,by
  repeat(first|exact g4|refine G.alloc ?_ _|refine G.setCell ?_ (by simp;try omega) _)⟩
theorem rB_8(rk ra rb:Int)(rs:ByteArray)(c:Int)(k a b k' a' b':Int)(s s':ByteArray)(z:(k==0)=false)(z':(k'==0)=false)(h1:∀w,Calls prog 26 #[V k a b s] w fun e w'=>e=.returned (.bool true)∧G w w')(h2:∀w,Calls prog 26 #[V k' a' b' s'] w fun e w'=>e=.returned (.bool true)∧G w w')(h3:∀w,Calls prog 44 #[.int .i64 8,V k a b s,V k' a' b' s'] w fun e w'=>e=.returned (.tuple #[V rk ra rb rs,.int .i64 c])∧G w w')(w:World):Calls prog 17 #[.int .i64 8,V k a b s,V k' a' b' s'] w fun e w'=>e=.returned (.tuple #[V rk ra rb rs,.int .i64 c])∧G w w':=by
 have H1:Hid _:=h1
 have H2:Hid _:=h2
 have H3:Hid _:=h3
 clear h1 h2 h3
 go_enter func17,ntmps17
 go_wp2_with fail
 refine(H1.out _).mono ?_
 rintro e w1 ⟨rfl,hb1⟩
 have g1:G w w1:=((((G.refl w).alloc _).alloc _).alloc _).trans hb1
 obtain⟨hc1,hf1⟩:=hb1.rules
 have hz1:w.heap.size+2<w1.heap.size:=by have:=hb1.size;simp at this;omega
 have hz1a:w.heap.size<w1.heap.size:=by omega
 have hz1b:w.heap.size+1<w1.heap.size:=by omega
 go_wp2_with fail
 refine(H2.out _).mono ?_
 rintro e w2 ⟨rfl,hb2⟩
 have g2:G w w2:=g1.trans hb2
 obtain⟨hc2,hf2⟩:=hb2.rules
 have hz2:w.heap.size+2<w2.heap.size:=by have:=hb2.size;omega
 have hz2a:w.heap.size<w2.heap.size:=by omega
 have hz2b:w.heap.size+1<w2.heap.size:=by omega
 go_wp2_with fail
 refine(H3.out _).mono ?_
 rintro e w3 ⟨rfl,hb3⟩
 have g3:G w w3:=g2.trans hb3
 obtain⟨hc3,hf3⟩:=hb3.rules
 go_wp2
 exact bodyPost_ret (v:=.tuple #[V rk ra rb rs,.int .i64 c]) (by simp[results,results17,go_sem,hc1,hc2,hc3,hz1,hz2]) rfl ⟨rfl,by
  repeat(first|exact g3|refine G.alloc ?_ _|refine G.setCell ?_ (by simp;try omega) _)⟩
theorem rB_9(rk ra rb:Int)(rs:ByteArray)(c:Int)(k a b k' a' b':Int)(s s':ByteArray)(z:(k==0)=false)(z':(k'==0)=false)(h1:∀w,Calls prog 26 #[V k a b s] w fun e w'=>e=.returned (.bool true)∧G w w')(h2:∀w,Calls prog 26 #[V k' a' b' s'] w fun e w'=>e=.returned (.bool true)∧G w w')(h3:∀w,Calls prog 44 #[.int .i64 9,V k a b s,V k' a' b' s'] w fun e w'=>e=.returned (.tuple #[V rk ra rb rs,.int .i64 c])∧G w w')(w:World):Calls prog 17 #[.int .i64 9,V k a b s,V k' a' b' s'] w fun e w'=>e=.returned (.tuple #[V rk ra rb rs,.int .i64 c])∧G w w':=by
 have H1:Hid _:=h1
 have H2:Hid _:=h2
 have H3:Hid _:=h3
 clear h1 h2 h3
 go_enter func17,ntmps17
 go_wp2_with fail
 refine(H1.out _).mono ?_
 rintro e w1 ⟨rfl,hb1⟩
 have g1:G w w1:=((((G.refl w).alloc _).alloc _).alloc _).trans hb1
 obtain⟨hc1,hf1⟩:=hb1.rules
 have hz1:w.heap.size+2<w1.heap.size:=by have:=hb1.size;simp at this;omega
 have hz1a:w.heap.size<w1.heap.size:=by omega
 have hz1b:w.heap.size+1<w1.heap.size:=by omega
 go_wp2_with fail
 refine(H2.out _).mono ?_
 rintro e w2 ⟨rfl,hb2⟩
 have g2:G w w2:=g1.trans hb2
 obtain⟨hc2,hf2⟩:=hb2.rules
 have hz2:w.heap.size+2<w2.heap.size:=by have:=hb2.size;omega
 have hz2a:w.heap.size<w2.heap.size:=by omega
 have hz2b:w.heap.size+1<w2.heap.size:=by omega
 go_wp2_with fail
 refine(H3.out _).mono ?_
 rintro e w3 ⟨rfl,hb3⟩
 have g3:G w w3:=g2.trans hb3
 obtain⟨hc3,hf3⟩:=hb3.rules
 go_wp2
 exact bodyPost_ret (v:=.tuple #[V rk ra rb rs,.int .i64 c]) (by simp[results,results17,go_sem,hc1,hc2,hc3,hz1,hz2]) rfl ⟨rfl,by
  repeat(first|exact g3|refine G.alloc ?_ _|refine G.setCell ?_ (by simp;try omega) _)⟩
theorem rB_10(rk ra rb:Int)(rs:ByteArray)(c:Int)(k a b k' a' b':Int)(s s':ByteArray)(z:(k==0)=false)(z':(k'==0)=false)(h1:∀w,Calls prog 26 #[V k a b s] w fun e w'=>e=.returned (.bool true)∧G w w')(h2:∀w,Calls prog 26 #[V k' a' b' s'] w fun e w'=>e=.returned (.bool true)∧G w w')(h3:∀w,Calls prog 44 #[.int .i64 10,V k a b s,V k' a' b' s'] w fun e w'=>e=.returned (.tuple #[V rk ra rb rs,.int .i64 c])∧G w w')(w:World):Calls prog 17 #[.int .i64 10,V k a b s,V k' a' b' s'] w fun e w'=>e=.returned (.tuple #[V rk ra rb rs,.int .i64 c])∧G w w':=by
 have H1:Hid _:=h1
 have H2:Hid _:=h2
 have H3:Hid _:=h3
 clear h1 h2 h3
 go_enter func17,ntmps17
 go_wp2_with fail
 refine(H1.out _).mono ?_
 rintro e w1 ⟨rfl,hb1⟩
 have g1:G w w1:=((((G.refl w).alloc _).alloc _).alloc _).trans hb1
 obtain⟨hc1,hf1⟩:=hb1.rules
 have hz1:w.heap.size+2<w1.heap.size:=by have:=hb1.size;simp at this;omega
 have hz1a:w.heap.size<w1.heap.size:=by omega
 have hz1b:w.heap.size+1<w1.heap.size:=by omega
 go_wp2_with fail
 refine(H2.out _).mono ?_
 rintro e w2 ⟨rfl,hb2⟩
 have g2:G w w2:=g1.trans hb2
 obtain⟨hc2,hf2⟩:=hb2.rules
 have hz2:w.heap.size+2<w2.heap.size:=by have:=hb2.size;omega
 have hz2a:w.heap.size<w2.heap.size:=by omega
 have hz2b:w.heap.size+1<w2.heap.size:=by omega
 go_wp2_with fail
 refine(H3.out _).mono ?_
 rintro e w3 ⟨rfl,hb3⟩
 have g3:G w w3:=g2.trans hb3
 obtain⟨hc3,hf3⟩:=hb3.rules
 go_wp2
 exact bodyPost_ret (v:=.tuple #[V rk ra rb rs,.int .i64 c]) (by simp[results,results17,go_sem,hc1,hc2,hc3,hz1,hz2]) rfl ⟨rfl,by
  repeat(first|exact g3|refine G.alloc ?_ _|refine G.setCell ?_ (by simp;try omega) _)⟩
theorem rB_11(rk ra rb:Int)(rs:ByteArray)(c:Int)(k a b k' a' b':Int)(s s':ByteArray)(z:(k==0)=false)(z':(k'==0)=false)(h1:∀w,Calls prog 26 #[V k a b s] w fun e w'=>e=.returned (.bool true)∧G w w')(h2:∀w,Calls prog 26 #[V k' a' b' s'] w fun e w'=>e=.returned (.bool true)∧G w w')(h3:∀w,Calls prog 44 #[.int .i64 11,V k a b s,V k' a' b' s'] w fun e w'=>e=.returned (.tuple #[V rk ra rb rs,.int .i64 c])∧G w w')(w:World):Calls prog 17 #[.int .i64 11,V k a b s,V k' a' b' s'] w fun e w'=>e=.returned (.tuple #[V rk ra rb rs,.int .i64 c])∧G w w':=by
 have H1:Hid _:=h1
 have H2:Hid _:=h2
 have H3:Hid _:=h3
 clear h1 h2 h3
 go_enter func17,ntmps17
 go_wp2_with fail
 refine(H1.out _).mono ?_
 rintro e w1 ⟨rfl,hb1⟩
 have g1:G w w1:=((((G.refl w).alloc _).alloc _).alloc _).trans hb1
 obtain⟨hc1,hf1⟩:=hb1.rules
 have hz1:w.heap.size+2<w1.heap.size:=by have:=hb1.size;simp at this;omega
 have hz1a:w.heap.size<w1.heap.size:=by omega
 have hz1b:w.heap.size+1<w1.heap.size:=by omega
 go_wp2_with fail
 refine(H2.out _).mono ?_
 rintro e w2 ⟨rfl,hb2⟩
 have g2:G w w2:=g1.trans hb2
 obtain⟨hc2,hf2⟩:=hb2.rules
 have hz2:w.heap.size+2<w2.heap.size:=by have:=hb2.size;omega
 have hz2a:w.heap.size<w2.heap.size:=by omega
 have hz2b:w.heap.size+1<w2.heap.size:=by omega
 go_wp2_with fail
 refine(H3.out _).mono ?_
 rintro e w3 ⟨rfl,hb3⟩
 have g3:G w w3:=g2.trans hb3
 obtain⟨hc3,hf3⟩:=hb3.rules
 go_wp2
 exact bodyPost_ret (v:=.tuple #[V rk ra rb rs,.int .i64 c]) (by simp[results,results17,go_sem,hc1,hc2,hc3,hz1,hz2]) rfl ⟨rfl,by
  repeat(first|exact g3|refine G.alloc ?_ _|refine G.setCell ?_ (by simp;try omega) _)⟩
theorem rB_15(rk ra rb:Int)(rs:ByteArray)(c:Int)(k a b k' a' b':Int)(s s':ByteArray)(z:(k==0)=false)(z':(k'==0)=false)(h1:∀w,Calls prog 26 #[V k a b s] w fun e w'=>e=.returned (.bool true)∧G w w')(h2:∀w,Calls prog 26 #[V k' a' b' s'] w fun e w'=>e=.returned (.bool true)∧G w w')(h3:∀w,Calls prog 45 #[.int .i64 15,V k a b s,V k' a' b' s'] w fun e w'=>e=.returned (.tuple #[V rk ra rb rs,.int .i64 c])∧G w w')(w:World):Calls prog 17 #[.int .i64 15,V k a b s,V k' a' b' s'] w fun e w'=>e=.returned (.tuple #[V rk ra rb rs,.int .i64 c])∧G w w':=by
 have H1:Hid _:=h1
 have H2:Hid _:=h2
 have H3:Hid _:=h3
 clear h1 h2 h3
 go_enter func17,ntmps17
 go_wp2_with fail
 refine(H1.out _).mono ?_
 rintro e w1 ⟨rfl,hb1⟩
 have g1:G w w1:=((((G.refl w).alloc _).alloc _).alloc _).trans hb1
 obtain⟨hc1,hf1⟩:=hb1.rules
 have hz1:w.heap.size+2<w1.heap.size:=by have:=hb1.size;simp at this;omega
 have hz1a:w.heap.size<w1.heap.size:=by omega
 have hz1b:w.heap.size+1<w1.heap.size:=by omega
 go_wp2_with fail
 refine(H2.out _).mono ?_
 rintro e w2 ⟨rfl,hb2⟩
 have g2:G w w2:=g1.trans hb2
 obtain⟨hc2,hf2⟩:=hb2.rules
 have hz2:w.heap.size+2<w2.heap.size:=by have:=hb2.size;omega
 have hz2a:w.heap.size<w2.heap.size:=by omega
 have hz2b:w.heap.size+1<w2.heap.size:=by omega
 go_wp2_with fail
 refine(H3.out _).mono ?_
 rintro e w3 ⟨rfl,hb3⟩
 have g3:G w w3:=g2.trans hb3
 obtain⟨hc3,hf3⟩:=hb3.rules
 go_wp2
 exact bodyPost_ret (v:=.tuple #[V rk ra rb rs,.int .i64 c]) (by simp[results,results17,go_sem,hc1,hc2,hc3,hz1,hz2]) rfl ⟨rfl,by
  repeat(first|exact g3|refine G.alloc ?_ _|refine G.setCell ?_ (by simp;try omega) _)⟩
theorem rB_17(rk ra rb:Int)(rs:ByteArray)(c:Int)(k a b k' a' b':Int)(s s':ByteArray)(z:(k==0)=false)(z':(k'==0)=false)(h1:∀w,Calls prog 26 #[V k a b s] w fun e w'=>e=.returned (.bool true)∧G w w')(h2:∀w,Calls prog 26 #[V k' a' b' s'] w fun e w'=>e=.returned (.bool true)∧G w w')(h3:∀w,Calls prog 45 #[.int .i64 17,V k a b s,V k' a' b' s'] w fun e w'=>e=.returned (.tuple #[V rk ra rb rs,.int .i64 c])∧G w w')(w:World):Calls prog 17 #[.int .i64 17,V k a b s,V k' a' b' s'] w fun e w'=>e=.returned (.tuple #[V rk ra rb rs,.int .i64 c])∧G w w':=by
 have H1:Hid _:=h1
 have H2:Hid _:=h2
 have H3:Hid _:=h3
 clear h1 h2 h3
 go_enter func17,ntmps17
 go_wp2_with fail
 refine(H1.out _).mono ?_
 rintro e w1 ⟨rfl,hb1⟩
 have g1:G w w1:=((((G.refl w).alloc _).alloc _).alloc _).trans hb1
 obtain⟨hc1,hf1⟩:=hb1.rules
 have hz1:w.heap.size+2<w1.heap.size:=by have:=hb1.size;simp at this;omega
 have hz1a:w.heap.size<w1.heap.size:=by omega
 have hz1b:w.heap.size+1<w1.heap.size:=by omega
 go_wp2_with fail
 refine(H2.out _).mono ?_
 rintro e w2 ⟨rfl,hb2⟩
 have g2:G w w2:=g1.trans hb2
 obtain⟨hc2,hf2⟩:=hb2.rules
 have hz2:w.heap.size+2<w2.heap.size:=by have:=hb2.size;omega
 have hz2a:w.heap.size<w2.heap.size:=by omega
 have hz2b:w.heap.size+1<w2.heap.size:=by omega
 go_wp2_with fail
 refine(H3.out _).mono ?_
 rintro e w3 ⟨rfl,hb3⟩
 have g3:G w w3:=g2.trans hb3
 obtain⟨hc3,hf3⟩:=hb3.rules
 go_wp2
 exact bodyPost_ret (v:=.tuple #[V rk ra rb rs,.int .i64 c]) (by simp[results,results17,go_sem,hc1,hc2,hc3,hz1,hz2]) rfl ⟨rfl,by
  repeat(first|exact g3|refine G.alloc ?_ _|refine G.setCell ?_ (by simp;try omega) _)⟩
theorem rB_18(rk ra rb:Int)(rs:ByteArray)(c:Int)(k a b k' a' b':Int)(s s':ByteArray)(z:(k==0)=false)(z':(k'==0)=false)(h1:∀w,Calls prog 26 #[V k a b s] w fun e w'=>e=.returned (.bool true)∧G w w')(h2:∀w,Calls prog 26 #[V k' a' b' s'] w fun e w'=>e=.returned (.bool true)∧G w w')(h3:∀w,Calls prog 45 #[.int .i64 18,V k a b s,V k' a' b' s'] w fun e w'=>e=.returned (.tuple #[V rk ra rb rs,.int .i64 c])∧G w w')(w:World):Calls prog 17 #[.int .i64 18,V k a b s,V k' a' b' s'] w fun e w'=>e=.returned (.tuple #[V rk ra rb rs,.int .i64 c])∧G w w':=by
 have H1:Hid _:=h1
 have H2:Hid _:=h2
 have H3:Hid _:=h3
 clear h1 h2 h3
 go_enter func17,ntmps17
 go_wp2_with fail
 refine(H1.out _).mono ?_
 rintro e w1 ⟨rfl,hb1⟩
 have g1:G w w1:=((((G.refl w).alloc _).alloc _).alloc _).trans hb1
 obtain⟨hc1,hf1⟩:=hb1.rules
 have hz1:w.heap.size+2<w1.heap.size:=by have:=hb1.size;simp at this;omega
 have hz1a:w.heap.size<w1.heap.size:=by omega
 have hz1b:w.heap.size+1<w1.heap.size:=by omega
 go_wp2_with fail
 refine(H2.out _).mono ?_
 rintro e w2 ⟨rfl,hb2⟩
 have g2:G w w2:=g1.trans hb2
 obtain⟨hc2,hf2⟩:=hb2.rules
 have hz2:w.heap.size+2<w2.heap.size:=by have:=hb2.size;omega
 have hz2a:w.heap.size<w2.heap.size:=by omega
 have hz2b:w.heap.size+1<w2.heap.size:=by omega
 go_wp2_with fail
 refine(H3.out _).mono ?_
 rintro e w3 ⟨rfl,hb3⟩
 have g3:G w w3:=g2.trans hb3
 obtain⟨hc3,hf3⟩:=hb3.rules
 go_wp2
 exact bodyPost_ret (v:=.tuple #[V rk ra rb rs,.int .i64 c]) (by simp[results,results17,go_sem,hc1,hc2,hc3,hz1,hz2]) rfl ⟨rfl,by
  repeat(first|exact g3|refine G.alloc ?_ _|refine G.setCell ?_ (by simp;try omega) _)⟩
theorem rB_16(rk ra rb:Int)(rs:ByteArray)(c:Int)(k a b k' a' b':Int)(s s':ByteArray)(z:(k==0)=false)(z':(k'==0)=false)(h1:∀w,Calls prog 26 #[V k a b s] w fun e w'=>e=.returned (.bool true)∧G w w')(h2:∀w,Calls prog 26 #[V k' a' b' s'] w fun e w'=>e=.returned (.bool true)∧G w w')(h3:∀w,Calls prog 46 #[V k a b s,V k' a' b' s'] w fun e w'=>e=.returned (.tuple #[V rk ra rb rs,.int .i64 c])∧G w w')(w:World):Calls prog 17 #[.int .i64 16,V k a b s,V k' a' b' s'] w fun e w'=>e=.returned (.tuple #[V rk ra rb rs,.int .i64 c])∧G w w':=by
 have H1:Hid _:=h1
 have H2:Hid _:=h2
 have H3:Hid _:=h3
 clear h1 h2 h3
 go_enter func17,ntmps17
 go_wp2_with fail
 refine(H1.out _).mono ?_
 rintro e w1 ⟨rfl,hb1⟩
 have g1:G w w1:=((((G.refl w).alloc _).alloc _).alloc _).trans hb1
 obtain⟨hc1,hf1⟩:=hb1.rules
 have hz1:w.heap.size+2<w1.heap.size:=by have:=hb1.size;simp at this;omega
 have hz1a:w.heap.size<w1.heap.size:=by omega
 have hz1b:w.heap.size+1<w1.heap.size:=by omega
 go_wp2_with fail
 refine(H2.out _).mono ?_
 rintro e w2 ⟨rfl,hb2⟩
 have g2:G w w2:=g1.trans hb2
 obtain⟨hc2,hf2⟩:=hb2.rules
 have hz2:w.heap.size+2<w2.heap.size:=by have:=hb2.size;omega
 have hz2a:w.heap.size<w2.heap.size:=by omega
 have hz2b:w.heap.size+1<w2.heap.size:=by omega
 go_wp2_with fail
 refine(H3.out _).mono ?_
 rintro e w3 ⟨rfl,hb3⟩
 have g3:G w w3:=g2.trans hb3
 obtain⟨hc3,hf3⟩:=hb3.rules
 go_wp2
 exact bodyPost_ret (v:=.tuple #[V rk ra rb rs,.int .i64 c]) (by simp[results,results17,go_sem,hc1,hc2,hc3,hz1,hz2]) rfl ⟨rfl,by
  repeat(first|exact g3|refine G.alloc ?_ _|refine G.setCell ?_ (by simp;try omega) _)⟩
theorem rB_1(rk ra rb:Int)(rs:ByteArray)(c:Int)(k a b k' a' b':Int)(s s':ByteArray)(z:(k==0)=false)(z':(k'==0)=false)(h1:∀w,Calls prog 26 #[V k a b s] w fun e w'=>e=.returned (.bool true)∧G w w')(h2:∀w,Calls prog 26 #[V k' a' b' s'] w fun e w'=>e=.returned (.bool true)∧G w w')(h3:∀w,Calls prog 47 #[.int .i64 1,V k a b s,V k' a' b' s'] w fun e w'=>e=.returned (.tuple #[V rk ra rb rs,.int .i64 c])∧G w w')(w:World):Calls prog 17 #[.int .i64 1,V k a b s,V k' a' b' s'] w fun e w'=>e=.returned (.tuple #[V rk ra rb rs,.int .i64 c])∧G w w':=by
 have H1:Hid _:=h1
 have H2:Hid _:=h2
 have H3:Hid _:=h3
 clear h1 h2 h3
 go_enter func17,ntmps17
 go_wp2_with fail
 refine(H1.out _).mono ?_
 rintro e w1 ⟨rfl,hb1⟩
 have g1:G w w1:=((((G.refl w).alloc _).alloc _).alloc _).trans hb1
 obtain⟨hc1,hf1⟩:=hb1.rules
 have hz1:w.heap.size+2<w1.heap.size:=by have:=hb1.size;simp at this;omega
 have hz1a:w.heap.size<w1.heap.size:=by omega
 have hz1b:w.heap.size+1<w1.heap.size:=by omega
 go_wp2_with fail
 refine(H2.out _).mono ?_
 rintro e w2 ⟨rfl,hb2⟩
 have g2:G w w2:=g1.trans hb2
 obtain⟨hc2,hf2⟩:=hb2.rules
 have hz2:w.heap.size+2<w2.heap.size:=by have:=hb2.size;omega
 have hz2a:w.heap.size<w2.heap.size:=by omega
 have hz2b:w.heap.size+1<w2.heap.size:=by omega
 go_wp2_with fail
 refine(H3.out _).mono ?_
 rintro e w3 ⟨rfl,hb3⟩
 have g3:G w w3:=g2.trans hb3
 obtain⟨hc3,hf3⟩:=hb3.rules
 go_wp2
 exact bodyPost_ret (v:=.tuple #[V rk ra rb rs,.int .i64 c]) (by simp[results,results17,go_sem,hc1,hc2,hc3,hz1,hz2]) rfl ⟨rfl,by
  repeat(first|exact g3|refine G.alloc ?_ _|refine G.setCell ?_ (by simp;try omega) _)⟩
theorem rB_2(rk ra rb:Int)(rs:ByteArray)(c:Int)(k a b k' a' b':Int)(s s':ByteArray)(z:(k==0)=false)(z':(k'==0)=false)(h1:∀w,Calls prog 26 #[V k a b s] w fun e w'=>e=.returned (.bool true)∧G w w')(h2:∀w,Calls prog 26 #[V k' a' b' s'] w fun e w'=>e=.returned (.bool true)∧G w w')(h3:∀w,Calls prog 47 #[.int .i64 2,V k a b s,V k' a' b' s'] w fun e w'=>e=.returned (.tuple #[V rk ra rb rs,.int .i64 c])∧G w w')(w:World):Calls prog 17 #[.int .i64 2,V k a b s,V k' a' b' s'] w fun e w'=>e=.returned (.tuple #[V rk ra rb rs,.int .i64 c])∧G w w':=by
 have H1:Hid _:=h1
 have H2:Hid _:=h2
 have H3:Hid _:=h3
 clear h1 h2 h3
 go_enter func17,ntmps17
 go_wp2_with fail
 refine(H1.out _).mono ?_
 rintro e w1 ⟨rfl,hb1⟩
 have g1:G w w1:=((((G.refl w).alloc _).alloc _).alloc _).trans hb1
 obtain⟨hc1,hf1⟩:=hb1.rules
 have hz1:w.heap.size+2<w1.heap.size:=by have:=hb1.size;simp at this;omega
 have hz1a:w.heap.size<w1.heap.size:=by omega
 have hz1b:w.heap.size+1<w1.heap.size:=by omega
 go_wp2_with fail
 refine(H2.out _).mono ?_
 rintro e w2 ⟨rfl,hb2⟩
 have g2:G w w2:=g1.trans hb2
 obtain⟨hc2,hf2⟩:=hb2.rules
 have hz2:w.heap.size+2<w2.heap.size:=by have:=hb2.size;omega
 have hz2a:w.heap.size<w2.heap.size:=by omega
 have hz2b:w.heap.size+1<w2.heap.size:=by omega
 go_wp2_with fail
 refine(H3.out _).mono ?_
 rintro e w3 ⟨rfl,hb3⟩
 have g3:G w w3:=g2.trans hb3
 obtain⟨hc3,hf3⟩:=hb3.rules
 go_wp2
 exact bodyPost_ret (v:=.tuple #[V rk ra rb rs,.int .i64 c]) (by simp[results,results17,go_sem,hc1,hc2,hc3,hz1,hz2]) rfl ⟨rfl,by
  repeat(first|exact g3|refine G.alloc ?_ _|refine G.setCell ?_ (by simp;try omega) _)⟩
theorem rB_3(rk ra rb:Int)(rs:ByteArray)(c:Int)(k a b k' a' b':Int)(s s':ByteArray)(z:(k==0)=false)(z':(k'==0)=false)(h1:∀w,Calls prog 26 #[V k a b s] w fun e w'=>e=.returned (.bool true)∧G w w')(h2:∀w,Calls prog 26 #[V k' a' b' s'] w fun e w'=>e=.returned (.bool true)∧G w w')(h3:∀w,Calls prog 47 #[.int .i64 3,V k a b s,V k' a' b' s'] w fun e w'=>e=.returned (.tuple #[V rk ra rb rs,.int .i64 c])∧G w w')(w:World):Calls prog 17 #[.int .i64 3,V k a b s,V k' a' b' s'] w fun e w'=>e=.returned (.tuple #[V rk ra rb rs,.int .i64 c])∧G w w':=by
 have H1:Hid _:=h1
 have H2:Hid _:=h2
 have H3:Hid _:=h3
 clear h1 h2 h3
 go_enter func17,ntmps17
 go_wp2_with fail
 refine(H1.out _).mono ?_
 rintro e w1 ⟨rfl,hb1⟩
 have g1:G w w1:=((((G.refl w).alloc _).alloc _).alloc _).trans hb1
 obtain⟨hc1,hf1⟩:=hb1.rules
 have hz1:w.heap.size+2<w1.heap.size:=by have:=hb1.size;simp at this;omega
 have hz1a:w.heap.size<w1.heap.size:=by omega
 have hz1b:w.heap.size+1<w1.heap.size:=by omega
 go_wp2_with fail
 refine(H2.out _).mono ?_
 rintro e w2 ⟨rfl,hb2⟩
 have g2:G w w2:=g1.trans hb2
 obtain⟨hc2,hf2⟩:=hb2.rules
 have hz2:w.heap.size+2<w2.heap.size:=by have:=hb2.size;omega
 have hz2a:w.heap.size<w2.heap.size:=by omega
 have hz2b:w.heap.size+1<w2.heap.size:=by omega
 go_wp2_with fail
 refine(H3.out _).mono ?_
 rintro e w3 ⟨rfl,hb3⟩
 have g3:G w w3:=g2.trans hb3
 obtain⟨hc3,hf3⟩:=hb3.rules
 go_wp2
 exact bodyPost_ret (v:=.tuple #[V rk ra rb rs,.int .i64 c]) (by simp[results,results17,go_sem,hc1,hc2,hc3,hz1,hz2]) rfl ⟨rfl,by
  repeat(first|exact g3|refine G.alloc ?_ _|refine G.setCell ?_ (by simp;try omega) _)⟩
theorem rB_4(rk ra rb:Int)(rs:ByteArray)(c:Int)(k a b k' a' b':Int)(s s':ByteArray)(z:(k==0)=false)(z':(k'==0)=false)(h1:∀w,Calls prog 26 #[V k a b s] w fun e w'=>e=.returned (.bool true)∧G w w')(h2:∀w,Calls prog 26 #[V k' a' b' s'] w fun e w'=>e=.returned (.bool true)∧G w w')(h3:∀w,Calls prog 47 #[.int .i64 4,V k a b s,V k' a' b' s'] w fun e w'=>e=.returned (.tuple #[V rk ra rb rs,.int .i64 c])∧G w w')(w:World):Calls prog 17 #[.int .i64 4,V k a b s,V k' a' b' s'] w fun e w'=>e=.returned (.tuple #[V rk ra rb rs,.int .i64 c])∧G w w':=by
 have H1:Hid _:=h1
 have H2:Hid _:=h2
 have H3:Hid _:=h3
 clear h1 h2 h3
 go_enter func17,ntmps17
 go_wp2_with fail
 refine(H1.out _).mono ?_
 rintro e w1 ⟨rfl,hb1⟩
 have g1:G w w1:=((((G.refl w).alloc _).alloc _).alloc _).trans hb1
 obtain⟨hc1,hf1⟩:=hb1.rules
 have hz1:w.heap.size+2<w1.heap.size:=by have:=hb1.size;simp at this;omega
 have hz1a:w.heap.size<w1.heap.size:=by omega
 have hz1b:w.heap.size+1<w1.heap.size:=by omega
 go_wp2_with fail
 refine(H2.out _).mono ?_
 rintro e w2 ⟨rfl,hb2⟩
 have g2:G w w2:=g1.trans hb2
 obtain⟨hc2,hf2⟩:=hb2.rules
 have hz2:w.heap.size+2<w2.heap.size:=by have:=hb2.size;omega
 have hz2a:w.heap.size<w2.heap.size:=by omega
 have hz2b:w.heap.size+1<w2.heap.size:=by omega
 go_wp2_with fail
 refine(H3.out _).mono ?_
 rintro e w3 ⟨rfl,hb3⟩
 have g3:G w w3:=g2.trans hb3
 obtain⟨hc3,hf3⟩:=hb3.rules
 go_wp2
 exact bodyPost_ret (v:=.tuple #[V rk ra rb rs,.int .i64 c]) (by simp[results,results17,go_sem,hc1,hc2,hc3,hz1,hz2]) rfl ⟨rfl,by
  repeat(first|exact g3|refine G.alloc ?_ _|refine G.setCell ?_ (by simp;try omega) _)⟩
theorem rB_5(rk ra rb:Int)(rs:ByteArray)(c:Int)(k a b k' a' b':Int)(s s':ByteArray)(z:(k==0)=false)(z':(k'==0)=false)(h1:∀w,Calls prog 26 #[V k a b s] w fun e w'=>e=.returned (.bool true)∧G w w')(h2:∀w,Calls prog 26 #[V k' a' b' s'] w fun e w'=>e=.returned (.bool true)∧G w w')(h3:∀w,Calls prog 47 #[.int .i64 5,V k a b s,V k' a' b' s'] w fun e w'=>e=.returned (.tuple #[V rk ra rb rs,.int .i64 c])∧G w w')(w:World):Calls prog 17 #[.int .i64 5,V k a b s,V k' a' b' s'] w fun e w'=>e=.returned (.tuple #[V rk ra rb rs,.int .i64 c])∧G w w':=by
 have H1:Hid _:=h1
 have H2:Hid _:=h2
 have H3:Hid _:=h3
 clear h1 h2 h3
 go_enter func17,ntmps17
 go_wp2_with fail
 refine(H1.out _).mono ?_
 rintro e w1 ⟨rfl,hb1⟩
 have g1:G w w1:=((((G.refl w).alloc _).alloc _).alloc _).trans hb1
 obtain⟨hc1,hf1⟩:=hb1.rules
 have hz1:w.heap.size+2<w1.heap.size:=by have:=hb1.size;simp at this;omega
 have hz1a:w.heap.size<w1.heap.size:=by omega
 have hz1b:w.heap.size+1<w1.heap.size:=by omega
 go_wp2_with fail
 refine(H2.out _).mono ?_
 rintro e w2 ⟨rfl,hb2⟩
 have g2:G w w2:=g1.trans hb2
 obtain⟨hc2,hf2⟩:=hb2.rules
 have hz2:w.heap.size+2<w2.heap.size:=by have:=hb2.size;omega
 have hz2a:w.heap.size<w2.heap.size:=by omega
 have hz2b:w.heap.size+1<w2.heap.size:=by omega
 go_wp2_with fail
 refine(H3.out _).mono ?_
 rintro e w3 ⟨rfl,hb3⟩
 have g3:G w w3:=g2.trans hb3
 obtain⟨hc3,hf3⟩:=hb3.rules
 go_wp2
 exact bodyPost_ret (v:=.tuple #[V rk ra rb rs,.int .i64 c]) (by simp[results,results17,go_sem,hc1,hc2,hc3,hz1,hz2]) rfl ⟨rfl,by
  repeat(first|exact g3|refine G.alloc ?_ _|refine G.setCell ?_ (by simp;try omega) _)⟩
end
end Go.Proofs.YthmdjhfbhbheeaaGreatDoor
