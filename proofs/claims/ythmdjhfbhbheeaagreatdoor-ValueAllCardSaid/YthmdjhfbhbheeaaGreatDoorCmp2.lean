import Derived.Lib.Bytealg
import Derived.Test.YthmdjhfbhbheeaaGreatDoorUnC
namespace Go.Proofs.YthmdjhfbhbheeaaGreatDoor
open Go.Proofs.Tryz
set_option maxHeartbeats 2000000
set_option maxRecDepth 100000
section
open Go.RowKit Go.Lib Go.Shelf
theorem empty_eq{s:ByteArray}(h:s.toList.isEmpty=true):s=E0:=by
 have h1:s.toList=[]:=List.isEmpty_iff.1 h
 rw[ByteArray.toList_eq] at h1
 cases s with
 | mk d=>
  have:d=#[]:=Array.toList_eq_nil_iff.1 h1
  rw[this]
theorem ok_0{a b:Int}{s:ByteArray}(h:okV 0 a b s=true):a=0∧b=0∧s=E0:=by
 simp[okV,Bool.and_eq_true] at h
 exact⟨h.1.1,h.1.2,empty_eq (List.isEmpty_iff.2 h.2)⟩
theorem ok_1{a b:Int}{s:ByteArray}(h:okV 1 a b s=true):(a=0∨a=1)∧b=0∧s=E0:=by
 simp[okV,Bool.and_eq_true] at h
 exact⟨h.1.1,h.1.2,empty_eq (List.isEmpty_iff.2 h.2)⟩
theorem ok_2{a b:Int}{s:ByteArray}(h:okV 2 a b s=true):b=0∧s=E0:=by
 simp[okV,Bool.and_eq_true] at h
 exact⟨h.1,empty_eq (List.isEmpty_iff.2 h.2)⟩
theorem ok_3{a b:Int}{s:ByteArray}(h:okV 3 a b s=true):(-33554432≤a∧a≤33554432)∧(-33554432≤b∧b≤33554432)∧s=E0:=by
 simp[okV,Bool.and_eq_true] at h
 exact⟨(partB_iff a).1 h.1.1,(partB_iff b).1 h.1.2,empty_eq (List.isEmpty_iff.2 h.2)⟩
theorem ok_4{a b:Int}{s:ByteArray}(h:okV 4 a b s=true):a=0∧b=0∧s.size≤32∧validD s.data.toList=true:=by
 simp[okV,Bool.and_eq_true] at h
 exact⟨h.1.1.1,h.1.1.2,h.1.2,h.2⟩
theorem itV_0{a b:Int}{s:ByteArray}(h:okV 0 a b s=true):itemV 0 a b s=.iface 110 (.agg #[]):=by
 simp[itemV,h]
theorem itV_1{a b:Int}{s:ByteArray}(h:okV 1 a b s=true):itemV 1 a b s=.iface 111 (.bool (a==1)):=by
 simp[itemV,h]
theorem itV_2{a b:Int}{s:ByteArray}(h:okV 2 a b s=true):itemV 2 a b s=.iface 135 (.int .i64 a):=by
 simp[itemV,h]
theorem itV_3{a b:Int}{s:ByteArray}(h:okV 3 a b s=true):itemV 3 a b s=.iface 136 (.complex .f64 (fl a) (fl b)):=by
 simp[itemV,h]
theorem itV_4{a b:Int}{s:ByteArray}(h:okV 4 a b s=true):itemV 4 a b s=.iface 137 (.string s):=by
 simp[itemV,h]
theorem itV_5{a b:Int}{s:ByteArray}(h:okV 5 a b s=true):itemV 5 a b s=.iface 138 (.int .i64 a):=by
 simp[itemV,h]
theorem itV_6{a b:Int}{s:ByteArray}(h:okV 6 a b s=true):itemV 6 a b s=.iface 139 (.int .i64 a):=by
 simp[itemV,h]
end
section
open Go.RowKit Go.Lib Go.Shelf
attribute [local go_sem] eqV neqV
def Agree(f g:FuncId)(args:Array Value):Prop:=∃(k a b:Int) (s:ByteArray) (c:Int),(∀w,Tabs w→Calls prog f args w fun e w'=>e=.returned (.tuple #[V k a b s,.int .i64 c])∧G w w')∧
 (∀w,Calls prog g args w fun e w'=>e=.returned (.tuple #[V k a b s,.int .i64 c])∧G w w')
theorem mul_w{a b:Int}(a1:-33554432≤a)(a2:a≤33554432)(b1:-33554432≤b)(b2:b≤33554432):wrap64 (a*a)=a*a∧wrap64 (b*b)=b*b∧wrap64 (a*a+b*b)=a*a+b*b:=by
 have m1:=sq_bd a a1 a2;have m2:=sq_bd b b1 b2
 unfold wrap64;omega
theorem rU_len(a b:Int)(s:ByteArray)(n:Nat)(hn:PtEnd s n)(hs:s.size≤4611686018427387904)(hok:okV 4 a b s=true)(w:World) :
  Calls prog 15 #[.int .i64 7,V 4 a b s] w fun e w'=>e=.returned (.tuple #[V 2 n 0 E0,.int .i64 0])∧G w w':=by
 have HV:Hid (∀w,Calls prog 26 #[V 4 a b s] w fun e w'=>e=.returned (.bool true)∧G w w'):=by
  have:=rv_any 4 a b s hs
  rw[hok] at this
  exact this
 have HP:Hid _:=points_cnt s hs (ok_4 hok).2.2.2
 have HN:Hid _:=hn
 have HW:Hid _:=rwhole n
 clear hok hs hn
 go_enter func15,ntmps15
 go_wp2_with fail
 refine(HV.out _).mono ?_
 rintro e w1 ⟨rfl,hb1⟩
 have hc':=G.cells (b:=w.heap.size) (f:=fun o=>[Value.int IntKind.i64 4,Value.int IntKind.i64 a,Value.int IntKind.i64 b,Value.string s][o]?) (((G.refl _).alloc _).trans hb1) (by simp) (by simp)
 obtain⟨hc1,hf1⟩:=hb1.rules
 have hz1:=hb1.size
 simp at hz1
 have hz1':w.heap.size+1<w1.heap.size:=by omega
 go_wp2_with fail
 refine(HP.out _).mono ?_
 rintro e w3 ⟨⟨m,rfl,hm⟩,rfl⟩
 obtain rfl:=hm.one HN.out
 clear hm
 go_wp2_with fail
 refine(HW.out _).mono ?_
 rintro e w2 ⟨rfl,hb2⟩
 obtain⟨hc2,hf2⟩:=hb2.rules
 go_wp2
 exact bodyPost_ret (v:=.tuple #[V 2 m 0 E0,.int .i64 0]) (by simp[results,results15,go_sem,hc2,hc1,hz1']) rfl ⟨rfl,by
  have gg:G w w2:=((((G.refl _).alloc _).alloc _).trans hb1).trans hb2
  repeat(first|exact gg|refine G.alloc ?_ _|refine G.setCell ?_ (by simp;try omega) _)⟩
theorem pt_ex(s:ByteArray):∃n,PtEnd s n:=by
 by_cases h:∃n,s.size≤stp s n
 ·obtain⟨n,hn⟩:=h
  induction n with
  | zero=>exact⟨0,hn,fun m hm=>absurd hm (Nat.not_lt_zero m)⟩
  | succ n ih=>
   by_cases h2:s.size≤stp s n
   ·exact ih h2
   ·by_cases h3:∀m,m<n+1→stp s m<s.size
    ·exact⟨n+1,hn,h3⟩
    ·exfalso
     have mono:∀m k,stp s m≤stp s (m+k):=fun m k=>by
      induction k with
      | zero=>exact Nat.le_refl _
      | succ k ih=>exact Nat.le_trans ih (Nat.le_add_right _ _)
     refine h3 fun m hm=>?_
     have:=mono m (n-m)
     rw[show m+(n-m)=n by omega] at this
     omega
 ·exfalso
  have h1:∀n,stp s n<s.size:=fun n=>by
   rcases Nat.lt_or_ge (stp s n) s.size with e|e
   ·exact e
   ·exact absurd ⟨n,e⟩ h
  have:=stp_le s s.size (fun m _=>h1 m)
  have:=h1 s.size
  omega
theorem ua_0(op:Int)(ho:1≤op)(ho':op≤8)(a b:Int)(s:ByteArray)(hs:s.size≤4611686018427387904)(hok:okV 0 a b s=true):Agree 14 15 #[.int .i64 op,V 0 a b s]:=by
 obtain⟨rfl,rfl,rfl⟩:=ok_0 hok
 exact⟨_,_,_,_,_,fun w hT=>UG_null op 0 0 0 E0 ho ho' hok _ 0 0 _ _ _ _ (itV_0 hok) (un_null op) answer_null w hT,rU_null 0 0 E0 op ho ho' hs hok⟩
theorem ua_1(op:Int)(ho:1≤op)(ho':op≤8)(a b:Int)(s:ByteArray)(hs:s.size≤4611686018427387904)(hok:okV 1 a b s=true):Agree 14 15 #[.int .i64 op,V 1 a b s]:=by
 obtain⟨h01,rfl,rfl⟩:=ok_1 hok
 by_cases h2:op=2
 ·subst h2
  rcases h01 with rfl|rfl
  ·exact⟨_,_,_,_,_,fun w hT=>UG_truth 2 1 0 0 E0 (by decide) (by decide) hok false _ 0 0 _ _ _ _ (itV_1 hok) (un_truth false) answer_tt w hT,rU_not 0 0 E0 rfl hs hok⟩
  ·exact⟨_,_,_,_,_,fun w hT=>UG_truth 2 1 1 0 E0 (by decide) (by decide) hok true _ 0 0 _ _ _ _ (itV_1 hok) (un_truth true) answer_ff w hT,rU_not1 1 0 E0 rfl hs hok⟩
 ·have z:(op==2)=false:=by simpa using h2
  exact⟨_,_,_,_,_,fun w hT=>UG_truth op 1 a 0 E0 ho ho' hok (a==1) _ 10 10 _ _ _ _ (itV_1 hok) (un_truth_no (a==1) op z) (answer_err _ 10 (by decide)) w hT,rU_bool_no a 0 E0 op ho ho' z hs hok⟩
theorem ua_2(op:Int)(ho:1≤op)(ho':op≤8)(a b:Int)(s:ByteArray)(hs:s.size≤4611686018427387904)(ha:I64 a)(hok:okV 2 a b s=true):Agree 14 15 #[.int .i64 op,V 2 a b s]:=by
 obtain⟨rfl,rfl⟩:=ok_2 hok
 have a1:=ha.1
 have a2:=ha.2
 have h8:op=1∨op=2∨op=3∨op=4∨op=5∨op=6∨op=7∨op=8:=by omega
 rcases h8 with rfl|rfl|rfl|rfl|rfl|rfl|rfl|rfl
 ·by_cases hm:a = -9223372036854775808
  ·have hm':¬I64 (0-a):=by unfold I64;omega
   subst hm
   exact⟨_,_,_,_,_,fun w hT=>UG_whole 1 2 (-9223372036854775808) 0 E0 (by decide) (by decide) hok _ _ 11 11 _ _ _ _ (itV_2 hok) (un_neg_no _ ha hm') (answer_err _ 11 (by decide)) w hT,rU_int (-9223372036854775808) 0 E0 1 (by decide) (by decide) _ _ _ _ _ (ri_neg_no) hs hok⟩
  ·exact⟨_,_,_,_,_,fun w hT=>UG_whole 1 2 a 0 E0 (by decide) (by decide) hok a _ 0 0 _ _ _ _ (itV_2 hok) (un_neg a (by unfold I64;omega)) (answer_whole _) w hT,rU_int a 0 E0 1 (by decide) (by decide) _ _ _ _ _ (ri_neg a (by omega) a2) hs hok⟩
 ·exact⟨_,_,_,_,_,fun w hT=>UG_whole 2 2 a 0 E0 (by decide) (by decide) hok a _ 10 10 _ _ _ _ (itV_2 hok) (un_whole_no a 2 (by decide)) (answer_err _ 10 (by decide)) w hT,rU_int a 0 E0 2 (by decide) (by decide) _ _ _ _ _ (ri_no a 2 (by decide)) hs hok⟩
 ·exact⟨_,_,_,_,_,fun w hT=>UG_whole 3 2 a 0 E0 (by decide) (by decide) hok a _ 0 0 _ _ _ _ (itV_2 hok) (un_whole_3 a) (answer_whole _) w hT,rU_int a 0 E0 3 (by decide) (by decide) _ _ _ _ _ (ri_3 a) hs hok⟩
 ·exact⟨_,_,_,_,_,fun w hT=>UG_whole 4 2 a 0 E0 (by decide) (by decide) hok a _ 0 0 _ _ _ _ (itV_2 hok) (un_whole_4 a) (answer_whole _) w hT,rU_int a 0 E0 4 (by decide) (by decide) _ _ _ _ _ (ri_4 a) hs hok⟩
 ·exact⟨_,_,_,_,_,fun w hT=>UG_whole 5 2 a 0 E0 (by decide) (by decide) hok a _ 0 0 _ _ _ _ (itV_2 hok) (un_whole_5 a) (answer_whole _) w hT,rU_int a 0 E0 5 (by decide) (by decide) _ _ _ _ _ (ri_5 a) hs hok⟩
 ·by_cases h:I64 (a*a)
  ·exact⟨_,_,_,_,_,fun w hT=>UG_whole 6 2 a 0 E0 (by decide) (by decide) hok a _ 0 0 _ _ _ _ (itV_2 hok) (un_norm a ha h) (answer_whole _) w hT,rU_int a 0 E0 6 (by decide) (by decide) _ _ _ _ _ (ri_norm a ha h) hs hok⟩
  ·exact⟨_,_,_,_,_,fun w hT=>UG_whole 6 2 a 0 E0 (by decide) (by decide) hok a _ 11 11 _ _ _ _ (itV_2 hok) (un_norm_no a ha h) (answer_err _ 11 (by decide)) w hT,rU_int a 0 E0 6 (by decide) (by decide) _ _ _ _ _ (ri_norm_no a ha h) hs hok⟩
 ·exact⟨_,_,_,_,_,fun w hT=>UG_whole 7 2 a 0 E0 (by decide) (by decide) hok a _ 10 10 _ _ _ _ (itV_2 hok) (un_whole_no a 7 (by decide)) (answer_err _ 10 (by decide)) w hT,rU_int a 0 E0 7 (by decide) (by decide) _ _ _ _ _ (ri_no a 7 (by decide)) hs hok⟩
 ·by_cases h0:a<0
  ·by_cases hm:a = -9223372036854775808
   ·have hm':¬I64 (0-a):=by unfold I64;omega
    subst hm
    exact⟨_,_,_,_,_,fun w hT=>UG_whole 8 2 (-9223372036854775808) 0 E0 (by decide) (by decide) hok _ _ 11 11 _ _ _ _ (itV_2 hok) (un_abs_no _ h0 ha hm') (answer_err _ 11 (by decide)) w hT,rU_int (-9223372036854775808) 0 E0 8 (by decide) (by decide) _ _ _ _ _ (ri_abs_no) hs hok⟩
   ·exact⟨_,_,_,_,_,fun w hT=>UG_whole 8 2 a 0 E0 (by decide) (by decide) hok a _ 0 0 _ _ _ _ (itV_2 hok) (un_abs a h0 (by unfold I64;omega)) (answer_whole _) w hT,rU_int a 0 E0 8 (by decide) (by decide) _ _ _ _ _ (ri_abs a h0 (by omega) a2) hs hok⟩
  ·exact⟨_,_,_,_,_,fun w hT=>UG_whole 8 2 a 0 E0 (by decide) (by decide) hok a _ 0 0 _ _ _ _ (itV_2 hok) (un_whole_8 a h0) (answer_whole _) w hT,rU_int a 0 E0 8 (by decide) (by decide) _ _ _ _ _ (ri_abs_same a h0) hs hok⟩
theorem ua_3(op:Int)(ho:1≤op)(ho':op≤8)(a b:Int)(s:ByteArray)(hs:s.size≤4611686018427387904)(hok:okV 3 a b s=true):Agree 14 15 #[.int .i64 op,V 3 a b s]:=by
 obtain⟨⟨a1,a2⟩,⟨b1,b2⟩,rfl⟩:=ok_3 hok
 have fa:Fl (fl a) a:=Fl.ofInt a (by omega)
 have fb:Fl (fl b) b:=Fl.ofInt b (by omega)
 obtain⟨m1,m2,m3⟩:=mul_w a1 a2 b1 b2
 have h8:op=1∨op=2∨op=3∨op=4∨op=5∨op=6∨op=7∨op=8:=by omega
 rcases h8 with rfl|rfl|rfl|rfl|rfl|rfl|rfl|rfl
 ·exact⟨_,_,_,_,_,fun w hT=>UG_cpx 1 3 a b E0 (by decide) (by decide) hok (fl a) (fl b) _ 0 0 _ _ _ _ (itV_3 hok) (cu_neg _ _) (answer_cpx _ _ (-a) (-b) fa.neg fb.neg (by omega) (by omega)) w hT,rU_cpx a b E0 1 (by decide) (by decide) _ _ _ _ _ (rc_neg a b a1 a2 b1 b2) hs hok⟩
 ·exact⟨_,_,_,_,_,fun w hT=>UG_cpx 2 3 a b E0 (by decide) (by decide) hok (fl a) (fl b) _ 10 10 _ _ _ _ (itV_3 hok) (cu_no _ _ 2 (by decide)) (answer_err _ 10 (by decide)) w hT,rU_cpx a b E0 2 (by decide) (by decide) _ _ _ _ _ (rc_no a b 2 (by decide)) hs hok⟩
 ·exact⟨_,_,_,_,_,fun w hT=>UG_cpx 3 3 a b E0 (by decide) (by decide) hok (fl a) (fl b) _ 0 0 _ _ _ _ (itV_3 hok) (cu_re _ _ a fa (by omega)) (answer_whole _) w hT,rU_cpx a b E0 3 (by decide) (by decide) _ _ _ _ _ (rc_re a b) hs hok⟩
 ·exact⟨_,_,_,_,_,fun w hT=>UG_cpx 4 3 a b E0 (by decide) (by decide) hok (fl a) (fl b) _ 0 0 _ _ _ _ (itV_3 hok) (cu_im _ _ b fb (by omega)) (answer_whole _) w hT,rU_cpx a b E0 4 (by decide) (by decide) _ _ _ _ _ (rc_im a b) hs hok⟩
 ·exact⟨_,_,_,_,_,fun w hT=>UG_cpx 5 3 a b E0 (by decide) (by decide) hok (fl a) (fl b) _ 0 0 _ _ _ _ (itV_3 hok) (cu_conj _ _) (answer_cpx _ _ a (-b) fa fb.neg (by omega) (by omega)) w hT,rU_cpx a b E0 5 (by decide) (by decide) _ _ _ _ _ (rc_conj a b b1 b2) hs hok⟩
 ·exact⟨_,_,_,_,_,fun w hT=>UG_cpx 6 3 a b E0 (by decide) (by decide) hok (fl a) (fl b) _ 0 0 _ _ _ _ (itV_3 hok) (cu_norm _ _ a b fa fb a1 a2 b1 b2) (answer_whole _) w hT,rU_cpx a b E0 6 (by decide) (by decide) _ _ _ _ _ (rc_norm a b m1 m2 m3) hs hok⟩
 ·exact⟨_,_,_,_,_,fun w hT=>UG_cpx 7 3 a b E0 (by decide) (by decide) hok (fl a) (fl b) _ 10 10 _ _ _ _ (itV_3 hok) (cu_no _ _ 7 (by decide)) (answer_err _ 10 (by decide)) w hT,rU_cpx a b E0 7 (by decide) (by decide) _ _ _ _ _ (rc_no a b 7 (by decide)) hs hok⟩
 ·exact⟨_,_,_,_,_,fun w hT=>UG_cpx 8 3 a b E0 (by decide) (by decide) hok (fl a) (fl b) _ 10 10 _ _ _ _ (itV_3 hok) (cu_no _ _ 8 (by decide)) (answer_err _ 10 (by decide)) w hT,rU_cpx a b E0 8 (by decide) (by decide) _ _ _ _ _ (rc_no a b 8 (by decide)) hs hok⟩
theorem ua_4(op:Int)(ho:1≤op)(ho':op≤8)(a b:Int)(s:ByteArray)(hs:s.size≤4611686018427387904)(hok:okV 4 a b s=true):Agree 14 15 #[.int .i64 op,V 4 a b s]:=by
 by_cases h7:op=7
 ·subst h7
  obtain⟨n,hn⟩:=pt_ex s
  exact⟨_,_,_,_,_,fun w hT=>UG_str 7 4 a b s (by decide) (by decide) hok s _ 0 0 _ _ _ _ (itV_4 hok) (un_str_7 s n hn hs) (answer_whole _) w hT,rU_len a b s n hn hs hok⟩
 ·have z:(op==7)=false:=by simpa using h7
  exact⟨_,_,_,_,_,fun w hT=>UG_str op 4 a b s ho ho' hok s _ 10 10 _ _ _ _ (itV_4 hok) (un_str_no s op z) (answer_err _ 10 (by decide)) w hT,rU_str_no a b s op ho ho' z hs hok⟩
theorem ua_5(op:Int)(ho:1≤op)(ho':op≤8)(a b:Int)(s:ByteArray)(hs:s.size≤4611686018427387904)(hok:okV 5 a b s=true):Agree 14 15 #[.int .i64 op,V 5 a b s]:=by
 exact⟨_,_,_,_,_,fun w hT=>UG_node op 5 a b s ho ho' hok a _ 10 10 _ _ _ _ (itV_5 hok) (un_node a op) (answer_err _ 10 (by decide)) w hT,rU_node a b s op ho ho' hs hok⟩
theorem ua_6(op:Int)(ho:1≤op)(ho':op≤8)(a b:Int)(s:ByteArray)(hs:s.size≤4611686018427387904)(hok:okV 6 a b s=true):Agree 14 15 #[.int .i64 op,V 6 a b s]:=by
 exact⟨_,_,_,_,_,fun w hT=>UG_edge op 6 a b s ho ho' hok a _ 10 10 _ _ _ _ (itV_6 hok) (un_edge a op) (answer_err _ 10 (by decide)) w hT,rU_edge a b s op ho ho' hs hok⟩
theorem unary_agree(op k a b:Int)(s:ByteArray)(hs:s.size≤4611686018427387904)(ha:I64 a):Agree 14 15 #[.int .i64 op,V k a b s]:=by
 by_cases ho:op<1∨8<op
 ·exact⟨_,_,_,_,_,fun w _=>Unary_arg op k a b s ho w,rU_arg op k a b s ho⟩
 have h1:1≤op:=by omega
 have h2:op≤8:=by omega
 cases hok:okV k a b s
 ·exact⟨_,_,_,_,_,fun w hT=>Unary_bad op k a b s h1 h2 hok w hT,rU_bad k a b s op h1 h2 hs hok⟩
 ·have hk:=okV_kind k a b s hok
  have:k=0∨k=1∨k=2∨k=3∨k=4∨k=5∨k=6:=by omega
  rcases this with rfl|rfl|rfl|rfl|rfl|rfl|rfl
  ·exact ua_0 op h1 h2 a b s hs hok
  ·exact ua_1 op h1 h2 a b s hs hok
  ·exact ua_2 op h1 h2 a b s hs ha hok
  ·exact ua_3 op h1 h2 a b s hs hok
  ·exact ua_4 op h1 h2 a b s hs hok
  ·exact ua_5 op h1 h2 a b s hs hok
  ·exact ua_6 op h1 h2 a b s hs hok
theorem plays_2(e:Ent)(hk:e.kind=2)(h:Agree 14 15 #[.int .i64 e.op,V e.k e.a e.b e.s])(w:World)(hT:Tabs w):Calls prog 7 #[e.V] w fun r w'=>r=.returned (.bool true)∧G w w':=by
 obtain⟨kind,op,k,a,b,s,k',a',b',s',vs,st,tt,bb,n,x,y,o1,o2⟩:=e
 simp only at hk h
 subst hk
 obtain⟨rk,ra,rb,rs,rc,hA,hB⟩:=h
 have HA:Hid _:=hA
 have HB:Hid _:=hB
 clear hA hB
 go_enter func7,ntmps7
 go_wp2_with fail
 refine(HA.out _ (hT.G ((G.refl w).alloc _))).mono ?_
 rintro e w1 ⟨rfl,hb1⟩
 have g1:G w w1:=((G.refl w).alloc _).trans hb1
 have hc1:=G.cells hb1 (b:=w.heap.size) (f:=fun o=>[I 2,I op,I k,I a,I b,.string s,I k',I a',I b',.string s',vs,.string st,.string tt,bb,I n,I x,I y,I o1,I o2][o]?) (by simp) (by simp)
 have hz1:w.heap.size<w1.heap.size:=by have:=hb1.size;simp at this;omega
 clear hb1
 go_wp2_with fail
 refine(HB.out _).mono ?_
 rintro e w2 ⟨rfl,hb2⟩
 have g2:G w w2:=(g1.alloc _).trans hb2
 have hc2:=G.cells hb2 (b:=w1.heap.size) (f:=fun o=>[I rk,I ra,I rb,.string rs][o]?) (by simp) (by simp)
 have hz2:w1.heap.size<w2.heap.size:=by have:=hb2.size;simp at this;omega
 clear hb2 hc1
 go_wp2
 go_ret
 exact⟨rfl,g2.alloc _⟩
theorem unary_plays(W:World)(hT:Tabs W)(e:Ent)(h:EntOk W e)(h1:2≤e.kind)(h2:e.kind≤2)(w':World)(g:G W w'):Calls prog 7 #[e.V] w' fun r w''=>r=.returned (.bool true)∧G w' w'':=
 plays_2 e (by omega) (unary_agree _ _ _ _ _ (by have:=h.s;unfold reachBytes at this;omega) h.a) w' (hT.G g)
end
section
open Go.RowKit Go.Lib
def cI(x y:Int):Int:=if x<y then -1 else if y<x then 1 else 0
theorem cmp_int(x y:Int)(w:World):Calls prog 92 #[.int .i64 x,.int .i64 y] w fun e w'=>e=.returned (.int .i64 (cI x y))∧w'=w:=by
 unfold cI
 by_cases h1:x<y
 ·go_enter func92,ntmps92
  go_wp2
  go_ret
  exact⟨by first|rfl|(simp;done),rfl⟩
 ·by_cases h2:y<x
  iterate 2
   ·go_enter func92,ntmps92
    go_wp2
    go_ret
    exact⟨by first|rfl|(simp;done),rfl⟩
theorem cmp_i64(x y:Int)(w:World):Calls prog 93 #[.int .i64 x,.int .i64 y] w fun e w'=>e=.returned (.int .i64 (cI x y))∧w'=w:=by
 unfold cI
 by_cases h1:x<y
 ·go_enter func93,ntmps93
  go_wp2
  go_ret
  exact⟨by first|rfl|(simp;done),rfl⟩
 ·by_cases h2:y<x
  iterate 2
   ·go_enter func93,ntmps93
    go_wp2
    go_ret
    exact⟨by first|rfl|(simp;done),rfl⟩
theorem q_cs1:(f159.name==     "runtime.NumGoroutine")=false:=by kernel_rfl
theorem q_cs2:Tryz.f159.body.isNone=true:=by kernel_rfl
theorem q_cs3:Extern.findNext Tryz.f159=none:=by kernel_rfl
theorem q_cs4:Extern.find Tryz.f159=some Extern.BytealgCompare.compare:=by kernel_rfl
theorem run_cs(a b:ByteArray)(w:World):(callFunc 159 #[.string a,.string b]).run prog w=.ok (.value (.int .i64 (compareBytes a.data.toList b.data.toList))) w:=by
 rw[run_callFunc_extern func159 q_cs1 q_cs2 q_cs3 q_cs4,run_compareString]
 rfl
theorem cmp_str(a b:ByteArray)(w:World):Calls prog 94 #[.string a,.string b] w fun e w'=>e=.returned (.int .i64 (compareBytes a.data.toList b.data.toList))∧w'=w:=by
 have h:=run_cs a b
 generalize compareBytes a.data.toList b.data.toList=c at h
 go_enter func94,ntmps94
 go_wp2
 go_ret
 exact⟨rfl,rfl⟩
def or5(a b c d e:Int):Int:=if a≠0 then a else if b≠0 then b else if c≠0 then c else if d≠0 then d else e
theorem or_any(p n:Nat)(f:Nat→Int)(hn:n≤1000)(w:World)(hc:∀i,i<n→w.cell? ⟨p,i,none⟩=some (.int .i64 (f i))) :
  Calls prog 91 #[.slice (some ⟨p,0,none⟩) n n] w fun e w'=>(∃r:Int,e=.returned (.int .i64 r)∧((r=0∧∀i,i<n→f i=0)∨∃m,m<n∧(∀i,i<m→f i=0)∧f m≠0∧r=f m))∧w'=w:=by
 go_enter func91,ntmps91
 go_wp2
 go_loopw [8] (fun i W=>∃m:Nat,m≤n∧i=.int .i64 m∧W=w∧∀j,j<m→f j=0) (fun i _=>n-(RowKit.intOf i).toNat)
 case atStart=>exact⟨0,by omega,rfl,rfl,fun j hj=>absurd hj (Nat.not_lt_zero j)⟩
 case round=>
  obtain⟨m,hm,rfl,rfl,hz⟩:=hrel
  by_cases hlt:m<n
  ·have h0:=hc m hlt
   by_cases hf:f m=0
   ·rw[hf] at h0
    go_wp2
    go_roundw
    case rel=>exact⟨m+1,by omega,by go_num,by trivial,fun j hj=>by
     rcases Nat.lt_or_ge j m with c|c
     ·exact hz j c
     ·have:j=m:=by omega
      rw[this];exact hf⟩
    case measure=>simp[RowKit.intOf];omega
   ·have HF:Hid _:=hf
    have hf':(f m != 0)=true:=by simpa using hf
    clear hf
    generalize hg:f m=g at h0 hf'
    go_wp2
    go_ret
    exact⟨⟨g,rfl,.inr ⟨m,hlt,hz,HF.out,hg.symm⟩⟩,rfl⟩
  ·go_wp2
   go_ret
   exact⟨⟨0,rfl,.inl ⟨rfl,fun i hi=>hz i (by omega)⟩⟩,rfl⟩
end
section
open Go.RowKit Go.Lib
def IVal(x:Value)(k a b:Int)(s:ByteArray):Prop:=
 ∃(t f:Nat) (v:Value),x=.iface t v∧(∀w,(method 351 t v "trellis/value.val").run prog w=.ok (f,v) w)∧(∀w,(callFunc f #[v]).run prog w=.ok (.enter f #[v]) w)∧
  ∀w,Calls prog f #[v] w fun e w'=>e=.returned (V k a b s)∧G w w'
def rkP(n:Nat):Int:=[5,3,4,4,2,0,1].getD n 0
def Rks(w:World):Prop:=(0<w.heap.size)∧∀n,n<7→w.cell? ⟨0,n,none⟩=some (.int .i64 (rkP n))
theorem Rks.G{w w':World}(h:Rks w)(g:G w w'):Rks w':=⟨Nat.lt_of_lt_of_le h.1 g.size,fun n hn=>(g.cell h.1).trans (h.2 n hn)⟩
def CS(w:World)(g B n n':Nat)(a b a' b':Int)(s s':ByteArray)(p p':Int)(W:World):Prop:=
 (∀(o:Nat),W.cell? {block:=B,off:=o}=[I n,I a,I b,Value.string s][o]?)∧(∀(o:Nat),W.cell? {block:=B+1,off:=o}=[I n',I a',I b',Value.string s'][o]?)∧W.cell? {block:=g,off:=n}=some (I p)∧W.cell? {block:=g,off:=n'}=some (I p')∧g<B∧G w W∧B+1<W.heap.size
theorem CS.keep{w W W':World}{g B n n':Nat}{a b a' b':Int}{s s':ByteArray}{p p':Int}(hb:G W W')(h:CS w g B n n' a b a' b' s s' p p' W):CS w g B n n' a b a' b' s s' p p' W':=by
 obtain⟨h1,h2,h3,h4,h5,h6,h7⟩:=h
 exact⟨G.cells hb h1 (by omega),G.cells hb h2 h7,(hb.cell (by omega)).trans h3,(hb.cell (by omega)).trans h4,h5,h6.trans hb,Nat.lt_of_lt_of_le h7 hb.size⟩
theorem or_five(q:Nat)(c0 c1 c2 c3 c4:Int)(w:World)(h0:w.cell? ⟨q,0,none⟩=some (.int .i64 c0))(h1:w.cell? ⟨q,1,none⟩=some (.int .i64 c1))(h2:w.cell? ⟨q,2,none⟩=some (.int .i64 c2))(h3:w.cell? ⟨q,3,none⟩=some (.int .i64 c3))(h4:w.cell? ⟨q,4,none⟩=some (.int .i64 c4)) :
  Calls prog 91 #[.slice (some ⟨q,0,none⟩) 5 5] w fun e w'=>e=.returned (.int .i64 (or5 c0 c1 c2 c3 c4))∧w'=w:=by
 refine(or_any q 5 (fun i=>[c0,c1,c2,c3,c4].getD i 0) (by decide) w (fun i hi=>?_)).mono ?_
 ·have:i=0∨i=1∨i=2∨i=3∨i=4:=by omega
  rcases this with rfl|rfl|rfl|rfl|rfl<;>assumption
 ·rintro e w' ⟨⟨r,rfl,hr⟩,rfl⟩
  refine⟨?_,rfl⟩
  have:r=or5 c0 c1 c2 c3 c4:=by
   unfold or5
   rcases hr with ⟨rfl,hz⟩|⟨m,hm,hz,hne,rfl⟩
   ·have z0:=hz 0 (by decide);have z1:=hz 1 (by decide);have z2:=hz 2 (by decide);have z3:=hz 3 (by decide);have z4:=hz 4 (by decide)
    simp at z0 z1 z2 z3 z4
    simp[z0,z1,z2,z3,z4]
   ·have:m=0∨m=1∨m=2∨m=3∨m=4:=by omega
    rcases this with rfl|rfl|rfl|rfl|rfl
    ·simp at hne;simp[hne]
    ·have z0:=hz 0 (by decide);simp at hne z0;simp[hne,z0]
    ·have z0:=hz 0 (by decide);have z1:=hz 1 (by decide);simp at hne z0 z1;simp[hne,z0,z1]
    ·have z0:=hz 0 (by decide);have z1:=hz 1 (by decide);have z2:=hz 2 (by decide);simp at hne z0 z1 z2;simp[hne,z0,z1,z2]
    ·have z0:=hz 0 (by decide);have z1:=hz 1 (by decide);have z2:=hz 2 (by decide);have z3:=hz 3 (by decide);simp at hne z0 z1 z2 z3;simp[z0,z1,z2,z3]
  rw[this]
theorem compare_any(x y:Value)(n n':Nat)(a b a' b':Int)(s s':ByteArray)(hx:IVal x n a b s)(hy:IVal y n' a' b' s')(hn:n<7)(hn':n'<7)(w:World)(hR:Rks w) :
  Calls prog 48 #[x,y] w fun e w'=>e=.returned (.int .i64 (or5 (cI (rkP n) (rkP n')) (cI a a') (cI n n') (cI b b') (compareBytes s.data.toList s'.data.toList)))∧G w w':=by
 obtain⟨t,f,v,rfl,hm,hf,h1⟩:=hx
 obtain⟨t',f',v',rfl,hm',hf',h2⟩:=hy
 have H1:Hid _:=h1
 have H2:Hid _:=h2
 have i1:(n:Int)<7:=by omega
 have i2:(n':Int)<7:=by omega
 clear h1 h2
 go_enter func48,ntmps48
 go_wp2_with fail
 refine(H1.out _).mono ?_
 rintro e w1 ⟨rfl,hb1⟩
 go_wp2_with fail
 refine(H2.out _).mono ?_
 rintro e w2 ⟨rfl,hb2⟩
 go_wp2_with fail
 have g2:G w w2:=hb1.trans hb2
 have r1:=(hR.G g2).2 n hn
 have r2:=(hR.G g2).2 n' hn'
 have r0:0<w2.heap.size:=(hR.G g2).1
 clear hb1 hb2 hR
 have hc0:∀o,((w2.alloc (.cells #[I n,I a,I b,.string s] 31)).alloc (.cells #[I n',I a',I b',.string s'] 31)).cell? {block:=w2.heap.size,off:=o}=[I n,I a,I b,Value.string s][o]?:=fun o=>by simp
 have hc1:∀o,((w2.alloc (.cells #[I n,I a,I b,.string s] 31)).alloc (.cells #[I n',I a',I b',.string s'] 31)).cell? {block:=w2.heap.size+1,off:=o}=[I n',I a',I b',Value.string s'][o]?:=fun o=>by simp
 have hr1:((w2.alloc (.cells #[I n,I a,I b,.string s] 31)).alloc (.cells #[I n',I a',I b',.string s'] 31)).cell? {block:=0,off:=n}=some (I (rkP n)):=by
  rw[G.cell (((G.refl w2).alloc _).alloc _) r0];exact r1
 have hr2:((w2.alloc (.cells #[I n,I a,I b,.string s] 31)).alloc (.cells #[I n',I a',I b',.string s'] 31)).cell? {block:=0,off:=n'}=some (I (rkP n')):=by
  rw[G.cell (((G.refl w2).alloc _).alloc _) r0];exact r2
 have hg0:G w ((w2.alloc (.cells #[I n,I a,I b,.string s] 31)).alloc (.cells #[I n',I a',I b',.string s'] 31)):=(g2.alloc _).alloc _
 generalize hp:rkP n=p at hr1
 generalize hp':rkP n'=p' at hr2
 have HPP:Hid (rkP n=p∧rkP n'=p'):=⟨hp,hp'⟩
 clear hp hp'
 have hz0:w2.heap.size+1<((w2.alloc (.cells #[I n,I a,I b,.string s] 31)).alloc (.cells #[I n',I a',I b',.string s'] 31)).heap.size:=by simp
 generalize w2.heap.size=B at hc0 hc1 hz0 r0⊢
 generalize (w2.alloc (.cells #[I n,I a,I b,.string s] 31)).alloc (.cells #[I n',I a',I b',.string s'] 31)=w3 at hc0 hc1 hr1 hr2 hg0 hz0⊢
 clear r1 r2 g2
 have hS:CS w 0 B n n' a b a' b' s s' p p' w3:=⟨hc0,hc1,hr1,hr2,r0,hg0,hz0⟩
 clear hc0 hc1 hr1 hr2 r0 hg0 hz0
 unfold CS at hS
 have HO:Hid _:=or_five
 go_region_held3 (fun W=>(∀(o:Nat),W.cell? {block:=B,off:=o}=[I n,I a,I b,Value.string s][o]?)∧(∀(o:Nat),W.cell? {block:=B+1,off:=o}=[I n',I a',I b',Value.string s'][o]?)∧W.cell? {block:=0,off:=n}=some (I p)∧W.cell? {block:=0,off:=n'}=some (I p')∧0<B∧G w W∧B+1<W.heap.size)
  ((first|exact ‹_›|exact CS.keep (G.refl _).drew ‹_›|exact CS.keep ((G.refl _).alloc _) ‹_›|exact CS.keep (((G.refl _).alloc _).drew) ‹_›|exact CS.keep (((G.refl _).drew).alloc _) ‹_›))
  (first|(go_at_call 92;refine(cmp_int _ _ _).mono ?_;rintro e w' ⟨rfl,rfl⟩)|(go_at_call 93;refine(cmp_i64 _ _ _).mono ?_;rintro e w' ⟨rfl,rfl⟩)|(go_at_call 94;refine(cmp_str _ _ _).mono ?_;rintro e w' ⟨rfl,rfl⟩)|(go_at_call 91;refine(HO.out _ (cI p p') (cI a a') (cI n n') (cI b b') (compareBytes s.data.toList s'.data.toList) _ (by simp) (by simp) (by simp) (by simp) (by simp)).mono ?_;rintro e w' ⟨rfl,rfl⟩)|fail)
 rename_i hH
 go_wp2
 go_ret
 exact⟨by rw[HPP.out.1,HPP.out.2];rfl,hH.2.2.2.2.2.1⟩
end
end Go.Proofs.YthmdjhfbhbheeaaGreatDoor
