import Derived.Lib.Bytealg
import Derived.Test.YthmdjhfbhbheeaaGreatDoorUnC
namespace Go.Proofs.YthmdjhfbhbheeaaGreatDoor
open Go.Proofs.Tryz
set_option maxHeartbeats 2000000
set_option maxRecDepth 100000
section
open Go.RowKit Go.Lib Go.Shelf
theorem zBY{s:ByteArray}(h:s.toList.isEmpty=true):s=E0:=by
 have h1:s.toList=[]:=List.isEmpty_iff.1 h;rw[ByteArray.toList_eq] at h1
 cases s with
 | mk d=>
  have:d=#[]:=Array.toList_eq_nil_iff.1 h1;rw[this]
theorem ok_0{a b:Int}{s:ByteArray}(h:okV 0 a b s=true):a=0∧b=0∧s=E0:=by
 simp[okV,Bool.and_eq_true] at h;exact⟨h.1.1,h.1.2,zBY (List.isEmpty_iff.2 h.2)⟩
theorem ok_1{a b:Int}{s:ByteArray}(h:okV 1 a b s=true):(a=0∨a=1)∧b=0∧s=E0:=by
 simp[okV,Bool.and_eq_true] at h;exact⟨h.1.1,h.1.2,zBY (List.isEmpty_iff.2 h.2)⟩
theorem ok_2{a b:Int}{s:ByteArray}(h:okV 2 a b s=true):b=0∧s=E0:=by
 simp[okV,Bool.and_eq_true] at h;exact⟨h.1,zBY (List.isEmpty_iff.2 h.2)⟩
theorem ok_3{a b:Int}{s:ByteArray}(h:okV 3 a b s=true):(-33554432≤a∧a≤33554432)∧(-33554432≤b∧b≤33554432)∧s=E0:=by
 simp[okV,Bool.and_eq_true] at h;exact⟨(zAy a).1 h.1.1,(zAy b).1 h.1.2,zBY (List.isEmpty_iff.2 h.2)⟩
theorem ok_4{a b:Int}{s:ByteArray}(h:okV 4 a b s=true):a=0∧b=0∧s.size≤32∧validD s.data.toList=true:=by
 simp[okV,Bool.and_eq_true] at h;exact⟨h.1.1.1,h.1.1.2,h.1.2,h.2⟩
theorem zEK{a b:Int}{s:ByteArray}(h:okV 0 a b s=true):zAb 0 a b s=.iface 110 (.agg #[]):=by
 simp[zAb,h]
theorem zDu{a b:Int}{s:ByteArray}(h:okV 1 a b s=true):zAb 1 a b s=.iface 111 (.bool (a==1)):=by
 simp[zAb,h]
theorem zAP{a b:Int}{s:ByteArray}(h:okV 2 a b s=true):zAb 2 a b s=.iface 135 (.int .i64 a):=by
 simp[zAb,h]
theorem zBO{a b:Int}{s:ByteArray}(h:okV 3 a b s=true):zAb 3 a b s=.iface 136 (.complex .f64 (fl a) (fl b)):=by
 simp[zAb,h]
theorem zBB{a b:Int}{s:ByteArray}(h:okV 4 a b s=true):zAb 4 a b s=.iface 137 (.string s):=by
 simp[zAb,h]
theorem zE4{a b:Int}{s:ByteArray}(h:okV 5 a b s=true):zAb 5 a b s=.iface 138 (.int .i64 a):=by
 simp[zAb,h]
theorem zE3{a b:Int}{s:ByteArray}(h:okV 6 a b s=true):zAb 6 a b s=.iface 139 (.int .i64 a):=by
 simp[zAb,h]
end
section
open Go.RowKit Go.Lib Go.Shelf
attribute [local go_sem] eqV neqV
def Agree(f g:FuncId)(args:Array Value):Prop:=∃(k a b:Int) (s:ByteArray) (c:Int),(∀w,Tabs w→Calls prog f args w fun e w'=>e=.returned (.tuple #[V k a b s,.int .i64 c])∧G w w')∧
 (∀w,Calls prog g args w fun e w'=>e=.returned (.tuple #[V k a b s,.int .i64 c])∧G w w')
theorem zXM{a b:Int}(a1:-33554432≤a)(a2:a≤33554432)(b1:-33554432≤b)(b2:b≤33554432):wrap64 (a*a)=a*a∧wrap64 (b*b)=b*b∧wrap64 (a*a+b*b)=a*a+b*b:=by
 have m1:=zOu a a1 a2;have m2:=zOu b b1 b2;unfold wrap64;omega
theorem zVu(a b:Int)(s:ByteArray)(n:Nat)(hn:zHk s n)(hs:s.size≤4611686018427387904)(hok:okV 4 a b s=true)(w:World) :
  CG 15 #[.int .i64 7,V 4 a b s] w (.tuple #[V 2 n 0 E0,.int .i64 0]):=by
 have HV:Hid (∀w,CG 26 #[V 4 a b s] w (.bool true)):=by
  have:=zAm 4 a b s hs;rw[hok] at this;exact this
 have HP:Hid _:=zKH s hs (ok_4 hok).2.2.2;have HN:Hid _:=hn;have HW:Hid _:=rwhole n;clear hok hs hn
 go_enter func15,ntmps15
 go_wp2_with fail
 refine(HV.out _).mono ?_;rintro e w1 ⟨rfl,hb1⟩;have hc':=G.cells (b:=w.heap.size) (f:=fun o=>[Value.int IntKind.i64 4,Value.int IntKind.i64 a,Value.int IntKind.i64 b,Value.string s][o]?) (((G.refl _).alloc _).trans hb1) (by simp) (by simp);obtain⟨hc1,hf1⟩:=hb1.rules;have hz1:=hb1.size;simp at hz1
 have hz1':w.heap.size+1<w1.heap.size:=by omega
 go_wp2_with fail
 refine(HP.out _).mono ?_;rintro e w3 ⟨⟨m,rfl,hm⟩,rfl⟩;obtain rfl:=hm.one HN.out;clear hm
 go_wp2_with fail
 refine(HW.out _).mono ?_;rintro e w2 ⟨rfl,hb2⟩;obtain⟨hc2,hf2⟩:=hb2.rules
 go_wp2
 exact bodyPost_ret (v:=.tuple #[V 2 m 0 E0,.int .i64 0]) (by simp[results,results15,go_sem,hc2,hc1,hz1']) rfl ⟨rfl,by
  have gg:G w w2:=((((G.refl _).alloc _).alloc _).trans hb1).trans hb2
  repeat(first|exact gg|refine G.alloc ?_ _|refine G.setCell ?_ (by simp;try omega) _)⟩
theorem zXH(s:ByteArray):∃n,zHk s n:=by
 by_cases h:∃n,s.size≤stp s n
 ·obtain⟨n,hn⟩:=h
  induction n with
  | zero=>exact⟨0,hn,fun m hm=>absurd hm (Nat.not_lt_zero m)⟩
  | succ n ih=>
   by_cases h2:s.size≤stp s n
   ·exact ih h2
   ·by_cases h3:∀m,m<n+1→stp s m<s.size
    ·exact⟨n+1,hn,h3⟩
    ·exfalso
     have mono:∀m k,stp s m≤stp s (m+k):=fun m k=>by
      induction k with
      | zero=>exact Nat.le_refl _
      | succ k ih=>exact Nat.le_trans ih (Nat.le_add_right _ _)
     refine h3 fun m hm=>?_;have:=mono m (n-m);rw[show m+(n-m)=n by omega] at this;omega
 ·exfalso
  have h1:∀n,stp s n<s.size:=fun n=>by
   rcases Nat.lt_or_ge (stp s n) s.size with e|e
   ·exact e
   ·exact absurd ⟨n,e⟩ h
  have:=zIH s s.size (fun m _=>h1 m);have:=h1 s.size;omega
theorem ua_0(op:Int)(ho:1≤op)(ho':op≤8)(a b:Int)(s:ByteArray)(hs:s.size≤4611686018427387904)(hok:okV 0 a b s=true):Agree 14 15 #[.int .i64 op,V 0 a b s]:=by
 obtain⟨rfl,rfl,rfl⟩:=ok_0 hok;exact⟨_,_,_,_,_,fun w hT=>zUy op 0 0 0 E0 ho ho' hok _ 0 0 _ _ _ _ (zEK hok) (zRI op) zAh w hT,zSy 0 0 E0 op ho ho' hs hok⟩
theorem ua_1(op:Int)(ho:1≤op)(ho':op≤8)(a b:Int)(s:ByteArray)(hs:s.size≤4611686018427387904)(hok:okV 1 a b s=true):Agree 14 15 #[.int .i64 op,V 1 a b s]:=by
 obtain⟨h01,rfl,rfl⟩:=ok_1 hok
 by_cases h2:op=2
 ·subst h2
  rcases h01 with rfl|rfl
  ·exact⟨_,_,_,_,_,fun w hT=>zGm 2 1 0 0 E0 (by decide) (by decide) hok false _ 0 0 _ _ _ _ (zDu hok) (zIt false) zA0 w hT,zVt 0 0 E0 rfl hs hok⟩
  ·exact⟨_,_,_,_,_,fun w hT=>zGm 2 1 1 0 E0 (by decide) (by decide) hok true _ 0 0 _ _ _ _ (zDu hok) (zIt true) zA1 w hT,zSz 1 0 E0 rfl hs hok⟩
 ·have z:(op==2)=false:=by simpa using h2
  exact⟨_,_,_,_,_,fun w hT=>zGm op 1 a 0 E0 ho ho' hok (a==1) _ 10 10 _ _ _ _ (zDu hok) (zHq (a==1) op z) (zAa _ 10 (by decide)) w hT,zKF a 0 E0 op ho ho' z hs hok⟩
theorem ua_2(op:Int)(ho:1≤op)(ho':op≤8)(a b:Int)(s:ByteArray)(hs:s.size≤4611686018427387904)(ha:I64 a)(hok:okV 2 a b s=true):Agree 14 15 #[.int .i64 op,V 2 a b s]:=by
 obtain⟨rfl,rfl⟩:=ok_2 hok;have a1:=ha.1;have a2:=ha.2
 have h8:op=1∨op=2∨op=3∨op=4∨op=5∨op=6∨op=7∨op=8:=by omega
 rcases h8 with rfl|rfl|rfl|rfl|rfl|rfl|rfl|rfl
 ·by_cases hm:a = -9223372036854775808
  ·have hm':¬I64 (0-a):=by unfold I64;omega
   subst hm;exact⟨_,_,_,_,_,fun w hT=>zA2 1 2 (-9223372036854775808) 0 E0 (by decide) (by decide) hok _ _ 11 11 _ _ _ _ (zAP hok) (zLd _ ha hm') (zAa _ 11 (by decide)) w hT,zCq (-9223372036854775808) 0 E0 1 (by decide) (by decide) _ _ _ _ _ (zLT) hs hok⟩
  ·exact⟨_,_,_,_,_,fun w hT=>zA2 1 2 a 0 E0 (by decide) (by decide) hok a _ 0 0 _ _ _ _ (zAP hok) (zUE a (by unfold I64;omega)) (zAg _) w hT,zCq a 0 E0 1 (by decide) (by decide) _ _ _ _ _ (zVb a (by omega) a2) hs hok⟩
 ·exact⟨_,_,_,_,_,fun w hT=>zA2 2 2 a 0 E0 (by decide) (by decide) hok a _ 10 10 _ _ _ _ (zAP hok) (zEj a 2 (by decide)) (zAa _ 10 (by decide)) w hT,zCq a 0 E0 2 (by decide) (by decide) _ _ _ _ _ (zVa a 2 (by decide)) hs hok⟩
 ·exact⟨_,_,_,_,_,fun w hT=>zA2 3 2 a 0 E0 (by decide) (by decide) hok a _ 0 0 _ _ _ _ (zAP hok) (zJS a) (zAg _) w hT,zCq a 0 E0 3 (by decide) (by decide) _ _ _ _ _ (ri_3 a) hs hok⟩
 ·exact⟨_,_,_,_,_,fun w hT=>zA2 4 2 a 0 E0 (by decide) (by decide) hok a _ 0 0 _ _ _ _ (zAP hok) (zJR a) (zAg _) w hT,zCq a 0 E0 4 (by decide) (by decide) _ _ _ _ _ (ri_4 a) hs hok⟩
 ·exact⟨_,_,_,_,_,fun w hT=>zA2 5 2 a 0 E0 (by decide) (by decide) hok a _ 0 0 _ _ _ _ (zAP hok) (zJQ a) (zAg _) w hT,zCq a 0 E0 5 (by decide) (by decide) _ _ _ _ _ (ri_5 a) hs hok⟩
 ·by_cases h:I64 (a*a)
  ·exact⟨_,_,_,_,_,fun w hT=>zA2 6 2 a 0 E0 (by decide) (by decide) hok a _ 0 0 _ _ _ _ (zAP hok) (zRJ a ha h) (zAg _) w hT,zCq a 0 E0 6 (by decide) (by decide) _ _ _ _ _ (zSj a ha h) hs hok⟩
  ·exact⟨_,_,_,_,_,fun w hT=>zA2 6 2 a 0 E0 (by decide) (by decide) hok a _ 11 11 _ _ _ _ (zAP hok) (zJT a ha h) (zAa _ 11 (by decide)) w hT,zCq a 0 E0 6 (by decide) (by decide) _ _ _ _ _ (zKt a ha h) hs hok⟩
 ·exact⟨_,_,_,_,_,fun w hT=>zA2 7 2 a 0 E0 (by decide) (by decide) hok a _ 10 10 _ _ _ _ (zAP hok) (zEj a 7 (by decide)) (zAa _ 10 (by decide)) w hT,zCq a 0 E0 7 (by decide) (by decide) _ _ _ _ _ (zVa a 7 (by decide)) hs hok⟩
 ·by_cases h0:a<0
  ·by_cases hm:a = -9223372036854775808
   ·have hm':¬I64 (0-a):=by unfold I64;omega
    subst hm;exact⟨_,_,_,_,_,fun w hT=>zA2 8 2 (-9223372036854775808) 0 E0 (by decide) (by decide) hok _ _ 11 11 _ _ _ _ (zAP hok) (zLe _ h0 ha hm') (zAa _ 11 (by decide)) w hT,zCq (-9223372036854775808) 0 E0 8 (by decide) (by decide) _ _ _ _ _ (zLU) hs hok⟩
   ·exact⟨_,_,_,_,_,fun w hT=>zA2 8 2 a 0 E0 (by decide) (by decide) hok a _ 0 0 _ _ _ _ (zAP hok) (zUG a h0 (by unfold I64;omega)) (zAg _) w hT,zCq a 0 E0 8 (by decide) (by decide) _ _ _ _ _ (zVc a h0 (by omega) a2) hs hok⟩
  ·exact⟨_,_,_,_,_,fun w hT=>zA2 8 2 a 0 E0 (by decide) (by decide) hok a _ 0 0 _ _ _ _ (zAP hok) (zJP a h0) (zAg _) w hT,zCq a 0 E0 8 (by decide) (by decide) _ _ _ _ _ (zHy a h0) hs hok⟩
theorem ua_3(op:Int)(ho:1≤op)(ho':op≤8)(a b:Int)(s:ByteArray)(hs:s.size≤4611686018427387904)(hok:okV 3 a b s=true):Agree 14 15 #[.int .i64 op,V 3 a b s]:=by
 obtain⟨⟨a1,a2⟩,⟨b1,b2⟩,rfl⟩:=ok_3 hok;have fa:Fl (fl a) a:=Fl.ofInt a (by omega);have fb:Fl (fl b) b:=Fl.ofInt b (by omega);obtain⟨m1,m2,m3⟩:=zXM a1 a2 b1 b2
 have h8:op=1∨op=2∨op=3∨op=4∨op=5∨op=6∨op=7∨op=8:=by omega
 rcases h8 with rfl|rfl|rfl|rfl|rfl|rfl|rfl|rfl
 ·exact⟨_,_,_,_,_,fun w hT=>zD3 1 3 a b E0 (by decide) (by decide) hok (fl a) (fl b) _ 0 0 _ _ _ _ (zBO hok) (zWL _ _) (zA9 _ _ (-a) (-b) fa.neg fb.neg (by omega) (by omega)) w hT,zDU a b E0 1 (by decide) (by decide) _ _ _ _ _ (zVr a b a1 a2 b1 b2) hs hok⟩
 ·exact⟨_,_,_,_,_,fun w hT=>zD3 2 3 a b E0 (by decide) (by decide) hok (fl a) (fl b) _ 10 10 _ _ _ _ (zBO hok) (zUf _ _ 2 (by decide)) (zAa _ 10 (by decide)) w hT,zDU a b E0 2 (by decide) (by decide) _ _ _ _ _ (zSt a b 2 (by decide)) hs hok⟩
 ·exact⟨_,_,_,_,_,fun w hT=>zD3 3 3 a b E0 (by decide) (by decide) hok (fl a) (fl b) _ 0 0 _ _ _ _ (zBO hok) (zYn _ _ a fa (by omega)) (zAg _) w hT,zDU a b E0 3 (by decide) (by decide) _ _ _ _ _ (zXz a b) hs hok⟩
 ·exact⟨_,_,_,_,_,fun w hT=>zD3 4 3 a b E0 (by decide) (by decide) hok (fl a) (fl b) _ 0 0 _ _ _ _ (zBO hok) (zYo _ _ b fb (by omega)) (zAg _) w hT,zDU a b E0 4 (by decide) (by decide) _ _ _ _ _ (zXA a b) hs hok⟩
 ·exact⟨_,_,_,_,_,fun w hT=>zD3 5 3 a b E0 (by decide) (by decide) hok (fl a) (fl b) _ 0 0 _ _ _ _ (zBO hok) (zUg _ _) (zA9 _ _ a (-b) fa fb.neg (by omega) (by omega)) w hT,zDU a b E0 5 (by decide) (by decide) _ _ _ _ _ (zSu a b b1 b2) hs hok⟩
 ·exact⟨_,_,_,_,_,fun w hT=>zD3 6 3 a b E0 (by decide) (by decide) hok (fl a) (fl b) _ 0 0 _ _ _ _ (zBO hok) (zUe _ _ a b fa fb a1 a2 b1 b2) (zAg _) w hT,zDU a b E0 6 (by decide) (by decide) _ _ _ _ _ (zSs a b m1 m2 m3) hs hok⟩
 ·exact⟨_,_,_,_,_,fun w hT=>zD3 7 3 a b E0 (by decide) (by decide) hok (fl a) (fl b) _ 10 10 _ _ _ _ (zBO hok) (zUf _ _ 7 (by decide)) (zAa _ 10 (by decide)) w hT,zDU a b E0 7 (by decide) (by decide) _ _ _ _ _ (zSt a b 7 (by decide)) hs hok⟩
 ·exact⟨_,_,_,_,_,fun w hT=>zD3 8 3 a b E0 (by decide) (by decide) hok (fl a) (fl b) _ 10 10 _ _ _ _ (zBO hok) (zUf _ _ 8 (by decide)) (zAa _ 10 (by decide)) w hT,zDU a b E0 8 (by decide) (by decide) _ _ _ _ _ (zSt a b 8 (by decide)) hs hok⟩
theorem ua_4(op:Int)(ho:1≤op)(ho':op≤8)(a b:Int)(s:ByteArray)(hs:s.size≤4611686018427387904)(hok:okV 4 a b s=true):Agree 14 15 #[.int .i64 op,V 4 a b s]:=by
 by_cases h7:op=7
 ·subst h7
  obtain⟨n,hn⟩:=zXH s;exact⟨_,_,_,_,_,fun w hT=>zRC 7 4 a b s (by decide) (by decide) hok s _ 0 0 _ _ _ _ (zBB hok) (zOj s n hn hs) (zAg _) w hT,zVu a b s n hn hs hok⟩
 ·have z:(op==7)=false:=by simpa using h7
  exact⟨_,_,_,_,_,fun w hT=>zRC op 4 a b s ho ho' hok s _ 10 10 _ _ _ _ (zBB hok) (zLc s op z) (zAa _ 10 (by decide)) w hT,zMa a b s op ho ho' z hs hok⟩
theorem ua_5(op:Int)(ho:1≤op)(ho':op≤8)(a b:Int)(s:ByteArray)(hs:s.size≤4611686018427387904)(hok:okV 5 a b s=true):Agree 14 15 #[.int .i64 op,V 5 a b s]:=by
 exact⟨_,_,_,_,_,fun w hT=>zUz op 5 a b s ho ho' hok a _ 10 10 _ _ _ _ (zE4 hok) (zRK a op) (zAa _ 10 (by decide)) w hT,zSA a b s op ho ho' hs hok⟩
theorem ua_6(op:Int)(ho:1≤op)(ho':op≤8)(a b:Int)(s:ByteArray)(hs:s.size≤4611686018427387904)(hok:okV 6 a b s=true):Agree 14 15 #[.int .i64 op,V 6 a b s]:=by
 exact⟨_,_,_,_,_,fun w hT=>zUA op 6 a b s ho ho' hok a _ 10 10 _ _ _ _ (zE3 hok) (zRL a op) (zAa _ 10 (by decide)) w hT,zSB a b s op ho ho' hs hok⟩
theorem zHp(op k a b:Int)(s:ByteArray)(hs:s.size≤4611686018427387904)(ha:I64 a):Agree 14 15 #[.int .i64 op,V k a b s]:=by
 by_cases ho:op<1∨8<op
 ·exact⟨_,_,_,_,_,fun w _=>zOb op k a b s ho w,zVw op k a b s ho⟩
 have h1:1≤op:=by omega
 have h2:op≤8:=by omega
 cases hok:okV k a b s
 ·exact⟨_,_,_,_,_,fun w hT=>zOa op k a b s h1 h2 hok w hT,zVv k a b s op h1 h2 hs hok⟩
 ·have hk:=zAp k a b s hok
  have:k=0∨k=1∨k=2∨k=3∨k=4∨k=5∨k=6:=by omega
  rcases this with rfl|rfl|rfl|rfl|rfl|rfl|rfl
  ·exact ua_0 op h1 h2 a b s hs hok
  ·exact ua_1 op h1 h2 a b s hs hok
  ·exact ua_2 op h1 h2 a b s hs ha hok
  ·exact ua_3 op h1 h2 a b s hs hok
  ·exact ua_4 op h1 h2 a b s hs hok
  ·exact ua_5 op h1 h2 a b s hs hok
  ·exact ua_6 op h1 h2 a b s hs hok
theorem zS9(e:Ent)(hk:e.kind=2)(h:Agree 14 15 #[.int .i64 e.op,V e.k e.a e.b e.s])(w:World)(hT:Tabs w):CG 7 #[e.V] w (.bool true):=by
 obtain⟨kind,op,k,a,b,s,k',a',b',s',vs,st,tt,bb,n,x,y,o1,o2⟩:=e;simp only at hk h;subst hk;obtain⟨rk,ra,rb,rs,rc,hA,hB⟩:=h;have HA:Hid _:=hA;have HB:Hid _:=hB;clear hA hB
 go_enter func7,ntmps7
 go_wp2_with fail
 refine(HA.out _ (hT.G ((G.refl w).alloc _))).mono ?_;rintro e w1 ⟨rfl,hb1⟩;have g1:G w w1:=((G.refl w).alloc _).trans hb1;have hc1:=G.cells hb1 (b:=w.heap.size) (f:=fun o=>[I 2,I op,I k,I a,I b,.string s,I k',I a',I b',.string s',vs,.string st,.string tt,bb,I n,I x,I y,I o1,I o2][o]?) (by simp) (by simp)
 have hz1:w.heap.size<w1.heap.size:=by have:=hb1.size;simp at this;omega
 clear hb1
 go_wp2_with fail
 refine(HB.out _).mono ?_;rintro e w2 ⟨rfl,hb2⟩;have g2:G w w2:=(g1.alloc _).trans hb2;have hc2:=G.cells hb2 (b:=w1.heap.size) (f:=fun o=>[I rk,I ra,I rb,.string rs][o]?) (by simp) (by simp)
 have hz2:w1.heap.size<w2.heap.size:=by have:=hb2.size;simp at this;omega
 clear hb2 hc1
 go_wp2
 go_ret;exact⟨rfl,g2.alloc _⟩
theorem zHo(W:World)(hT:Tabs W)(e:Ent)(h:zDn W e)(h1:2≤e.kind)(h2:e.kind≤2)(w':World)(g:G W w'):Calls prog 7 #[e.V] w' fun r w''=>r=.returned (.bool true)∧G w' w'':=
 zS9 e (by omega) (zHp _ _ _ _ _ (by have:=h.s;unfold reachBytes at this;omega) h.a) w' (hT.G g)
end
section
open Go.RowKit Go.Lib
def cI(x y:Int):Int:=if x<y then -1 else if y<x then 1 else 0
theorem zUj(x y:Int)(w:World):Calls prog 92 #[.int .i64 x,.int .i64 y] w fun e w'=>e=.returned (.int .i64 (cI x y))∧w'=w:=by
 unfold cI
 by_cases h1:x<y
 ·go_enter func92,ntmps92
  go_wp2
  go_ret;exact⟨by first|rfl|(simp;done),rfl⟩
 ·by_cases h2:y<x
  iterate 2
   ·go_enter func92,ntmps92
    go_wp2
    go_ret;exact⟨by first|rfl|(simp;done),rfl⟩
theorem zUk(x y:Int)(w:World):Calls prog 93 #[.int .i64 x,.int .i64 y] w fun e w'=>e=.returned (.int .i64 (cI x y))∧w'=w:=by
 unfold cI
 by_cases h1:x<y
 ·go_enter func93,ntmps93
  go_wp2
  go_ret;exact⟨by first|rfl|(simp;done),rfl⟩
 ·by_cases h2:y<x
  iterate 2
   ·go_enter func93,ntmps93
    go_wp2
    go_ret;exact⟨by first|rfl|(simp;done),rfl⟩
theorem zXG:(f159.name==     "runtime.NumGoroutine")=false:=by kernel_rfl
theorem zXF:Tryz.f159.body.isNone=true:=by kernel_rfl
theorem zXE:Extern.findNext Tryz.f159=none:=by kernel_rfl
theorem zXD:Extern.find Tryz.f159=some Extern.BytealgCompare.compare:=by kernel_rfl
theorem zUV(a b:ByteArray)(w:World):(callFunc 159 #[.string a,.string b]).run prog w=.ok (.value (.int .i64 (compareBytes a.data.toList b.data.toList))) w:=by
 rw[run_callFunc_extern func159 zXG zXF zXE zXD,run_compareString];rfl
theorem zUi(a b:ByteArray)(w:World):Calls prog 94 #[.string a,.string b] w fun e w'=>e=.returned (.int .i64 (compareBytes a.data.toList b.data.toList))∧w'=w:=by
 have h:=zUV a b;generalize compareBytes a.data.toList b.data.toList=c at h
 go_enter func94,ntmps94
 go_wp2
 go_ret;exact⟨rfl,rfl⟩
def or5(a b c d e:Int):Int:=if a≠0 then a else if b≠0 then b else if c≠0 then c else if d≠0 then d else e
theorem zVL(p n:Nat)(f:Nat→Int)(hn:n≤1000)(w:World)(hc:∀i,i<n→w.cell? ⟨p,i,none⟩=some (.int .i64 (f i))) :
  Calls prog 91 #[.slice (some ⟨p,0,none⟩) n n] w fun e w'=>(∃r:Int,e=.returned (.int .i64 r)∧((r=0∧∀i,i<n→f i=0)∨∃m,m<n∧(∀i,i<m→f i=0)∧f m≠0∧r=f m))∧w'=w:=by
 go_enter func91,ntmps91
 go_wp2
 go_loopw [8] (fun i W=>∃m:Nat,m≤n∧i=.int .i64 m∧W=w∧∀j,j<m→f j=0) (fun i _=>n-(RowKit.intOf i).toNat)
 case atStart=>exact⟨0,by omega,rfl,rfl,fun j hj=>absurd hj (Nat.not_lt_zero j)⟩
 case round=>
  obtain⟨m,hm,rfl,rfl,hz⟩:=hrel
  by_cases hlt:m<n
  ·have h0:=hc m hlt
   by_cases hf:f m=0
   ·rw[hf] at h0
    go_wp2
    go_roundw
    case rel=>exact⟨m+1,by omega,by go_num,by trivial,fun j hj=>by
     rcases Nat.lt_or_ge j m with c|c
     ·exact hz j c
     ·have:j=m:=by omega
      rw[this];exact hf⟩
    case measure=>simp[RowKit.intOf];omega
   ·have HF:Hid _:=hf
    have hf':(f m != 0)=true:=by simpa using hf
    clear hf;generalize hg:f m=g at h0 hf'
    go_wp2
    go_ret;exact⟨⟨g,rfl,.inr ⟨m,hlt,hz,HF.out,hg.symm⟩⟩,rfl⟩
  ·go_wp2
   go_ret;exact⟨⟨0,rfl,.inl ⟨rfl,fun i hi=>hz i (by omega)⟩⟩,rfl⟩
end
section
open Go.RowKit Go.Lib
def IVal(x:Value)(k a b:Int)(s:ByteArray):Prop:=
 ∃(t f:Nat) (v:Value),x=.iface t v∧(∀w,(method 351 t v "trellis/value.val").run prog w=.ok (f,v) w)∧(∀w,(callFunc f #[v]).run prog w=.ok (.enter f #[v]) w)∧
  ∀w,CG f #[v] w (V k a b s)
def rkP(n:Nat):Int:=[5,3,4,4,2,0,1].getD n 0
def Rks(w:World):Prop:=(0<w.heap.size)∧∀n,n<7→w.cell? ⟨0,n,none⟩=some (.int .i64 (rkP n))
theorem Rks.G{w w':World}(h:Rks w)(g:G w w'):Rks w':=⟨Nat.lt_of_lt_of_le h.1 g.size,fun n hn=>(g.cell h.1).trans (h.2 n hn)⟩
def CS(w:World)(g B n n':Nat)(a b a' b':Int)(s s':ByteArray)(p p':Int)(W:World):Prop:=
 (∀(o:Nat),W.cell? {block:=B,off:=o}=[I n,I a,I b,Value.string s][o]?)∧(∀(o:Nat),W.cell? {block:=B+1,off:=o}=[I n',I a',I b',Value.string s'][o]?)∧W.cell? {block:=g,off:=n}=some (I p)∧W.cell? {block:=g,off:=n'}=some (I p')∧g<B∧G w W∧B+1<W.heap.size
theorem CS.keep{w W W':World}{g B n n':Nat}{a b a' b':Int}{s s':ByteArray}{p p':Int}(hb:G W W')(h:CS w g B n n' a b a' b' s s' p p' W):CS w g B n n' a b a' b' s s' p p' W':=by
 obtain⟨h1,h2,h3,h4,h5,h6,h7⟩:=h;exact⟨G.cells hb h1 (by omega),G.cells hb h2 h7,(hb.cell (by omega)).trans h3,(hb.cell (by omega)).trans h4,h5,h6.trans hb,Nat.lt_of_lt_of_le h7 hb.size⟩
theorem zTg(q:Nat)(c0 c1 c2 c3 c4:Int)(w:World)(h0:w.cell? ⟨q,0,none⟩=some (.int .i64 c0))(h1:w.cell? ⟨q,1,none⟩=some (.int .i64 c1))(h2:w.cell? ⟨q,2,none⟩=some (.int .i64 c2))(h3:w.cell? ⟨q,3,none⟩=some (.int .i64 c3))(h4:w.cell? ⟨q,4,none⟩=some (.int .i64 c4)) :
  Calls prog 91 #[.slice (some ⟨q,0,none⟩) 5 5] w fun e w'=>e=.returned (.int .i64 (or5 c0 c1 c2 c3 c4))∧w'=w:=by
 refine(zVL q 5 (fun i=>[c0,c1,c2,c3,c4].getD i 0) (by decide) w (fun i hi=>?_)).mono ?_
 ·have:i=0∨i=1∨i=2∨i=3∨i=4:=by omega
  rcases this with rfl|rfl|rfl|rfl|rfl<;>assumption
 ·rintro e w' ⟨⟨r,rfl,hr⟩,rfl⟩
  refine⟨?_,rfl⟩
  have:r=or5 c0 c1 c2 c3 c4:=by
   unfold or5
   rcases hr with ⟨rfl,hz⟩|⟨m,hm,hz,hne,rfl⟩
   ·have z0:=hz 0 (by decide);have z1:=hz 1 (by decide);have z2:=hz 2 (by decide);have z3:=hz 3 (by decide);have z4:=hz 4 (by decide)
    simp at z0 z1 z2 z3 z4;simp[z0,z1,z2,z3,z4]
   ·have:m=0∨m=1∨m=2∨m=3∨m=4:=by omega
    rcases this with rfl|rfl|rfl|rfl|rfl
    ·simp at hne;simp[hne]
    ·have z0:=hz 0 (by decide);simp at hne z0;simp[hne,z0]
    ·have z0:=hz 0 (by decide);have z1:=hz 1 (by decide);simp at hne z0 z1;simp[hne,z0,z1]
    ·have z0:=hz 0 (by decide);have z1:=hz 1 (by decide);have z2:=hz 2 (by decide);simp at hne z0 z1 z2;simp[hne,z0,z1,z2]
    ·have z0:=hz 0 (by decide);have z1:=hz 1 (by decide);have z2:=hz 2 (by decide);have z3:=hz 3 (by decide);simp at hne z0 z1 z2 z3;simp[z0,z1,z2,z3]
  rw[this]
theorem zAG(x y:Value)(n n':Nat)(a b a' b':Int)(s s':ByteArray)(hx:IVal x n a b s)(hy:IVal y n' a' b' s')(hn:n<7)(hn':n'<7)(w:World)(hR:Rks w) :
  Calls prog 48 #[x,y] w fun e w'=>e=.returned (.int .i64 (or5 (cI (rkP n) (rkP n')) (cI a a') (cI n n') (cI b b') (compareBytes s.data.toList s'.data.toList)))∧G w w':=by
 obtain⟨t,f,v,rfl,hm,hf,h1⟩:=hx;obtain⟨t',f',v',rfl,hm',hf',h2⟩:=hy;have H1:Hid _:=h1;have H2:Hid _:=h2
 have i1:(n:Int)<7:=by omega
 have i2:(n':Int)<7:=by omega
 clear h1 h2
 go_enter func48,ntmps48
 go_wp2_with fail
 refine(H1.out _).mono ?_;rintro e w1 ⟨rfl,hb1⟩
 go_wp2_with fail
 refine(H2.out _).mono ?_;rintro e w2 ⟨rfl,hb2⟩
 go_wp2_with fail
 have g2:G w w2:=hb1.trans hb2;have r1:=(hR.G g2).2 n hn;have r2:=(hR.G g2).2 n' hn';have r0:0<w2.heap.size:=(hR.G g2).1;clear hb1 hb2 hR
 have hc0:∀o,((w2.alloc (.cells #[I n,I a,I b,.string s] 31)).alloc (.cells #[I n',I a',I b',.string s'] 31)).cell? {block:=w2.heap.size,off:=o}=[I n,I a,I b,Value.string s][o]?:=fun o=>by simp
 have hc1:∀o,((w2.alloc (.cells #[I n,I a,I b,.string s] 31)).alloc (.cells #[I n',I a',I b',.string s'] 31)).cell? {block:=w2.heap.size+1,off:=o}=[I n',I a',I b',Value.string s'][o]?:=fun o=>by simp
 have hr1:((w2.alloc (.cells #[I n,I a,I b,.string s] 31)).alloc (.cells #[I n',I a',I b',.string s'] 31)).cell? {block:=0,off:=n}=some (I (rkP n)):=by
  rw[G.cell (((G.refl w2).alloc _).alloc _) r0];exact r1
 have hr2:((w2.alloc (.cells #[I n,I a,I b,.string s] 31)).alloc (.cells #[I n',I a',I b',.string s'] 31)).cell? {block:=0,off:=n'}=some (I (rkP n')):=by
  rw[G.cell (((G.refl w2).alloc _).alloc _) r0];exact r2
 have hg0:G w ((w2.alloc (.cells #[I n,I a,I b,.string s] 31)).alloc (.cells #[I n',I a',I b',.string s'] 31)):=(g2.alloc _).alloc _;generalize hp:rkP n=p at hr1;generalize hp':rkP n'=p' at hr2;have HPP:Hid (rkP n=p∧rkP n'=p'):=⟨hp,hp'⟩;clear hp hp'
 have hz0:w2.heap.size+1<((w2.alloc (.cells #[I n,I a,I b,.string s] 31)).alloc (.cells #[I n',I a',I b',.string s'] 31)).heap.size:=by simp
 generalize w2.heap.size=B at hc0 hc1 hz0 r0⊢;generalize (w2.alloc (.cells #[I n,I a,I b,.string s] 31)).alloc (.cells #[I n',I a',I b',.string s'] 31)=w3 at hc0 hc1 hr1 hr2 hg0 hz0⊢;clear r1 r2 g2;have hS:CS w 0 B n n' a b a' b' s s' p p' w3:=⟨hc0,hc1,hr1,hr2,r0,hg0,hz0⟩;clear hc0 hc1 hr1 hr2 r0 hg0 hz0;unfold CS at hS;have HO:Hid _:=zTg
 go_region_held3 (fun W=>(∀(o:Nat),W.cell? {block:=B,off:=o}=[I n,I a,I b,Value.string s][o]?)∧(∀(o:Nat),W.cell? {block:=B+1,off:=o}=[I n',I a',I b',Value.string s'][o]?)∧W.cell? {block:=0,off:=n}=some (I p)∧W.cell? {block:=0,off:=n'}=some (I p')∧0<B∧G w W∧B+1<W.heap.size)
  ((first|exact ‹_›|exact CS.keep (G.refl _).drew ‹_›|exact CS.keep ((G.refl _).alloc _) ‹_›|exact CS.keep (((G.refl _).alloc _).drew) ‹_›|exact CS.keep (((G.refl _).drew).alloc _) ‹_›))
  (first|(go_at_call 92;refine(zUj _ _ _).mono ?_;rintro e w' ⟨rfl,rfl⟩)|(go_at_call 93;refine(zUk _ _ _).mono ?_;rintro e w' ⟨rfl,rfl⟩)|(go_at_call 94;refine(zUi _ _ _).mono ?_;rintro e w' ⟨rfl,rfl⟩)|(go_at_call 91;refine(HO.out _ (cI p p') (cI a a') (cI n n') (cI b b') (compareBytes s.data.toList s'.data.toList) _ (by simp) (by simp) (by simp) (by simp) (by simp)).mono ?_;rintro e w' ⟨rfl,rfl⟩)|fail)
 rename_i hH
 go_wp2
 go_ret;exact⟨by rw[HPP.out.1,HPP.out.2];rfl,hH.2.2.2.2.2.1⟩
end
end Go.Proofs.YthmdjhfbhbheeaaGreatDoor
