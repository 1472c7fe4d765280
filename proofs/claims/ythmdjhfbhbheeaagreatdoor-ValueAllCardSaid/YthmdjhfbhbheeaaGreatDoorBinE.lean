import Derived.Test.YthmdjhfbhbheeaaGreatDoorBinD
namespace Go.Proofs.YthmdjhfbhbheeaaGreatDoor
open Go.Proofs.Tryz
set_option maxHeartbeats 1000000
set_option maxRecDepth 100000
section
open Go.RowKit Go.Lib Go.Shelf
theorem eqv_q(k a b k' a' b':Int)(s s':ByteArray)(w:World):(binOp .eql 31 (V k a b s) (V k' a' b' s')).run prog w=.ok (.bool ((k==k')&&(a==a')&&(b==b')&&(s.toList==s'.toList))) w:=eqV k a b k' a' b' s s' w
theorem equal_n(x y:Value)(k a b k' a' b':Int)(s s':ByteArray)(hx:IVal x k a b s)(hy:IVal y k' a' b' s')(h1:∀w,(Instr.typeAssert x 49 135 true).run prog w=.ok (.tuple #[.int .i64 0,.bool false]) w)(h2:∀w,(Instr.typeAssert x 49 136 true).run prog w=.ok (.tuple #[.complex .f64 0 0,.bool false]) w)(w:World) :
  Calls prog 84 #[x,y] w fun e w'=>e=.returned (.bool ((k==k')&&(a==a')&&(b==b')&&(s.toList==s'.toList)))∧G w w':=by
 obtain⟨t,f,v,rfl,hm,hf,g1⟩:=hx
 obtain⟨t',f',v',rfl,hm',hf',g2⟩:=hy
 have H1:Hid _:=g1
 have H2:Hid _:=g2
 have he:=eqv_q k a b k' a' b' s s'
 generalize ((k==k')&&(a==a')&&(b==b')&&(s.toList==s'.toList))=q at he⊢
 clear g1 g2
 go_enter func84,ntmps84
 go_wp2_with fail
 refine(H1.out _).mono ?_
 rintro e w1 ⟨rfl,hb1⟩
 go_wp2_with fail
 refine(H2.out _).mono ?_
 rintro e w2 ⟨rfl,hb2⟩
 go_wp2
 go_ret
 exact⟨rfl,hb1.trans hb2⟩
theorem equal_w(m:Int)(y:Value)(k a b k' a' b':Int)(s s':ByteArray)(hx:IVal (.iface 135 (.int .i64 m)) k a b s)(hy:IVal y k' a' b' s')(h2:∀w,(Instr.typeAssert y 49 136 true).run prog w=.ok (.tuple #[.complex .f64 0 0,.bool false]) w)(w:World) :
  Calls prog 84 #[.iface 135 (.int .i64 m),y] w fun e w'=>e=.returned (.bool ((k==k')&&(a==a')&&(b==b')&&(s.toList==s'.toList)))∧G w w':=by
 have h1:=as_whole_whole (.int .i64 m)
 have h3:=as_whole_cpx (.int .i64 m)
 generalize hz:Value.iface 135 (.int .i64 m)=z at hx h1 h3⊢
 clear hz
 obtain⟨t,f,v,rfl,hm,hf,g1⟩:=hx
 obtain⟨t',f',v',rfl,hm',hf',g2⟩:=hy
 have H1:Hid _:=g1
 have H2:Hid _:=g2
 have he:=eqv_q k a b k' a' b' s s'
 generalize ((k==k')&&(a==a')&&(b==b')&&(s.toList==s'.toList))=q at he⊢
 clear g1 g2
 go_enter func84,ntmps84
 go_wp2_with fail
 refine(H1.out _).mono ?_
 rintro e w1 ⟨rfl,hb1⟩
 go_wp2_with fail
 refine(H2.out _).mono ?_
 rintro e w2 ⟨rfl,hb2⟩
 go_wp2
 go_ret
 exact⟨rfl,hb1.trans hb2⟩
theorem equal_c(p q:Nat)(y:Value)(k a b k' a' b':Int)(s s':ByteArray)(hx:IVal (.iface 136 (.complex .f64 p q)) k a b s)(hy:IVal y k' a' b' s')(h2:∀w,(Instr.typeAssert y 49 135 true).run prog w=.ok (.tuple #[.int .i64 0,.bool false]) w)(w:World) :
  Calls prog 84 #[.iface 136 (.complex .f64 p q),y] w fun e w'=>e=.returned (.bool ((k==k')&&(a==a')&&(b==b')&&(s.toList==s'.toList)))∧G w w':=by
 have h1:=as_cpx_whole (.complex .f64 p q)
 have h3:=as_cpx_cpx (.complex .f64 p q)
 generalize hz:Value.iface 136 (.complex .f64 p q)=z at hx h1 h3⊢
 clear hz
 obtain⟨t,f,v,rfl,hm,hf,g1⟩:=hx
 obtain⟨t',f',v',rfl,hm',hf',g2⟩:=hy
 have H1:Hid _:=g1
 have H2:Hid _:=g2
 have he:=eqv_q k a b k' a' b' s s'
 generalize ((k==k')&&(a==a')&&(b==b')&&(s.toList==s'.toList))=q at he⊢
 clear g1 g2
 go_enter func84,ntmps84
 go_wp2_with fail
 refine(H1.out _).mono ?_
 rintro e w1 ⟨rfl,hb1⟩
 go_wp2_with fail
 refine(H2.out _).mono ?_
 rintro e w2 ⟨rfl,hb2⟩
 go_wp2
 go_ret
 exact⟨rfl,hb1.trans hb2⟩
theorem em_any(m:Int)(p q:Nat)(a b:Int)(hp:Fl p a)(hq:Fl q b)(ha:a.natAbs<2^53)(hb:b.natAbs<2^53)(w:World) :
  Calls prog 116 #[.int .i64 m,.complex .f64 p q] w fun e w'=>e=.returned (.bool ((a==m)&&(b==0)))∧G w w':=by
 have H:Hid _:=parts_fl p q a b hp hq ha hb
 clear hp hq ha hb
 by_cases c:a=m
 ·subst c
  generalize hr:(b==0)=r
  have hr':(a==a&&r)=r:=by simp
  rw[hr']
  go_enter func116,ntmps116
  go_wp2_with fail
  refine(H.out _).mono ?_
  rintro e w1 ⟨rfl,rfl⟩
  go_wp2
  go_ret
  exact⟨rfl,G.refl _⟩
 ·have c':(a==m)=false:=by simpa using c
  rw[c',Bool.false_and]
  go_enter func116,ntmps116
  go_wp2_with fail
  refine(H.out _).mono ?_
  rintro e w1 ⟨rfl,rfl⟩
  go_wp2
  go_ret
  exact⟨rfl,G.refl _⟩
theorem equal_wc(m:Int)(p q:Nat)(r:Bool)(h:∀w,Calls prog 116 #[.int .i64 m,.complex .f64 p q] w fun e w'=>e=.returned (.bool r)∧G w w')(w:World) :
  Calls prog 84 #[.iface 135 (.int .i64 m),.iface 136 (.complex .f64 p q)] w fun e w'=>e=.returned (.bool r)∧G w w':=by
 have H:Hid _:=h
 have h1:=as_whole_whole (.int .i64 m)
 have h3:=as_cpx_cpx (.complex .f64 p q)
 clear h
 go_enter func84,ntmps84
 go_wp2_with fail
 refine(H.out _).mono ?_
 rintro e w1 ⟨rfl,hb1⟩
 go_wp2
 go_ret
 exact⟨rfl,hb1⟩
theorem equal_cw(m:Int)(p q:Nat)(r:Bool)(h:∀w,Calls prog 116 #[.int .i64 m,.complex .f64 p q] w fun e w'=>e=.returned (.bool r)∧G w w')(w:World) :
  Calls prog 84 #[.iface 136 (.complex .f64 p q),.iface 135 (.int .i64 m)] w fun e w'=>e=.returned (.bool r)∧G w w':=by
 have H:Hid _:=h
 have h0:=as_cpx_whole (.complex .f64 p q)
 have h1:=as_whole_whole (.int .i64 m)
 have h3:=as_cpx_cpx (.complex .f64 p q)
 clear h
 go_enter func84,ntmps84
 go_wp2_with fail
 refine(H.out _).mono ?_
 rintro e w1 ⟨rfl,hb1⟩
 go_wp2
 go_ret
 exact⟨rfl,hb1⟩
def eqP(k a b k' a' b':Int)(s s':ByteArray):Bool:=
 if k=2∧k'=3 then(a'==a)&&(b'==0)else if k=3∧k'=2 then(a==a')&&(b==0)else(k==k')&&(a==a')&&(b==b')&&(s.toList==s'.toList)
theorem equal_any(k a b k' a' b':Int)(s s':ByteArray)(hok:okV k a b s=true)(hok':okV k' a' b' s'=true)(w:World) :
  Calls prog 84 #[itemV k a b s,itemV k' a' b' s'] w fun e w'=>e=.returned (.bool (eqP k a b k' a' b' s s'))∧G w w':=by
 have hx:=ival_any k a b s hok
 have hy:=ival_any k' a' b' s' hok'
 unfold eqP
 by_cases c2:k=2
 ·subst c2
  obtain⟨rfl,rfl⟩:=ok_2 hok
  rw[itV_2 hok] at hx⊢
  by_cases c3:k'=3
  ·subst c3
   obtain⟨⟨a1,a2⟩,⟨b1,b2⟩,rfl⟩:=ok_3 hok'
   rw[itV_3 hok',if_pos ⟨rfl,rfl⟩]
   exact equal_wc a _ _ _ (em_any a _ _ a' b' (Fl.ofInt a' (by omega)) (Fl.ofInt b' (by omega)) (by omega) (by omega)) w
  ·rw[if_neg (by omega),if_neg (by omega)]
   exact equal_w a _ 2 a 0 k' a' b' E0 s' hx hy (an_cpx k' a' b' s' hok' c3) w
 ·by_cases c3:k=3
  ·subst c3
   obtain⟨⟨a1,a2⟩,⟨b1,b2⟩,rfl⟩:=ok_3 hok
   rw[itV_3 hok] at hx⊢
   by_cases c4:k'=2
   ·subst c4
    obtain⟨rfl,rfl⟩:=ok_2 hok'
    rw[itV_2 hok',if_neg (by omega),if_pos ⟨rfl,rfl⟩]
    exact equal_cw a' _ _ _ (em_any a' _ _ a b (Fl.ofInt a (by omega)) (Fl.ofInt b (by omega)) (by omega) (by omega)) w
   ·rw[if_neg (by omega),if_neg (by omega)]
    exact equal_c _ _ _ 3 a b k' a' b' E0 s' hx hy (an_whole k' a' b' s' hok' c4) w
  ·rw[if_neg (by omega),if_neg (by omega)]
   exact equal_n _ _ k a b k' a' b' s s' hx hy (an_whole k a b s hok c2) (an_cpx k a b s hok c3) w
theorem fld0(k a b:Int)(s:ByteArray)(w:World):(Instr.field 31 (V k a b s) 0).run prog w=.ok (.int .i64 k) w:=by kernel_rfl
theorem ho_no(x y:Value)(h1:∀w,(Instr.typeAssert x 49 135 true).run prog w=.ok (.tuple #[.int .i64 0,.bool false]) w)(h2:∀w,(Instr.typeAssert x 49 137 true).run prog w=.ok (.tuple #[.string E0,.bool false]) w)(h3:∀w,(Instr.typeAssert x 49 111 true).run prog w=.ok (.tuple #[.bool false,.bool false]) w)(w:World):Calls prog 117 #[x,y] w fun e w'=>e=.returned (.bool false)∧G w w':=by
 go_enter func117,ntmps117
 go_wp2
 go_ret
 exact⟨rfl,G.refl _⟩
theorem ho_w(m:Int)(y:Value)(k a b k' a' b':Int)(s s':ByteArray)(hx:IVal (.iface 135 (.int .i64 m)) k a b s)(hy:IVal y k' a' b' s')(w:World):Calls prog 117 #[.iface 135 (.int .i64 m),y] w fun e w'=>e=.returned (.bool (k==k'))∧G w w':=by
 have h1:=as_whole_whole (.int .i64 m)
 have h2:=as_whole_str (.int .i64 m)
 have h3:=as_whole_truth (.int .i64 m)
 generalize hz:Value.iface 135 (.int .i64 m)=z at hx h1 h2 h3⊢
 clear hz
 obtain⟨t,f,v,rfl,hm,hf,g1⟩:=hx
 obtain⟨t',f',v',rfl,hm',hf',g2⟩:=hy
 have H1:Hid _:=g1
 have H2:Hid _:=g2
 have f1:=fld0 k a b s
 have f2:=fld0 k' a' b' s'
 generalize hq:(k==k')=q
 clear g1 g2
 go_enter func117,ntmps117
 go_wp2_with fail
 refine(H1.out _).mono ?_
 rintro e w1 ⟨rfl,hb1⟩
 go_wp2_with fail
 refine(H2.out _).mono ?_
 rintro e w2 ⟨rfl,hb2⟩
 go_wp2
 go_ret
 exact⟨rfl,hb1.trans hb2⟩
theorem ho_s(m:ByteArray)(y:Value)(k a b k' a' b':Int)(s s':ByteArray)(hx:IVal (.iface 137 (.string m)) k a b s)(hy:IVal y k' a' b' s')(w:World):Calls prog 117 #[.iface 137 (.string m),y] w fun e w'=>e=.returned (.bool (k==k'))∧G w w':=by
 have h1:=as_str_whole (.string m)
 have h2:=as_str_str (.string m)
 have h3:=as_str_truth (.string m)
 generalize hz:Value.iface 137 (.string m)=z at hx h1 h2 h3⊢
 clear hz
 obtain⟨t,f,v,rfl,hm,hf,g1⟩:=hx
 obtain⟨t',f',v',rfl,hm',hf',g2⟩:=hy
 have H1:Hid _:=g1
 have H2:Hid _:=g2
 have f1:=fld0 k a b s
 have f2:=fld0 k' a' b' s'
 generalize hq:(k==k')=q
 clear g1 g2
 go_enter func117,ntmps117
 go_wp2_with fail
 refine(H1.out _).mono ?_
 rintro e w1 ⟨rfl,hb1⟩
 go_wp2_with fail
 refine(H2.out _).mono ?_
 rintro e w2 ⟨rfl,hb2⟩
 go_wp2
 go_ret
 exact⟨rfl,hb1.trans hb2⟩
theorem ho_t(m:Bool)(y:Value)(k a b k' a' b':Int)(s s':ByteArray)(hx:IVal (.iface 111 (.bool m)) k a b s)(hy:IVal y k' a' b' s')(w:World):Calls prog 117 #[.iface 111 (.bool m),y] w fun e w'=>e=.returned (.bool (k==k'))∧G w w':=by
 have h1:=as_truth_whole (.bool m)
 have h2:=as_truth_str (.bool m)
 have h3:=as_truth_truth (.bool m)
 generalize hz:Value.iface 111 (.bool m)=z at hx h1 h2 h3⊢
 clear hz
 obtain⟨t,f,v,rfl,hm,hf,g1⟩:=hx
 obtain⟨t',f',v',rfl,hm',hf',g2⟩:=hy
 have H1:Hid _:=g1
 have H2:Hid _:=g2
 have f1:=fld0 k a b s
 have f2:=fld0 k' a' b' s'
 generalize hq:(k==k')=q
 clear g1 g2
 go_enter func117,ntmps117
 go_wp2_with fail
 refine(H1.out _).mono ?_
 rintro e w1 ⟨rfl,hb1⟩
 go_wp2_with fail
 refine(H2.out _).mono ?_
 rintro e w2 ⟨rfl,hb2⟩
 go_wp2
 go_ret
 exact⟨rfl,hb1.trans hb2⟩
def hoP(k k':Int):Bool:=if k=1∨k=2∨k=4 then k==k' else false
theorem ho_any(k a b k' a' b':Int)(s s':ByteArray)(hok:okV k a b s=true)(hok':okV k' a' b' s'=true)(w:World) :
  Calls prog 117 #[itemV k a b s,itemV k' a' b' s'] w fun e w'=>e=.returned (.bool (hoP k k'))∧G w w':=by
 have hx:=ival_any k a b s hok
 have hy:=ival_any k' a' b' s' hok'
 unfold hoP
 by_cases c1:k=1
 ·subst c1
  rw[if_pos (.inl rfl)]
  rw[itV_1 hok] at hx⊢
  exact ho_t _ _ 1 a b k' a' b' s s' hx hy w
 by_cases c2:k=2
 ·subst c2
  rw[if_pos (.inr (.inl rfl))]
  rw[itV_2 hok] at hx⊢
  exact ho_w _ _ 2 a b k' a' b' s s' hx hy w
 by_cases c4:k=4
 ·subst c4
  rw[if_pos (.inr (.inr rfl))]
  rw[itV_4 hok] at hx⊢
  exact ho_s _ _ 4 a b k' a' b' s s' hx hy w
 rw[if_neg (by omega)]
 exact ho_no _ _ (an_whole k a b s hok c2) (an_str k a b s hok c4) (an_truth k a b s hok c1) w
theorem rel_8(Rdy0:World→Prop)(hG0:∀W W1,Rdy0 W→G W W1→Rdy0 W1)(x y:Value)(c:Int)(h1:∀w,Calls prog 117 #[x,y] w fun e w'=>e=.returned (.bool true)∧G w w')(h2:∀w,Rdy0 w→Calls prog 48 #[x,y] w fun e w'=>e=.returned (.int .i64 c)∧G w w')(w:World)(hR:Rdy0 w) :
  Calls prog 85 #[.int .i64 8,x,y] w fun e w'=>e=.returned (.iface 111 (.bool (decide (c<0))))∧G w w':=by
 have H1:Hid _:=h1
 have H2:Hid _:=h2
 clear h1 h2
 go_enter func85,ntmps85
 go_wp2_with fail
 refine(H1.out _).mono ?_
 rintro e w1 ⟨rfl,hb1⟩
 go_wp2_with fail
 refine(H2.out _ (hG0 _ _ hR hb1)).mono ?_
 rintro e w2 ⟨rfl,hb2⟩
 go_wp2
 go_ret
 exact⟨rfl,hb1.trans hb2⟩
theorem rel_9(Rdy0:World→Prop)(hG0:∀W W1,Rdy0 W→G W W1→Rdy0 W1)(x y:Value)(c:Int)(h1:∀w,Calls prog 117 #[x,y] w fun e w'=>e=.returned (.bool true)∧G w w')(h2:∀w,Rdy0 w→Calls prog 48 #[x,y] w fun e w'=>e=.returned (.int .i64 c)∧G w w')(w:World)(hR:Rdy0 w) :
  Calls prog 85 #[.int .i64 9,x,y] w fun e w'=>e=.returned (.iface 111 (.bool (decide (c≤0))))∧G w w':=by
 have H1:Hid _:=h1
 have H2:Hid _:=h2
 clear h1 h2
 go_enter func85,ntmps85
 go_wp2_with fail
 refine(H1.out _).mono ?_
 rintro e w1 ⟨rfl,hb1⟩
 go_wp2_with fail
 refine(H2.out _ (hG0 _ _ hR hb1)).mono ?_
 rintro e w2 ⟨rfl,hb2⟩
 go_wp2
 go_ret
 exact⟨rfl,hb1.trans hb2⟩
theorem rel_10(Rdy0:World→Prop)(hG0:∀W W1,Rdy0 W→G W W1→Rdy0 W1)(x y:Value)(c:Int)(h1:∀w,Calls prog 117 #[x,y] w fun e w'=>e=.returned (.bool true)∧G w w')(h2:∀w,Rdy0 w→Calls prog 48 #[x,y] w fun e w'=>e=.returned (.int .i64 c)∧G w w')(w:World)(hR:Rdy0 w) :
  Calls prog 85 #[.int .i64 10,x,y] w fun e w'=>e=.returned (.iface 111 (.bool (decide (0<c))))∧G w w':=by
 have H1:Hid _:=h1
 have H2:Hid _:=h2
 clear h1 h2
 go_enter func85,ntmps85
 go_wp2_with fail
 refine(H1.out _).mono ?_
 rintro e w1 ⟨rfl,hb1⟩
 go_wp2_with fail
 refine(H2.out _ (hG0 _ _ hR hb1)).mono ?_
 rintro e w2 ⟨rfl,hb2⟩
 go_wp2
 go_ret
 exact⟨rfl,hb1.trans hb2⟩
theorem rel_11(Rdy0:World→Prop)(hG0:∀W W1,Rdy0 W→G W W1→Rdy0 W1)(x y:Value)(c:Int)(h1:∀w,Calls prog 117 #[x,y] w fun e w'=>e=.returned (.bool true)∧G w w')(h2:∀w,Rdy0 w→Calls prog 48 #[x,y] w fun e w'=>e=.returned (.int .i64 c)∧G w w')(w:World)(hR:Rdy0 w) :
  Calls prog 85 #[.int .i64 11,x,y] w fun e w'=>e=.returned (.iface 111 (.bool (decide (0≤c))))∧G w w':=by
 have H1:Hid _:=h1
 have H2:Hid _:=h2
 clear h1 h2
 go_enter func85,ntmps85
 go_wp2_with fail
 refine(H1.out _).mono ?_
 rintro e w1 ⟨rfl,hb1⟩
 go_wp2_with fail
 refine(H2.out _ (hG0 _ _ hR hb1)).mono ?_
 rintro e w2 ⟨rfl,hb2⟩
 go_wp2
 go_ret
 exact⟨rfl,hb1.trans hb2⟩
theorem rel_no(op:Int)(x y:Value)(h1:∀w,Calls prog 117 #[x,y] w fun e w'=>e=.returned (.bool false)∧G w w')(w:World) :
  Calls prog 85 #[.int .i64 op,x,y] w fun e w'=>e=.returned (.iface 110 (.agg #[]))∧G w w':=by
 have H1:Hid _:=h1
 clear h1
 go_enter func85,ntmps85
 go_wp2_with fail
 refine(H1.out _).mono ?_
 rintro e w1 ⟨rfl,hb1⟩
 go_wp2
 go_ret
 exact⟨rfl,hb1⟩
theorem co_no1(x y:Value)(h1:∀w,(Instr.typeAssert x 49 135 true).run prog w=.ok (.tuple #[.int .i64 0,.bool false]) w)(h2:∃z q,∀w,(Instr.typeAssert y 49 135 true).run prog w=.ok (.tuple #[.int .i64 z,.bool q]) w)(w:World):Calls prog 87 #[x,y] w fun e w'=>e=.returned (.tuple #[.nilIface,.int .i64 10])∧G w w':=by
 obtain⟨z,q,h2⟩:=h2
 go_enter func87,ntmps87
 go_wp2
 go_ret2
 exact⟨rfl,G.refl _⟩
theorem co_no2(m:Int)(y:Value)(h1:∀w,(Instr.typeAssert y 49 135 true).run prog w=.ok (.tuple #[.int .i64 0,.bool false]) w)(w:World):Calls prog 87 #[.iface 135 (.int .i64 m),y] w fun e w'=>e=.returned (.tuple #[.nilIface,.int .i64 10])∧G w w':=by
 have h2:=as_whole_whole (.int .i64 m)
 go_enter func87,ntmps87
 go_wp2
 go_ret2
 exact⟨rfl,G.refl _⟩
theorem ipart(n:Int)(w:World):Calls prog 111 #[.int .i64 n] w fun e w'=>e=.returned (.bool (partB n))∧w'=w:=by
 unfold partB
 by_cases h1:-33554432≤n
 ·by_cases h2:n≤33554432
  ·rw[decide_eq_true h1,decide_eq_true h2]
   exact isPart_yes n h1 h2 w
  ·rw[decide_eq_true h1,decide_eq_false h2]
   go_enter func111,ntmps111
   go_wp2
   go_ret
   exact⟨rfl,rfl⟩
 ·rw[decide_eq_false h1,Bool.false_and]
  go_enter func111,ntmps111
  go_wp2
  go_ret
  exact⟨rfl,rfl⟩
theorem co_ww(m n:Int)(w:World):Calls prog 87 #[.iface 135 (.int .i64 m),.iface 135 (.int .i64 n)] w fun e w'=>e=.returned (.tuple (if partB m&&partB n then #[.iface 136 (.complex .f64 (fl m) (fl n)),.int .i64 0] else #[.nilIface,.int .i64 11]))∧G w w':=by
 have h1:=as_whole_whole (.int .i64 m)
 have h2:=as_whole_whole (.int .i64 n)
 have H1:Hid _:=ipart m
 have H2:Hid _:=ipart n
 generalize partB m=p at H1⊢
 generalize partB n=r at H2⊢
 cases p<;>cases r
 iterate 2
  ·go_enter func87,ntmps87
   go_wp2_with fail
   refine(H1.out _).mono ?_
   rintro e w1 ⟨rfl,rfl⟩
   go_wp2
   go_ret2
   exact⟨rfl,G.refl _⟩
 iterate 2
  ·go_enter func87,ntmps87
   go_wp2_with fail
   refine(H1.out _).mono ?_
   rintro e w1 ⟨rfl,rfl⟩
   go_wp2_with fail
   refine(H2.out _).mono ?_
   rintro e w1 ⟨rfl,rfl⟩
   go_wp2
   go_ret2
   exact⟨rfl,G.refl _⟩
end
end Go.Proofs.YthmdjhfbhbheeaaGreatDoor
