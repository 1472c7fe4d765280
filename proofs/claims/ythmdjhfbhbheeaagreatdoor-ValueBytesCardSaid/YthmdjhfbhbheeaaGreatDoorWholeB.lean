import Derived.BigQuiet
import Derived.Test.YthmdjhfbhbheeaaGreatDoorBinE
import Derived.Test.YthmdjhfbhbheeaaGreatDoorCArith
namespace Go.Proofs.YthmdjhfbhbheeaaGreatDoor
open Go.Proofs.Tryz
set_option maxHeartbeats 2000000
set_option maxRecDepth 100000
section
open Go.RowKit Go.Lib Go.Shelf
def INum(x:Value)(p q:Nat)(c:Int):Prop:=
 ∃(t f:Nat) (v:Value),x=.iface t v∧(∀w,(method 351 t v "trellis/value.number").run prog w=.ok (f,v) w)∧(∀w,(callFunc f #[v]).run prog w=.ok (.enter f #[v]) w)∧
  ∀w,Calls prog f #[v] w fun e w'=>e=.returned (.tuple #[.complex .f64 p q,.int .i64 c])∧w'=w
theorem zMz(m:Bool)(w:World):Calls prog 238 #[.bool m] w fun e w'=>e=.returned (.tuple #[.complex .f64 0 0,.int .i64 10])∧w'=w:=by
 go_enter func238,ntmps238
 go_wp2
 go_ret2
 exact⟨rfl,rfl⟩
theorem zPR(m:Bool):INum (.iface 111 (.bool m)) 0 0 10:=⟨_,238,_,rfl,fun w=>by kernel_rfl,fun w=>by simp[go_sem],zMz m⟩
theorem zTp(m:ByteArray)(w:World):Calls prog 258 #[.string m] w fun e w'=>e=.returned (.tuple #[.complex .f64 0 0,.int .i64 10])∧w'=w:=by
 go_enter func258,ntmps258
 go_wp2
 go_ret2
 exact⟨rfl,rfl⟩
theorem zWe(m:ByteArray):INum (.iface 137 (.string m)) 0 0 10:=⟨_,258,_,rfl,fun w=>by kernel_rfl,fun w=>by simp[go_sem],zTp m⟩
theorem zPv(m:Int)(w:World):Calls prog 266 #[.int .i64 m] w fun e w'=>e=.returned (.tuple #[.complex .f64 0 0,.int .i64 10])∧w'=w:=by
 go_enter func266,ntmps266
 go_wp2
 go_ret2
 exact⟨rfl,rfl⟩
theorem zTK(m:Int):INum (.iface 138 (.int .i64 m)) 0 0 10:=⟨_,266,_,rfl,fun w=>by kernel_rfl,fun w=>by simp[go_sem],zPv m⟩
theorem zPw(m:Int)(w:World):Calls prog 271 #[.int .i64 m] w fun e w'=>e=.returned (.tuple #[.complex .f64 0 0,.int .i64 10])∧w'=w:=by
 go_enter func271,ntmps271
 go_wp2
 go_ret2
 exact⟨rfl,rfl⟩
theorem zTL(m:Int):INum (.iface 139 (.int .i64 m)) 0 0 10:=⟨_,271,_,rfl,fun w=>by kernel_rfl,fun w=>by simp[go_sem],zPw m⟩
theorem zVN(n:Int)(h:zAD n=false)(w:World):Calls prog 245 #[.int .i64 n] w fun e w'=>e=.returned (.tuple #[.complex .f64 0 0,.int .i64 11])∧w'=w:=by
 have H:Hid _:=ipart n;rw[h] at H;clear h
 go_enter func245,ntmps245
 go_wp2_with fail
 refine(H.out _).mono ?_;rintro e w1 ⟨rfl,rfl⟩
 go_wp2
 go_ret2
 exact⟨rfl,rfl⟩
theorem zBm(n:Int)(h:zAD n=false):INum (.iface 135 (.int .i64 n)) 0 0 11:=⟨_,245,_,rfl,zCg n,fun w=>by simp[go_sem],zVN n h⟩
theorem zC3(n:Int)(h1:-33554432≤n)(h2:n≤33554432):INum (.iface 135 (.int .i64 n)) (fl n) 0 0:=⟨_,245,_,rfl,zCg n,fun w=>by simp[go_sem],zGI n h1 h2⟩
theorem zBP(x y:Nat):INum (.iface 136 (.complex .f64 x y)) x y 0:=⟨_,253,_,rfl,zGM x y,fun w=>by simp[go_sem],zMx x y⟩
theorem zNr(k a b:Int)(s:ByteArray)(hok:okV k a b s=true)(h0:k≠0)(h2:k≠2)(h3:k≠3):INum (zAb k a b s) 0 0 10:=by
 have hk:=zAp k a b s hok
 have:k=1∨k=4∨k=5∨k=6:=by omega
 rcases this with rfl|rfl|rfl|rfl
 ·rw[zDu hok];exact zPR _
 ·rw[zBB hok];exact zWe _
 ·rw[zE4 hok];exact zTK _
 ·rw[zE3 hok];exact zTL _
theorem zFr(op:Int)(x y:Value)(p q p' q':Nat)(hx:INum x p q 0)(hy:INum y p' q' 0)(r:Value)(c:Int)(h:∀w,CG 158 #[.int .i64 op,.complex .f64 p q,.complex .f64 p' q'] w (.tuple #[r,.int .i64 c]))(w:World):CG 123 #[.int .i64 op,x,y] w (.tuple #[r,.int .i64 c]):=by
 obtain⟨t,f,v,rfl,hm,hf,g1⟩:=hx;obtain⟨t',f',v',rfl,hm',hf',g2⟩:=hy;have H1:Hid _:=g1;have H2:Hid _:=g2;have H3:Hid _:=h;clear g1 g2 h
 go_enter func123,ntmps123
 go_wp2_with fail
 refine(H1.out _).mono ?_;rintro e w1 ⟨rfl,rfl⟩
 go_wp2_with fail
 refine(H2.out _).mono ?_;rintro e w1 ⟨rfl,rfl⟩
 go_wp2_with fail
 refine(H3.out _).mono ?_;rintro e w3 ⟨rfl,hb3⟩
 go_wp2
 go_ret2
 exact⟨rfl,hb3⟩
theorem zMF(op:Int)(x y:Value)(p q p' q':Nat)(hx:INum x p q 0)(hy:INum y p' q' 10) (w:World):CG 123 #[.int .i64 op,x,y] w (.tuple #[.nilIface,.int .i64 10]):=by
 obtain⟨t,f,v,rfl,hm,hf,g1⟩:=hx;obtain⟨t',f',v',rfl,hm',hf',g2⟩:=hy;have H1:Hid _:=g1;have H2:Hid _:=g2;clear g1 g2
 go_enter func123,ntmps123
 go_wp2_with fail
 refine(H1.out _).mono ?_;rintro e w1 ⟨rfl,rfl⟩
 go_wp2_with fail
 refine(H2.out _).mono ?_;rintro e w1 ⟨rfl,rfl⟩
 go_wp2
 go_ret2
 exact⟨rfl,G.refl _⟩
theorem zME(op:Int)(x y:Value)(p q p' q':Nat)(hx:INum x p q 0)(hy:INum y p' q' 11) (w:World):CG 123 #[.int .i64 op,x,y] w (.tuple #[.nilIface,.int .i64 11]):=by
 obtain⟨t,f,v,rfl,hm,hf,g1⟩:=hx;obtain⟨t',f',v',rfl,hm',hf',g2⟩:=hy;have H1:Hid _:=g1;have H2:Hid _:=g2;clear g1 g2
 go_enter func123,ntmps123
 go_wp2_with fail
 refine(H1.out _).mono ?_;rintro e w1 ⟨rfl,rfl⟩
 go_wp2_with fail
 refine(H2.out _).mono ?_;rintro e w1 ⟨rfl,rfl⟩
 go_wp2
 go_ret2
 exact⟨rfl,G.refl _⟩
theorem zTr(op:Int)(x y:Value)(p q p' q':Nat)(hx:INum x p q 10)(hy:INum y p' q' 0) (w:World):CG 123 #[.int .i64 op,x,y] w (.tuple #[.nilIface,.int .i64 10]):=by
 obtain⟨t,f,v,rfl,hm,hf,g1⟩:=hx;obtain⟨t',f',v',rfl,hm',hf',g2⟩:=hy;have H1:Hid _:=g1;have H2:Hid _:=g2;clear g1 g2
 go_enter func123,ntmps123
 go_wp2_with fail
 refine(H1.out _).mono ?_;rintro e w1 ⟨rfl,rfl⟩
 go_wp2_with fail
 refine(H2.out _).mono ?_;rintro e w1 ⟨rfl,rfl⟩
 go_wp2
 go_ret2
 exact⟨rfl,G.refl _⟩
theorem zJb(op:Int)(x y:Value)(p q p' q':Nat)(hx:INum x p q 10)(hy:INum y p' q' 10) (w:World):CG 123 #[.int .i64 op,x,y] w (.tuple #[.nilIface,.int .i64 10]):=by
 obtain⟨t,f,v,rfl,hm,hf,g1⟩:=hx;obtain⟨t',f',v',rfl,hm',hf',g2⟩:=hy;have H1:Hid _:=g1;have H2:Hid _:=g2;clear g1 g2
 go_enter func123,ntmps123
 go_wp2_with fail
 refine(H1.out _).mono ?_;rintro e w1 ⟨rfl,rfl⟩
 go_wp2_with fail
 refine(H2.out _).mono ?_;rintro e w1 ⟨rfl,rfl⟩
 go_wp2
 go_ret2
 exact⟨rfl,G.refl _⟩
theorem zPz(op:Int)(x y:Value)(p q p' q':Nat)(hx:INum x p q 10)(hy:INum y p' q' 11) (w:World):CG 123 #[.int .i64 op,x,y] w (.tuple #[.nilIface,.int .i64 10]):=by
 obtain⟨t,f,v,rfl,hm,hf,g1⟩:=hx;obtain⟨t',f',v',rfl,hm',hf',g2⟩:=hy;have H1:Hid _:=g1;have H2:Hid _:=g2;clear g1 g2
 go_enter func123,ntmps123
 go_wp2_with fail
 refine(H1.out _).mono ?_;rintro e w1 ⟨rfl,rfl⟩
 go_wp2_with fail
 refine(H2.out _).mono ?_;rintro e w1 ⟨rfl,rfl⟩
 go_wp2
 go_ret2
 exact⟨rfl,G.refl _⟩
theorem zMD(op:Int)(x y:Value)(p q p' q':Nat)(hx:INum x p q 11)(hy:INum y p' q' 0) (w:World):CG 123 #[.int .i64 op,x,y] w (.tuple #[.nilIface,.int .i64 11]):=by
 obtain⟨t,f,v,rfl,hm,hf,g1⟩:=hx;obtain⟨t',f',v',rfl,hm',hf',g2⟩:=hy;have H1:Hid _:=g1;have H2:Hid _:=g2;clear g1 g2
 go_enter func123,ntmps123
 go_wp2_with fail
 refine(H1.out _).mono ?_;rintro e w1 ⟨rfl,rfl⟩
 go_wp2_with fail
 refine(H2.out _).mono ?_;rintro e w1 ⟨rfl,rfl⟩
 go_wp2
 go_ret2
 exact⟨rfl,G.refl _⟩
theorem zPy(op:Int)(x y:Value)(p q p' q':Nat)(hx:INum x p q 11)(hy:INum y p' q' 10) (w:World):CG 123 #[.int .i64 op,x,y] w (.tuple #[.nilIface,.int .i64 10]):=by
 obtain⟨t,f,v,rfl,hm,hf,g1⟩:=hx;obtain⟨t',f',v',rfl,hm',hf',g2⟩:=hy;have H1:Hid _:=g1;have H2:Hid _:=g2;clear g1 g2
 go_enter func123,ntmps123
 go_wp2_with fail
 refine(H1.out _).mono ?_;rintro e w1 ⟨rfl,rfl⟩
 go_wp2_with fail
 refine(H2.out _).mono ?_;rintro e w1 ⟨rfl,rfl⟩
 go_wp2
 go_ret2
 exact⟨rfl,G.refl _⟩
theorem zHh(op:Int)(x y r:Value)(c:Int)(h1:∀w,(Instr.typeAssert x 49 137 true).run prog w=.ok (.tuple #[.string E0,.bool false]) w)(h2:∀w,(Instr.typeAssert x 49 135 true).run prog w=.ok (.tuple #[.int .i64 0,.bool false]) w)(h:∀w,CG 123 #[.int .i64 op,x,y] w (.tuple #[r,.int .i64 c]))(w:World):CG 88 #[.int .i64 op,x,y] w (.tuple #[r,.int .i64 c]):=by
 have H:Hid _:=h;clear h
 go_enter func88,ntmps88
 go_wp2_with fail
 refine(H.out _).mono ?_;rintro e w1 ⟨rfl,hb1⟩
 go_wp2
 go_ret2
 exact⟨rfl,hb1⟩
theorem zN4(op n:Int)(y r:Value)(c:Int)(h2:∀w,(Instr.typeAssert y 49 135 true).run prog w=.ok (.tuple #[.int .i64 0,.bool false]) w)(h:∀w,CG 123 #[.int .i64 op,.iface 135 (.int .i64 n),y] w (.tuple #[r,.int .i64 c]))(w:World):CG 88 #[.int .i64 op,.iface 135 (.int .i64 n),y] w (.tuple #[r,.int .i64 c]):=by
 have a1:=zA8 (.int .i64 n);have a2:=zAr (.int .i64 n);generalize Value.iface 135 (.int .i64 n)=x at a1 a2 h⊢;have H:Hid _:=h;clear h
 go_enter func88,ntmps88
 go_wp2_with fail
 refine(H.out _).mono ?_;rintro e w1 ⟨rfl,hb1⟩
 go_wp2
 go_ret2
 exact⟨rfl,hb1⟩
theorem zYG(op:Int)(s:ByteArray)(y:Value)(h2:∀w,(Instr.typeAssert y 49 137 true).run prog w=.ok (.tuple #[.string E0,.bool false]) w)(w:World):CG 88 #[.int .i64 op,.iface 137 (.string s),y] w (.tuple #[.nilIface,.int .i64 10]):=by
 have a1:=zAt (.string s)
 go_enter func88,ntmps88
 go_wp2
 go_ret2
 exact⟨rfl,G.refl _⟩
theorem zYF(op:Int)(s s':ByteArray)(h:(op==1)=false)(w:World):CG 88 #[.int .i64 op,.iface 137 (.string s),.iface 137 (.string s')] w (.tuple #[.nilIface,.int .i64 10]):=by
 have a1:=zAt (.string s);have a2:=zAt (.string s')
 go_enter func88,ntmps88
 go_wp2
 go_ret2
 exact⟨rfl,G.refl _⟩
theorem zXS(s s':ByteArray)(h1:s.size≤4611686018427387903)(h2:s'.size≤4611686018427387903)(h:32<s.size+s'.size)(w:World):CG 121 #[.string s,.string s'] w (.tuple #[.nilIface,.int .i64 11]):=by
 have h':(32:Int)<(s.size:Int)+(s'.size:Int):=by omega
 go_enter func121,ntmps121
 go_wp2
 go_ret2
 exact⟨rfl,G.refl _⟩
theorem zXR(s s':ByteArray)(h:s.size+s'.size≤32)(w:World):CG 121 #[.string s,.string s'] w (.tuple #[.iface 137 (.string (s++s')),.int .i64 0]):=by
 have h':¬(32:Int)<(s.size:Int)+(s'.size:Int):=by omega
 go_enter func121,ntmps121
 go_wp2
 go_ret2
 exact⟨rfl,G.refl _⟩
theorem zWZ(s s':ByteArray)(r:Value)(c:Int)(h:∀w,CG 121 #[.string s,.string s'] w (.tuple #[r,.int .i64 c]))(w:World):CG 88 #[.int .i64 1,.iface 137 (.string s),.iface 137 (.string s')] w (.tuple #[r,.int .i64 c]):=by
 have a1:=zAt (.string s);have a2:=zAt (.string s');have H:Hid _:=h;clear h
 go_enter func88,ntmps88
 go_wp2_with fail
 refine(H.out _).mono ?_;rintro e w1 ⟨rfl,hb1⟩
 go_wp2
 go_ret2
 exact⟨rfl,hb1⟩
end
section
open Go.RowKit
theorem zLW(a b q m:Int)(_hb:¬b=0)(hq:wrap64 (a.tdiv b)=q)(hm:wrap64 (q*b)=m)(h:a<m)(h1:wrap64 (q-1)=q-1)(w:World):Calls prog 124 #[.int .i64 a,.int .i64 b] w fun e w'=>e=.returned (.int .i64 (q-1))∧w'=w:=by
 go_enter func124,ntmps124
 go_wp2
 go_ret;exact⟨congrArg (fun z=>Ending.returned (.int .i64 z)) h1,rfl⟩
theorem zLV(a b q m:Int)(_hb:¬b=0)(hq:wrap64 (a.tdiv b)=q)(hm:wrap64 (q*b)=m)(h:¬a<m)(w:World):Calls prog 124 #[.int .i64 a,.int .i64 b] w fun e w'=>e=.returned (.int .i64 q)∧w'=w:=by
 go_enter func124,ntmps124
 go_wp2
 go_ret;exact⟨rfl,rfl⟩
theorem G.drewQ{a w:World}(h:G a w)(n:Nat):G a (w.drewN n):=⟨h.os,h.tape,h.output,h.size,h.block⟩
theorem zIW(a b c d cc dd n ac bd x bc ad y:Int)(e1:wrap64 (c*c)=cc)(e2:wrap64 (d*d)=dd)(e3:wrap64 (cc+dd)=n)(e4:wrap64 (a*c)=ac)(e5:wrap64 (b*d)=bd)(e6:wrap64 (ac+bd)=x)(e7:wrap64 (b*c)=bc)(e8:wrap64 (a*d)=ad)(e9:wrap64 (bc-ad)=y)(X Y:Int)(f1:wrap64 (a+c)=X)(f2:wrap64 (b+d)=Y)(h1:∀w,Calls prog 73 #[.int .i64 X] w fun e w'=>e=.returned (.bool false)∧w'=w) (w:World):CG 90 #[.int .i64 1,.int .i64 a,.int .i64 b,.int .i64 c,.int .i64 d] w (.tuple #[V0,.int .i64 11]):=by
 have H1:Hid _:=h1;clear h1
 go_enter func90,ntmps90
 go_wp2_with fail
 refine(H1.out _).mono ?_;rintro e wx ⟨rfl,rfl⟩
 go_wp2
 exact bodyPost_ret (v:=.tuple #[V0,.int .i64 11]) (by simp[results,results90,go_sem]) rfl ⟨rfl,by
  repeat(first|exact G.refl _|refine G.alloc ?_ _|refine G.setCell ?_ (by simp;try omega) _)⟩
theorem zIV(a b c d cc dd n ac bd x bc ad y:Int)(e1:wrap64 (c*c)=cc)(e2:wrap64 (d*d)=dd)(e3:wrap64 (cc+dd)=n)(e4:wrap64 (a*c)=ac)(e5:wrap64 (b*d)=bd)(e6:wrap64 (ac+bd)=x)(e7:wrap64 (b*c)=bc)(e8:wrap64 (a*d)=ad)(e9:wrap64 (bc-ad)=y)(X Y:Int)(f1:wrap64 (a+c)=X)(f2:wrap64 (b+d)=Y)(h1:∀w,Calls prog 73 #[.int .i64 X] w fun e w'=>e=.returned (.bool true)∧w'=w)(h2:∀w,Calls prog 73 #[.int .i64 Y] w fun e w'=>e=.returned (.bool false)∧w'=w)(w:World):CG 90 #[.int .i64 1,.int .i64 a,.int .i64 b,.int .i64 c,.int .i64 d] w (.tuple #[V0,.int .i64 11]):=by
 have H1:Hid _:=h1;have H2:Hid _:=h2;clear h1 h2
 go_enter func90,ntmps90
 go_wp2_with fail
 refine(H1.out _).mono ?_;rintro e wx ⟨rfl,rfl⟩
 go_wp2_with fail
 refine(H2.out _).mono ?_;rintro e wx ⟨rfl,rfl⟩
 go_wp2
 exact bodyPost_ret (v:=.tuple #[V0,.int .i64 11]) (by simp[results,results90,go_sem]) rfl ⟨rfl,by
  repeat(first|exact G.refl _|refine G.alloc ?_ _|refine G.setCell ?_ (by simp;try omega) _)⟩
theorem zIX(a b c d cc dd n ac bd x bc ad y:Int)(e1:wrap64 (c*c)=cc)(e2:wrap64 (d*d)=dd)(e3:wrap64 (cc+dd)=n)(e4:wrap64 (a*c)=ac)(e5:wrap64 (b*d)=bd)(e6:wrap64 (ac+bd)=x)(e7:wrap64 (b*c)=bc)(e8:wrap64 (a*d)=ad)(e9:wrap64 (bc-ad)=y)(X Y:Int)(f1:wrap64 (a+c)=X)(f2:wrap64 (b+d)=Y)(h1:∀w,Calls prog 73 #[.int .i64 X] w fun e w'=>e=.returned (.bool true)∧w'=w)(h2:∀w,Calls prog 73 #[.int .i64 Y] w fun e w'=>e=.returned (.bool true)∧w'=w)(w:World):CG 90 #[.int .i64 1,.int .i64 a,.int .i64 b,.int .i64 c,.int .i64 d] w (.tuple #[V 3 X Y E0,.int .i64 0]):=by
 have H1:Hid _:=h1;have H2:Hid _:=h2;clear h1 h2
 go_enter func90,ntmps90
 go_wp2_with fail
 refine(H1.out _).mono ?_;rintro e wx ⟨rfl,rfl⟩
 go_wp2_with fail
 refine(H2.out _).mono ?_;rintro e wx ⟨rfl,rfl⟩
 go_wp2_with fail
 refine(rpair X Y _).mono ?_;rintro e w1 ⟨rfl,hb1⟩;have g1:G w w1:=((G.refl w).alloc _).trans hb1;obtain⟨hc1,hf1⟩:=hb1.rules
 go_wp2
 exact bodyPost_ret (v:=.tuple #[V 3 X Y E0,.int .i64 0]) (by simp[results,results90,go_sem,hc1]) rfl ⟨rfl,by
  repeat(first|exact g1|refine G.alloc ?_ _|refine G.setCell ?_ (by simp;try omega) _)⟩
theorem zIT(a b c d cc dd n ac bd x bc ad y:Int)(e1:wrap64 (c*c)=cc)(e2:wrap64 (d*d)=dd)(e3:wrap64 (cc+dd)=n)(e4:wrap64 (a*c)=ac)(e5:wrap64 (b*d)=bd)(e6:wrap64 (ac+bd)=x)(e7:wrap64 (b*c)=bc)(e8:wrap64 (a*d)=ad)(e9:wrap64 (bc-ad)=y)(X Y:Int)(f1:wrap64 (a-c)=X)(f2:wrap64 (b-d)=Y)(h1:∀w,Calls prog 73 #[.int .i64 X] w fun e w'=>e=.returned (.bool false)∧w'=w) (w:World):CG 90 #[.int .i64 2,.int .i64 a,.int .i64 b,.int .i64 c,.int .i64 d] w (.tuple #[V0,.int .i64 11]):=by
 have H1:Hid _:=h1;clear h1
 go_enter func90,ntmps90
 go_wp2_with fail
 refine(H1.out _).mono ?_;rintro e wx ⟨rfl,rfl⟩
 go_wp2
 exact bodyPost_ret (v:=.tuple #[V0,.int .i64 11]) (by simp[results,results90,go_sem]) rfl ⟨rfl,by
  repeat(first|exact G.refl _|refine G.alloc ?_ _|refine G.setCell ?_ (by simp;try omega) _)⟩
theorem zIS(a b c d cc dd n ac bd x bc ad y:Int)(e1:wrap64 (c*c)=cc)(e2:wrap64 (d*d)=dd)(e3:wrap64 (cc+dd)=n)(e4:wrap64 (a*c)=ac)(e5:wrap64 (b*d)=bd)(e6:wrap64 (ac+bd)=x)(e7:wrap64 (b*c)=bc)(e8:wrap64 (a*d)=ad)(e9:wrap64 (bc-ad)=y)(X Y:Int)(f1:wrap64 (a-c)=X)(f2:wrap64 (b-d)=Y)(h1:∀w,Calls prog 73 #[.int .i64 X] w fun e w'=>e=.returned (.bool true)∧w'=w)(h2:∀w,Calls prog 73 #[.int .i64 Y] w fun e w'=>e=.returned (.bool false)∧w'=w)(w:World):CG 90 #[.int .i64 2,.int .i64 a,.int .i64 b,.int .i64 c,.int .i64 d] w (.tuple #[V0,.int .i64 11]):=by
 have H1:Hid _:=h1;have H2:Hid _:=h2;clear h1 h2
 go_enter func90,ntmps90
 go_wp2_with fail
 refine(H1.out _).mono ?_;rintro e wx ⟨rfl,rfl⟩
 go_wp2_with fail
 refine(H2.out _).mono ?_;rintro e wx ⟨rfl,rfl⟩
 go_wp2
 exact bodyPost_ret (v:=.tuple #[V0,.int .i64 11]) (by simp[results,results90,go_sem]) rfl ⟨rfl,by
  repeat(first|exact G.refl _|refine G.alloc ?_ _|refine G.setCell ?_ (by simp;try omega) _)⟩
theorem zIU(a b c d cc dd n ac bd x bc ad y:Int)(e1:wrap64 (c*c)=cc)(e2:wrap64 (d*d)=dd)(e3:wrap64 (cc+dd)=n)(e4:wrap64 (a*c)=ac)(e5:wrap64 (b*d)=bd)(e6:wrap64 (ac+bd)=x)(e7:wrap64 (b*c)=bc)(e8:wrap64 (a*d)=ad)(e9:wrap64 (bc-ad)=y)(X Y:Int)(f1:wrap64 (a-c)=X)(f2:wrap64 (b-d)=Y)(h1:∀w,Calls prog 73 #[.int .i64 X] w fun e w'=>e=.returned (.bool true)∧w'=w)(h2:∀w,Calls prog 73 #[.int .i64 Y] w fun e w'=>e=.returned (.bool true)∧w'=w)(w:World):CG 90 #[.int .i64 2,.int .i64 a,.int .i64 b,.int .i64 c,.int .i64 d] w (.tuple #[V 3 X Y E0,.int .i64 0]):=by
 have H1:Hid _:=h1;have H2:Hid _:=h2;clear h1 h2
 go_enter func90,ntmps90
 go_wp2_with fail
 refine(H1.out _).mono ?_;rintro e wx ⟨rfl,rfl⟩
 go_wp2_with fail
 refine(H2.out _).mono ?_;rintro e wx ⟨rfl,rfl⟩
 go_wp2_with fail
 refine(rpair X Y _).mono ?_;rintro e w1 ⟨rfl,hb1⟩;have g1:G w w1:=((G.refl w).alloc _).trans hb1;obtain⟨hc1,hf1⟩:=hb1.rules
 go_wp2
 exact bodyPost_ret (v:=.tuple #[V 3 X Y E0,.int .i64 0]) (by simp[results,results90,go_sem,hc1]) rfl ⟨rfl,by
  repeat(first|exact g1|refine G.alloc ?_ _|refine G.setCell ?_ (by simp;try omega) _)⟩
theorem zIQ(a b c d cc dd n ac bd x bc ad y:Int)(e1:wrap64 (c*c)=cc)(e2:wrap64 (d*d)=dd)(e3:wrap64 (cc+dd)=n)(e4:wrap64 (a*c)=ac)(e5:wrap64 (b*d)=bd)(e6:wrap64 (ac+bd)=x)(e7:wrap64 (b*c)=bc)(e8:wrap64 (a*d)=ad)(e9:wrap64 (bc-ad)=y)(X Y:Int)(f1:wrap64 (ac-bd)=X)(f2:wrap64 (ad+bc)=Y)(h1:∀w,Calls prog 73 #[.int .i64 X] w fun e w'=>e=.returned (.bool false)∧w'=w) (w:World):CG 90 #[.int .i64 3,.int .i64 a,.int .i64 b,.int .i64 c,.int .i64 d] w (.tuple #[V0,.int .i64 11]):=by
 have H1:Hid _:=h1;clear h1
 go_enter func90,ntmps90
 go_wp2_with fail
 refine(H1.out _).mono ?_;rintro e wx ⟨rfl,rfl⟩
 go_wp2
 exact bodyPost_ret (v:=.tuple #[V0,.int .i64 11]) (by simp[results,results90,go_sem]) rfl ⟨rfl,by
  repeat(first|exact G.refl _|refine G.alloc ?_ _|refine G.setCell ?_ (by simp;try omega) _)⟩
theorem zIP(a b c d cc dd n ac bd x bc ad y:Int)(e1:wrap64 (c*c)=cc)(e2:wrap64 (d*d)=dd)(e3:wrap64 (cc+dd)=n)(e4:wrap64 (a*c)=ac)(e5:wrap64 (b*d)=bd)(e6:wrap64 (ac+bd)=x)(e7:wrap64 (b*c)=bc)(e8:wrap64 (a*d)=ad)(e9:wrap64 (bc-ad)=y)(X Y:Int)(f1:wrap64 (ac-bd)=X)(f2:wrap64 (ad+bc)=Y)(h1:∀w,Calls prog 73 #[.int .i64 X] w fun e w'=>e=.returned (.bool true)∧w'=w)(h2:∀w,Calls prog 73 #[.int .i64 Y] w fun e w'=>e=.returned (.bool false)∧w'=w)(w:World):CG 90 #[.int .i64 3,.int .i64 a,.int .i64 b,.int .i64 c,.int .i64 d] w (.tuple #[V0,.int .i64 11]):=by
 have H1:Hid _:=h1;have H2:Hid _:=h2;clear h1 h2
 go_enter func90,ntmps90
 go_wp2_with fail
 refine(H1.out _).mono ?_;rintro e wx ⟨rfl,rfl⟩
 go_wp2_with fail
 refine(H2.out _).mono ?_;rintro e wx ⟨rfl,rfl⟩
 go_wp2
 exact bodyPost_ret (v:=.tuple #[V0,.int .i64 11]) (by simp[results,results90,go_sem]) rfl ⟨rfl,by
  repeat(first|exact G.refl _|refine G.alloc ?_ _|refine G.setCell ?_ (by simp;try omega) _)⟩
theorem zIR(a b c d cc dd n ac bd x bc ad y:Int)(e1:wrap64 (c*c)=cc)(e2:wrap64 (d*d)=dd)(e3:wrap64 (cc+dd)=n)(e4:wrap64 (a*c)=ac)(e5:wrap64 (b*d)=bd)(e6:wrap64 (ac+bd)=x)(e7:wrap64 (b*c)=bc)(e8:wrap64 (a*d)=ad)(e9:wrap64 (bc-ad)=y)(X Y:Int)(f1:wrap64 (ac-bd)=X)(f2:wrap64 (ad+bc)=Y)(h1:∀w,Calls prog 73 #[.int .i64 X] w fun e w'=>e=.returned (.bool true)∧w'=w)(h2:∀w,Calls prog 73 #[.int .i64 Y] w fun e w'=>e=.returned (.bool true)∧w'=w)(w:World):CG 90 #[.int .i64 3,.int .i64 a,.int .i64 b,.int .i64 c,.int .i64 d] w (.tuple #[V 3 X Y E0,.int .i64 0]):=by
 have H1:Hid _:=h1;have H2:Hid _:=h2;clear h1 h2
 go_enter func90,ntmps90
 go_wp2_with fail
 refine(H1.out _).mono ?_;rintro e wx ⟨rfl,rfl⟩
 go_wp2_with fail
 refine(H2.out _).mono ?_;rintro e wx ⟨rfl,rfl⟩
 go_wp2_with fail
 refine(rpair X Y _).mono ?_;rintro e w1 ⟨rfl,hb1⟩;have g1:G w w1:=((G.refl w).alloc _).trans hb1;obtain⟨hc1,hf1⟩:=hb1.rules
 go_wp2
 exact bodyPost_ret (v:=.tuple #[V 3 X Y E0,.int .i64 0]) (by simp[results,results90,go_sem,hc1]) rfl ⟨rfl,by
  repeat(first|exact g1|refine G.alloc ?_ _|refine G.setCell ?_ (by simp;try omega) _)⟩
theorem zL8(a b c d cc dd n ac bd x bc ad y:Int)(e1:wrap64 (c*c)=cc)(e2:wrap64 (d*d)=dd)(e3:wrap64 (cc+dd)=n)(e4:wrap64 (a*c)=ac)(e5:wrap64 (b*d)=bd)(_e6:wrap64 (ac+bd)=x)(e7:wrap64 (b*c)=bc)(e8:wrap64 (a*d)=ad)(_e9:wrap64 (bc-ad)=y)(z:n=0)(w:World):CG 90 #[.int .i64 4,.int .i64 a,.int .i64 b,.int .i64 c,.int .i64 d] w (.tuple #[V0,.int .i64 12]):=by
 subst z
 go_enter func90,ntmps90
 go_wp2
 exact bodyPost_ret (v:=.tuple #[V0,.int .i64 12]) (by simp[results,results90,go_sem]) rfl ⟨rfl,by
  repeat(first|exact G.refl _|refine G.alloc ?_ _|refine G.setCell ?_ (by simp;try omega) _)⟩
theorem zL7(a b c d cc dd n ac bd x bc ad y:Int)(e1:wrap64 (c*c)=cc)(e2:wrap64 (d*d)=dd)(e3:wrap64 (cc+dd)=n)(e4:wrap64 (a*c)=ac)(e5:wrap64 (b*d)=bd)(_e6:wrap64 (ac+bd)=x)(e7:wrap64 (b*c)=bc)(e8:wrap64 (a*d)=ad)(_e9:wrap64 (bc-ad)=y)(z:n=0)(w:World):CG 90 #[.int .i64 5,.int .i64 a,.int .i64 b,.int .i64 c,.int .i64 d] w (.tuple #[V0,.int .i64 12]):=by
 subst z
 go_enter func90,ntmps90
 go_wp2
 exact bodyPost_ret (v:=.tuple #[V0,.int .i64 12]) (by simp[results,results90,go_sem]) rfl ⟨rfl,by
  repeat(first|exact G.refl _|refine G.alloc ?_ _|refine G.setCell ?_ (by simp;try omega) _)⟩
theorem zIO(a b c d cc dd n ac bd x bc ad y:Int)(e1:wrap64 (c*c)=cc)(e2:wrap64 (d*d)=dd)(e3:wrap64 (cc+dd)=n)(e4:wrap64 (a*c)=ac)(e5:wrap64 (b*d)=bd)(e6:wrap64 (ac+bd)=x)(e7:wrap64 (b*c)=bc)(e8:wrap64 (a*d)=ad)(_e9:wrap64 (bc-ad)=y)(z:(n==0)=false)(_z:¬n=0)(m:Int)(f1:x.tmod n=m)(f2:(m != 0)=true)(w:World):CG 90 #[.int .i64 4,.int .i64 a,.int .i64 b,.int .i64 c,.int .i64 d] w (.tuple #[V0,.int .i64 13]):=by
 go_enter func90,ntmps90
 go_wp2
 exact bodyPost_ret (v:=.tuple #[V0,.int .i64 13]) (by simp[results,results90,go_sem]) rfl ⟨rfl,by
  repeat(first|exact G.refl _|refine G.alloc ?_ _|refine G.setCell ?_ (by simp;try omega) _)⟩
theorem zIN(a b c d cc dd n ac bd x bc ad y:Int)(e1:wrap64 (c*c)=cc)(e2:wrap64 (d*d)=dd)(e3:wrap64 (cc+dd)=n)(e4:wrap64 (a*c)=ac)(e5:wrap64 (b*d)=bd)(e6:wrap64 (ac+bd)=x)(e7:wrap64 (b*c)=bc)(e8:wrap64 (a*d)=ad)(e9:wrap64 (bc-ad)=y)(z:(n==0)=false)(_z:¬n=0)(m:Int)(f1:x.tmod n=0)(f2:y.tmod n=m)(f3:(m != 0)=true)(w:World):CG 90 #[.int .i64 4,.int .i64 a,.int .i64 b,.int .i64 c,.int .i64 d] w (.tuple #[V0,.int .i64 13]):=by
 go_enter func90,ntmps90
 go_wp2
 exact bodyPost_ret (v:=.tuple #[V0,.int .i64 13]) (by simp[results,results90,go_sem]) rfl ⟨rfl,by
  repeat(first|exact G.refl _|refine G.alloc ?_ _|refine G.setCell ?_ (by simp;try omega) _)⟩
theorem zIM(a b c d cc dd n ac bd x bc ad y:Int)(e1:wrap64 (c*c)=cc)(e2:wrap64 (d*d)=dd)(e3:wrap64 (cc+dd)=n)(e4:wrap64 (a*c)=ac)(e5:wrap64 (b*d)=bd)(e6:wrap64 (ac+bd)=x)(e7:wrap64 (b*c)=bc)(e8:wrap64 (a*d)=ad)(e9:wrap64 (bc-ad)=y)(z:(n==0)=false)(_z:¬n=0)(X Y:Int)(f1:x.tmod n=0)(f2:y.tmod n=0)(f3:wrap64 (x.tdiv n)=X)(f4:wrap64 (y.tdiv n)=Y)(h1:∀w,Calls prog 73 #[.int .i64 X] w fun e w'=>e=.returned (.bool true)∧w'=w)(h2:∀w,Calls prog 73 #[.int .i64 Y] w fun e w'=>e=.returned (.bool true)∧w'=w)(w:World):CG 90 #[.int .i64 4,.int .i64 a,.int .i64 b,.int .i64 c,.int .i64 d] w (.tuple #[V 3 X Y E0,.int .i64 0]):=by
 have H1:Hid _:=h1;have H2:Hid _:=h2;clear h1 h2
 go_enter func90,ntmps90
 go_wp2
 go_quiet (fail)
 go_wp2_with fail
 refine(H1.out _).mono ?_;rintro e wx ⟨rfl,rfl⟩
 go_wp2_with fail
 refine(H2.out _).mono ?_;rintro e wx ⟨rfl,rfl⟩
 go_wp2_with fail
 refine(rpair X Y _).mono ?_;rintro e w1 ⟨rfl,hb1⟩;have g1:G w w1:=(((G.refl w).alloc _).drewQ _).trans hb1;obtain⟨hc1,hf1⟩:=hb1.rules
 go_wp2
 exact bodyPost_ret (v:=.tuple #[V 3 X Y E0,.int .i64 0]) (by simp[results,results90,go_sem,hc1]) rfl ⟨rfl,by
  repeat(first|exact g1|refine G.alloc ?_ _|refine G.setCell ?_ (by simp;try omega) _)⟩
theorem zIL(a b c d cc dd n ac bd x bc ad y:Int)(e1:wrap64 (c*c)=cc)(e2:wrap64 (d*d)=dd)(e3:wrap64 (cc+dd)=n)(e4:wrap64 (a*c)=ac)(e5:wrap64 (b*d)=bd)(e6:wrap64 (ac+bd)=x)(e7:wrap64 (b*c)=bc)(e8:wrap64 (a*d)=ad)(e9:wrap64 (bc-ad)=y)(z:(n==0)=false)(_z:¬n=0)(x2 xn n2 y2 yn p q pc qd u pd qc v X Y:Int)(f1:wrap64 (2*x)=x2)(f2:wrap64 (x2+n)=xn)(f3:wrap64 (2*n)=n2)(f4:wrap64 (2*y)=y2)(f5:wrap64 (y2+n)=yn)
  (f6:wrap64 (p*c)=pc) (f7:wrap64 (q*d)=qd) (f8:wrap64 (pc-qd)=u) (f9:wrap64 (a-u)=X) (f10:wrap64 (p*d)=pd) (f11:wrap64 (q*c)=qc) (f12:wrap64 (pd+qc)=v) (f13:wrap64 (b-v)=Y) (h3:∀w,Calls prog 124 #[.int .i64 xn,.int .i64 n2] w fun e w'=>e=.returned (.int .i64 p)∧w'=w) (h4:∀w,Calls prog 124 #[.int .i64 yn,.int .i64 n2] w fun e w'=>e=.returned (.int .i64 q)∧w'=w) (h1:∀w,Calls prog 73 #[.int .i64 X] w fun e w'=>e=.returned (.bool true)∧w'=w) (h2:∀w,Calls prog 73 #[.int .i64 Y] w fun e w'=>e=.returned (.bool true)∧w'=w) (w:World):CG 90 #[.int .i64 5,.int .i64 a,.int .i64 b,.int .i64 c,.int .i64 d] w (.tuple #[V 3 X Y E0,.int .i64 0]):=by
 have H1:Hid _:=h1;have H2:Hid _:=h2;have H3:Hid _:=h3;have H4:Hid _:=h4;clear h1 h2 h3 h4
 go_enter func90,ntmps90
 go_wp2_with fail
 refine(H3.out _).mono ?_;rintro e wx ⟨rfl,rfl⟩
 go_wp2_with fail
 refine(H4.out _).mono ?_;rintro e wx ⟨rfl,rfl⟩
 go_wp2_with fail
 refine(H1.out _).mono ?_;rintro e wx ⟨rfl,rfl⟩
 go_wp2_with fail
 refine(H2.out _).mono ?_;rintro e wx ⟨rfl,rfl⟩
 go_wp2_with fail
 refine(rpair X Y _).mono ?_;rintro e w1 ⟨rfl,hb1⟩;have g1:G w w1:=((G.refl w).alloc _).trans hb1;obtain⟨hc1,hf1⟩:=hb1.rules
 go_wp2
 exact bodyPost_ret (v:=.tuple #[V 3 X Y E0,.int .i64 0]) (by simp[results,results90,go_sem,hc1]) rfl ⟨rfl,by
  repeat(first|exact g1|refine G.alloc ?_ _|refine G.setCell ?_ (by simp;try omega) _)⟩
end
section
open Go.RowKit
theorem zDr(a b:Int)(ha:I64 a)(hb:b≠0)(h:¬(a = -9223372036854775808∧b = -1)):I64 (a.tdiv b):=by
 obtain⟨h1,h2⟩:=ha;have e:(a.tdiv b).natAbs=a.natAbs/b.natAbs:=Int.natAbs_tdiv a b
 by_cases c1:b=1
 ·subst c1;rw[Int.tdiv_one];exact⟨h1,h2⟩
 ·by_cases c2:b = -1
  ·subst c2
   have:a.tdiv (-1) = -a:=by rw[Int.tdiv_neg,Int.tdiv_one]
   rw[this];have:a≠-9223372036854775808:=fun e=>h ⟨e,rfl⟩
   constructor<;>omega
  ·have hb2:2≤b.natAbs:=by omega
   have:a.natAbs/b.natAbs≤a.natAbs/2:=Nat.div_le_div_left hb2 (by decide)
   have:a.natAbs/2≤4611686018427387904:=by omega
   constructor<;>omega
theorem zIC(a b:Int)(ha:I64 a):I64 (a.tmod b):=by
 obtain⟨h1,h2⟩:=ha;have e:(a.tmod b).natAbs=a.natAbs%b.natAbs:=Int.natAbs_tmod a b;have:a.natAbs%b.natAbs≤a.natAbs:=Nat.mod_le _ _;have s:0≤a→0≤a.tmod b:=fun h=>Int.tmod_nonneg b h
 by_cases c:0≤a
 ·have:=s c;constructor<;>omega
 ·have h3:(-a).tmod b = -(a.tmod b):=Int.neg_tmod a b
  have h4:=Int.tmod_nonneg b (show 0≤-a by omega)
  constructor<;>omega
theorem w64{n:Int}(h:I64 n):wrap64 n=n:=by obtain⟨h1,h2⟩:=h;unfold wrap64;omega
theorem zCi(a b q:Int)(_hb':¬b=0)(h:(a==-9223372036854775808)=false∨(b==-1)=false)(hw:wrap64 (a.tdiv b)=q)(w:World):Calls prog 157 #[.int .i64 a,.int .i64 b] w fun e w'=>e=.returned (.tuple #[IW q,.int .i64 0])∧w'=w:=by
 rcases h with h|h
 ·go_enter func157,ntmps157
  go_wp2
  go_ret2
  exact⟨rfl,rfl⟩
 ·by_cases c:a = -9223372036854775808
  ·have c':(a==-9223372036854775808)=true:=by simpa using c
   clear c
   go_enter func157,ntmps157
   go_wp2
   go_ret2
   exact⟨rfl,rfl⟩
  ·have c':(a==-9223372036854775808)=false:=by simpa using c
   clear c
   go_enter func157,ntmps157
   go_wp2
   go_ret2
   exact⟨rfl,rfl⟩
theorem zC9(w:World):Calls prog 157 #[.int .i64 (-9223372036854775808),.int .i64 (-1)] w fun e w'=>e=.returned (.tuple #[.nilIface,.int .i64 11])∧w'=w:=by
 go_enter func157,ntmps157
 go_wp2
 go_ret2
 exact⟨rfl,rfl⟩
theorem zE7(a b:Int)(r:Value)(c:Int)(hb:(b==0)=false)(h:∀w,Calls prog 157 #[.int .i64 a,.int .i64 b] w fun e w'=>e=.returned (.tuple #[r,.int .i64 c])∧w'=w)(w:World):CG 122 #[.int .i64 4,.int .i64 a,.int .i64 b] w (.tuple #[r,.int .i64 c]):=by
 have H:Hid _:=h;clear h
 go_enter func122,ntmps122
 go_wp2_with fail
 refine(H.out _).mono ?_;rintro e w1 ⟨rfl,rfl⟩
 go_wp2
 go_ret2
 exact⟨rfl,G.refl _⟩
theorem zE6(a b r:Int)(hb:(b==0)=false)(_hb':¬b=0)(hr:a.tmod b=r)(w:World):CG 122 #[.int .i64 5,.int .i64 a,.int .i64 b] w (.tuple #[IW r,.int .i64 0]):=by
 go_enter func122,ntmps122
 go_wp2
 go_ret2
 exact⟨rfl,G.refl _⟩
theorem zFD(op a:Int)(ho:op=4∨op=5)(w:World):CG 122 #[.int .i64 op,.int .i64 a,.int .i64 0] w (.tuple #[.nilIface,.int .i64 12]):=by
 have n1:(op==1)=false:=by simp;omega
 have n2:(op==2)=false:=by simp;omega
 have n3:(op==3)=false:=by simp;omega
 clear ho
 go_enter func122,ntmps122
 go_wp2
 go_ret2
 exact⟨rfl,G.refl _⟩
theorem zGq(a b:Int)(ha:I64 a)(hb:I64 b)(h:¬I64 (a+b))(w:World):CG 122 #[.int .i64 1,.int .i64 a,.int .i64 b] w (.tuple #[.nilIface,.int .i64 11]):=by
 have H:Hid _:=zIm a b ha hb h;clear ha hb h
 go_enter func122,ntmps122
 go_wp2_with fail
 refine(H.out _).mono ?_;rintro e w1 ⟨rfl,rfl⟩
 go_wp2
 go_ret2
 exact⟨rfl,G.refl _⟩
theorem zDp(a b:Int)(ha:I64 a)(hb:I64 b)(h:¬I64 (a-b))(w:World):CG 122 #[.int .i64 2,.int .i64 a,.int .i64 b] w (.tuple #[.nilIface,.int .i64 11]):=by
 have H:Hid _:=zDd a b ha hb h;clear ha hb h
 go_enter func122,ntmps122
 go_wp2_with fail
 refine(H.out _).mono ?_;rintro e w1 ⟨rfl,rfl⟩
 go_wp2
 go_ret2
 exact⟨rfl,G.refl _⟩
theorem zGp(a b:Int)(ha:I64 a)(hb:I64 b)(h:¬I64 (a*b))(w:World):CG 122 #[.int .i64 3,.int .i64 a,.int .i64 b] w (.tuple #[.nilIface,.int .i64 11]):=by
 have H:Hid _:=zED a b ha hb h;clear ha hb h
 go_enter func122,ntmps122
 go_wp2_with fail
 refine(H.out _).mono ?_;rintro e w1 ⟨rfl,rfl⟩
 go_wp2
 go_ret2
 exact⟨rfl,G.refl _⟩
theorem zLS(a b:Int)(ha:I64 a)(hb:I64 b)(h:I64 (a+b))(w:World):CG 89 #[.int .i64 1,.int .i64 a,.int .i64 b] w (.tuple #[V 2 (a+b) 0 E0,.int .i64 0]):=by
 have H:Hid _:=zCX a b ha hb h;clear ha hb h
 go_enter func89,ntmps89
 go_wp2_with fail
 refine(H.out _).mono ?_;rintro e wx ⟨rfl,rfl⟩
 go_wp2_with fail
 refine(rwhole _ _).mono ?_;rintro e w1 ⟨rfl,hb1⟩;have g1:G w w1:=((G.refl w).alloc _).trans hb1;obtain⟨hc1,hf1⟩:=hb1.rules
 go_wp2
 exact bodyPost_ret (v:=.tuple #[V 2 (a+b) 0 E0,.int .i64 0]) (by simp[results,results89,go_sem,hc1]) rfl ⟨rfl,by
  repeat(first|exact g1|refine G.alloc ?_ _|refine G.setCell ?_ (by simp;try omega) _)⟩
theorem zFi(a b:Int)(ha:I64 a)(hb:I64 b)(h:¬I64 (a+b))(w:World):CG 89 #[.int .i64 1,.int .i64 a,.int .i64 b] w (.tuple #[V0,.int .i64 11]):=by
 have H:Hid _:=zDH a b ha hb h;clear ha hb h
 go_enter func89,ntmps89
 go_wp2_with fail
 refine(H.out _).mono ?_;rintro e wx ⟨rfl,rfl⟩
 go_wp2
 exact bodyPost_ret (v:=.tuple #[V0,.int .i64 11]) (by simp[results,results89,go_sem]) rfl ⟨rfl,by
  repeat(first|exact G.refl _|refine G.alloc ?_ _|refine G.setCell ?_ (by simp;try omega) _)⟩
theorem zLP(a b:Int)(ha:I64 a)(hb:I64 b)(h:I64 (a*b))(w:World):CG 89 #[.int .i64 3,.int .i64 a,.int .i64 b] w (.tuple #[V 2 (a*b) 0 E0,.int .i64 0]):=by
 have H:Hid _:=zDS a b ha hb h;clear ha hb h
 go_enter func89,ntmps89
 go_wp2_with fail
 refine(H.out _).mono ?_;rintro e wx ⟨rfl,rfl⟩
 go_wp2_with fail
 refine(rwhole _ _).mono ?_;rintro e w1 ⟨rfl,hb1⟩;have g1:G w w1:=((G.refl w).alloc _).trans hb1;obtain⟨hc1,hf1⟩:=hb1.rules
 go_wp2
 exact bodyPost_ret (v:=.tuple #[V 2 (a*b) 0 E0,.int .i64 0]) (by simp[results,results89,go_sem,hc1]) rfl ⟨rfl,by
  repeat(first|exact g1|refine G.alloc ?_ _|refine G.setCell ?_ (by simp;try omega) _)⟩
theorem zFg(a b:Int)(ha:I64 a)(hb:I64 b)(h:¬I64 (a*b))(w:World):CG 89 #[.int .i64 3,.int .i64 a,.int .i64 b] w (.tuple #[V0,.int .i64 11]):=by
 have H:Hid _:=zEt a b ha hb h;clear ha hb h
 go_enter func89,ntmps89
 go_wp2_with fail
 refine(H.out _).mono ?_;rintro e wx ⟨rfl,rfl⟩
 go_wp2
 exact bodyPost_ret (v:=.tuple #[V0,.int .i64 11]) (by simp[results,results89,go_sem]) rfl ⟨rfl,by
  repeat(first|exact G.refl _|refine G.alloc ?_ _|refine G.setCell ?_ (by simp;try omega) _)⟩
theorem zLO(a b:Int)(ha:I64 a)(hb:I64 b)(hm:(b==-9223372036854775808)=false)(h:I64 (a-b))(w:World):CG 89 #[.int .i64 2,.int .i64 a,.int .i64 b] w (.tuple #[V 2 (a-b) 0 E0,.int .i64 0]):=by
 have hm':b≠-9223372036854775808:=by simpa using hm
 have e:wrap64 (-b) = -b:=by obtain⟨h1,h2⟩:=hb;unfold wrap64;omega
 have H:Hid (∀w,Calls prog 113 #[.int .i64 a,.int .i64 (-b)] w fun e w'=>e=.returned (.tuple #[.int .i64 (a-b),.bool true])∧w'=w):=by
  have:=zCX a (-b) ha (by obtain⟨h1,h2⟩:=hb;constructor<;>omega) (by rw[←Int.sub_eq_add_neg];exact h);rw[←Int.sub_eq_add_neg] at this;exact this
 clear ha hb h hm'
 go_enter func89,ntmps89
 go_wp2_with fail
 refine(H.out _).mono ?_;rintro e wx ⟨rfl,rfl⟩
 go_wp2_with fail
 refine(rwhole _ _).mono ?_;rintro e w1 ⟨rfl,hb1⟩;have g1:G w w1:=((G.refl w).alloc _).trans hb1;obtain⟨hc1,hf1⟩:=hb1.rules
 go_wp2
 exact bodyPost_ret (v:=.tuple #[V 2 (a-b) 0 E0,.int .i64 0]) (by simp[results,results89,go_sem,hc1]) rfl ⟨rfl,by
  repeat(first|exact g1|refine G.alloc ?_ _|refine G.setCell ?_ (by simp;try omega) _)⟩
theorem zFf(a b:Int)(ha:I64 a)(hb:I64 b)(hm:(b==-9223372036854775808)=false)(h:¬I64 (a-b))(w:World):CG 89 #[.int .i64 2,.int .i64 a,.int .i64 b] w (.tuple #[V0,.int .i64 11]):=by
 have hm':b≠-9223372036854775808:=by simpa using hm
 have e:wrap64 (-b) = -b:=by obtain⟨h1,h2⟩:=hb;unfold wrap64;omega
 have H:Hid (∀w,Calls prog 113 #[.int .i64 a,.int .i64 (-b)] w fun e w'=>e=.returned (.tuple #[.int .i64 0,.bool false])∧w'=w):=
  zDH a (-b) ha (by obtain⟨h1,h2⟩:=hb;constructor<;>omega) (by rw[←Int.sub_eq_add_neg];exact h)
 clear ha hb h hm'
 go_enter func89,ntmps89
 go_wp2_with fail
 refine(H.out _).mono ?_;rintro e wx ⟨rfl,rfl⟩
 go_wp2
 exact bodyPost_ret (v:=.tuple #[V0,.int .i64 11]) (by simp[results,results89,go_sem]) rfl ⟨rfl,by
  repeat(first|exact G.refl _|refine G.alloc ?_ _|refine G.setCell ?_ (by simp;try omega) _)⟩
theorem zGA(a:Int)(ha:I64 a)(h:a<0)(w:World):CG 89 #[.int .i64 2,.int .i64 a,.int .i64 (-9223372036854775808)] w (.tuple #[V 2 (a+9223372036854775808) 0 E0,.int .i64 0]):=by
 have e:wrap64 (a+9223372036854775808)=a+9223372036854775808:=by obtain⟨h1,h2⟩:=ha;unfold wrap64;omega
 clear ha
 go_enter func89,ntmps89
 go_wp2_with fail
 refine(rwhole _ _).mono ?_;rintro e w1 ⟨rfl,hb1⟩;have g1:G w w1:=((G.refl w).alloc _).trans hb1;obtain⟨hc1,hf1⟩:=hb1.rules
 go_wp2
 exact bodyPost_ret (v:=.tuple #[V 2 (a+9223372036854775808) 0 E0,.int .i64 0]) (by simp[results,results89,go_sem,hc1]) rfl ⟨rfl,by
  repeat(first|exact g1|refine G.alloc ?_ _|refine G.setCell ?_ (by simp;try omega) _)⟩
theorem zEu(a:Int)(h:¬a<0)(w:World):CG 89 #[.int .i64 2,.int .i64 a,.int .i64 (-9223372036854775808)] w (.tuple #[V0,.int .i64 11]):=by
 go_enter func89,ntmps89
 go_wp2
 exact bodyPost_ret (v:=.tuple #[V0,.int .i64 11]) (by simp[results,results89,go_sem]) rfl ⟨rfl,by
  repeat(first|exact G.refl _|refine G.alloc ?_ _|refine G.setCell ?_ (by simp;try omega) _)⟩
theorem zGz(a:Int)(w:World):CG 89 #[.int .i64 4,.int .i64 a,.int .i64 0] w (.tuple #[V0,.int .i64 12]):=by
 go_enter func89,ntmps89
 go_wp2
 exact bodyPost_ret (v:=.tuple #[V0,.int .i64 12]) (by simp[results,results89,go_sem]) rfl ⟨rfl,by
  repeat(first|exact G.refl _|refine G.alloc ?_ _|refine G.setCell ?_ (by simp;try omega) _)⟩
theorem zGy(a:Int)(w:World):CG 89 #[.int .i64 5,.int .i64 a,.int .i64 0] w (.tuple #[V0,.int .i64 12]):=by
 go_enter func89,ntmps89
 go_wp2
 exact bodyPost_ret (v:=.tuple #[V0,.int .i64 12]) (by simp[results,results89,go_sem]) rfl ⟨rfl,by
  repeat(first|exact G.refl _|refine G.alloc ?_ _|refine G.setCell ?_ (by simp;try omega) _)⟩
theorem zGC(a:Int)(h1:-9223372036854775808<a)(h2:a≤9223372036854775807)(w:World):CG 89 #[.int .i64 4,.int .i64 a,.int .i64 (-1)] w (.tuple #[V 2 (-a) 0 E0,.int .i64 0]):=by
 have H:Hid _:=zBJ a h1 h2;clear h1 h2
 go_enter func89,ntmps89
 go_wp2_with fail
 refine(H.out _).mono ?_;rintro e wx ⟨rfl,rfl⟩
 go_wp2_with fail
 refine(rwhole _ _).mono ?_;rintro e w1 ⟨rfl,hb1⟩;have g1:G w w1:=((G.refl w).alloc _).trans hb1;obtain⟨hc1,hf1⟩:=hb1.rules
 go_wp2
 exact bodyPost_ret (v:=.tuple #[V 2 (-a) 0 E0,.int .i64 0]) (by simp[results,results89,go_sem,hc1]) rfl ⟨rfl,by
  repeat(first|exact g1|refine G.alloc ?_ _|refine G.setCell ?_ (by simp;try omega) _)⟩
theorem zEv (w:World):CG 89 #[.int .i64 4,.int .i64 (-9223372036854775808),.int .i64 (-1)] w (.tuple #[V0,.int .i64 11]):=by
 go_enter func89,ntmps89
 go_wp2_with fail
 refine(zB6 _).mono ?_;rintro e wx ⟨rfl,rfl⟩
 go_wp2
 exact bodyPost_ret (v:=.tuple #[V0,.int .i64 11]) (by simp[results,results89,go_sem]) rfl ⟨rfl,by
  repeat(first|exact G.refl _|refine G.alloc ?_ _|refine G.setCell ?_ (by simp;try omega) _)⟩
theorem zGB(a:Int)(h1:-9223372036854775808<a)(h2:a≤9223372036854775807)(w:World):CG 89 #[.int .i64 5,.int .i64 a,.int .i64 (-1)] w (.tuple #[V 2 (0) 0 E0,.int .i64 0]):=by
 have H:Hid _:=zBJ a h1 h2;clear h1 h2
 go_enter func89,ntmps89
 go_wp2_with fail
 refine(H.out _).mono ?_;rintro e wx ⟨rfl,rfl⟩
 go_wp2_with fail
 refine(rwhole _ _).mono ?_;rintro e w1 ⟨rfl,hb1⟩;have g1:G w w1:=((G.refl w).alloc _).trans hb1;obtain⟨hc1,hf1⟩:=hb1.rules
 go_wp2
 exact bodyPost_ret (v:=.tuple #[V 2 (0) 0 E0,.int .i64 0]) (by simp[results,results89,go_sem,hc1]) rfl ⟨rfl,by
  repeat(first|exact g1|refine G.alloc ?_ _|refine G.setCell ?_ (by simp;try omega) _)⟩
theorem zFh (w:World):CG 89 #[.int .i64 5,.int .i64 (-9223372036854775808),.int .i64 (-1)] w (.tuple #[V 2 (0) 0 E0,.int .i64 0]):=by
 go_enter func89,ntmps89
 go_wp2_with fail
 refine(zB6 _).mono ?_;rintro e wx ⟨rfl,rfl⟩
 go_wp2_with fail
 refine(rwhole _ _).mono ?_;rintro e w1 ⟨rfl,hb1⟩;have g1:G w w1:=((G.refl w).alloc _).trans hb1;obtain⟨hc1,hf1⟩:=hb1.rules
 go_wp2
 exact bodyPost_ret (v:=.tuple #[V 2 (0) 0 E0,.int .i64 0]) (by simp[results,results89,go_sem,hc1]) rfl ⟨rfl,by
  repeat(first|exact g1|refine G.alloc ?_ _|refine G.setCell ?_ (by simp;try omega) _)⟩
theorem zLR(a b q:Int)(hb:(b==0)=false)(hm:(b==-1)=false)(_hb:¬b=0)(hw:wrap64 (a.tdiv b)=q)(w:World):CG 89 #[.int .i64 4,.int .i64 a,.int .i64 b] w (.tuple #[V 2 (q) 0 E0,.int .i64 0]):=by
 go_enter func89,ntmps89
 go_wp2_with fail
 refine(rwhole _ _).mono ?_;rintro e w1 ⟨rfl,hb1⟩;have g1:G w w1:=((G.refl w).alloc _).trans hb1;obtain⟨hc1,hf1⟩:=hb1.rules
 go_wp2
 exact bodyPost_ret (v:=.tuple #[V 2 (q) 0 E0,.int .i64 0]) (by simp[results,results89,go_sem,hc1]) rfl ⟨rfl,by
  repeat(first|exact g1|refine G.alloc ?_ _|refine G.setCell ?_ (by simp;try omega) _)⟩
theorem zLQ(a b q p m:Int)(hb:(b==0)=false)(hm:(b==-1)=false)(_hb:¬b=0)(hw:wrap64 (a.tdiv b)=q)(hp:wrap64 (b*q)=p)(hs:wrap64 (a-p)=m)(w:World):CG 89 #[.int .i64 5,.int .i64 a,.int .i64 b] w (.tuple #[V 2 (m) 0 E0,.int .i64 0]):=by
 go_enter func89,ntmps89
 go_wp2_with fail
 refine(rwhole _ _).mono ?_;rintro e w1 ⟨rfl,hb1⟩;have g1:G w w1:=((G.refl w).alloc _).trans hb1;obtain⟨hc1,hf1⟩:=hb1.rules
 go_wp2
 exact bodyPost_ret (v:=.tuple #[V 2 (m) 0 E0,.int .i64 0]) (by simp[results,results89,go_sem,hc1]) rfl ⟨rfl,by
  repeat(first|exact g1|refine G.alloc ?_ _|refine G.setCell ?_ (by simp;try omega) _)⟩
end
end Go.Proofs.YthmdjhfbhbheeaaGreatDoor
