import Derived.Test.YthmdjhfbhbheeaaGreatDoorParts3
namespace Go.Proofs.YthmdjhfbhbheeaaGreatDoor
open Go.Proofs.Tryz
set_option maxHeartbeats 4000000
set_option maxRecDepth 100000
section
open Go.RowKit Go.PlainAid Go.Lib Go.Shelf
def PNum(x:Value)(p q:Nat)(c:Int):Prop:=
 ∃(t f:Nat) (v:Value),x=.iface t v∧(∀w,(method 351 t v "trellis/value.number").run prog w=.ok (f,v) w)∧(∀w,(callFunc f #[v]).run prog w=.ok (.enter f #[v]) w)∧
  ∀w,CG f #[v] w (.tuple #[.complex .f64 p q,.int .i64 c])
theorem zPl (w:World):CG 233 #[.agg #[]] w (.tuple #[.complex .f64 0 0,.int .i64 10]):=by
 go_enter func233,ntmps233
 go_wp2
 go_ret2
 exact⟨rfl,by repeat(first|exact G.refl _|assumption|refine G.alloc ?_ _|refine G.drew ?_|refine G.setCell ?_ (by simp) _|refine G.trans ?_ (by assumption))⟩
theorem zSY :PNum (.iface 110 (.agg #[])) 0 0 10:=⟨_,233,_,rfl,fun w=>by kernel_rfl,fun w=>by simp[go_sem],zPl⟩
theorem zMm(m:Bool)(w:World):CG 238 #[.bool m] w (.tuple #[.complex .f64 0 0,.int .i64 10]):=by
 go_enter func238,ntmps238
 go_wp2
 go_ret2
 exact⟨rfl,by repeat(first|exact G.refl _|assumption|refine G.alloc ?_ _|refine G.drew ?_|refine G.setCell ?_ (by simp) _|refine G.trans ?_ (by assumption))⟩
theorem zPp(m:Bool):PNum (.iface 111 (.bool m)) 0 0 10:=⟨_,238,_,rfl,fun w=>by kernel_rfl,fun w=>by simp[go_sem],zMm m⟩
theorem zSX(m:ByteArray)(w:World):CG 258 #[.string m] w (.tuple #[.complex .f64 0 0,.int .i64 10]):=by
 go_enter func258,ntmps258
 go_wp2
 go_ret2
 exact⟨rfl,by repeat(first|exact G.refl _|assumption|refine G.alloc ?_ _|refine G.drew ?_|refine G.setCell ?_ (by simp) _|refine G.trans ?_ (by assumption))⟩
theorem zVG(m:ByteArray):PNum (.iface 137 (.string m)) 0 0 10:=⟨_,258,_,rfl,fun w=>by kernel_rfl,fun w=>by simp[go_sem],zSX m⟩
theorem zPm(m:Int)(w:World):CG 266 #[.int .i64 m] w (.tuple #[.complex .f64 0 0,.int .i64 10]):=by
 go_enter func266,ntmps266
 go_wp2
 go_ret2
 exact⟨rfl,by repeat(first|exact G.refl _|assumption|refine G.alloc ?_ _|refine G.drew ?_|refine G.setCell ?_ (by simp) _|refine G.trans ?_ (by assumption))⟩
theorem zSZ(m:Int):PNum (.iface 138 (.int .i64 m)) 0 0 10:=⟨_,266,_,rfl,fun w=>by kernel_rfl,fun w=>by simp[go_sem],zPm m⟩
theorem zPn(m:Int)(w:World):CG 271 #[.int .i64 m] w (.tuple #[.complex .f64 0 0,.int .i64 10]):=by
 go_enter func271,ntmps271
 go_wp2
 go_ret2
 exact⟨rfl,by repeat(first|exact G.refl _|assumption|refine G.alloc ?_ _|refine G.drew ?_|refine G.setCell ?_ (by simp) _|refine G.trans ?_ (by assumption))⟩
theorem zS0(m:Int):PNum (.iface 139 (.int .i64 m)) 0 0 10:=⟨_,271,_,rfl,fun w=>by kernel_rfl,fun w=>by simp[go_sem],zPn m⟩
theorem zVA(n:Int)(h:zAD n=false)(w:World):Calls prog 245 #[.int .i64 n] w fun e w'=>e=.returned (.tuple #[.complex .f64 0 0,.int .i64 11])∧w'=w:=by
 have H:Hid _:=zBK n;rw[h] at H;clear h
 go_enter func245,ntmps245
 go_wp2_with fail
 refine(H.out _).mono ?_;rintro e w1 ⟨rfl,rfl⟩
 go_wp2
 go_ret2
 exact⟨rfl,rfl⟩
theorem zHQ(n:Int)(h:zAD n=false):PNum (.iface 135 (.int .i64 n)) 0 0 11:=⟨_,245,_,rfl,zCg n,fun w=>by simp[go_sem],fun w=>(zVA n h w).mono fun _ _ h=>⟨h.1,h.2▸G.refl _⟩⟩
theorem zPo(n:Int)(h1:-33554432≤n)(h2:n≤33554432):PNum (.iface 135 (.int .i64 n)) (fl n) 0 0:=⟨_,245,_,rfl,zCg n,fun w=>by simp[go_sem],fun w=>(zGI n h1 h2 w).mono fun _ _ h=>⟨h.1,h.2▸G.refl _⟩⟩
theorem zVH(x y:Nat):PNum (.iface 136 (.complex .f64 x y)) x y 0:=⟨_,253,_,rfl,zGM x y,fun w=>by simp[go_sem],fun w=>(zMx x y w).mono fun _ _ h=>⟨h.1,h.2▸G.refl _⟩⟩
theorem zXh(k a b:Int)(s:ByteArray)(h:okV k a b s=false)(w:World)(hT:Tabs w):CG 61 #[V k a b s] w (.tuple #[.complex .f64 0 0,.int .i64 16]):=by
 have HI:Hid (∀w,Tabs w→CG 25 #[V k a b s] w (.tuple #[zAb k a b s,.bool (okV k a b s)])):=zAi k a b s;rw[h] at HI;generalize zAb k a b s=x at HI;clear h
 go_enter func61,ntmps61
 go_wp2_with fail
 refine(HI.out _ (by exact hT.G ((G.refl w).alloc _))).mono ?_;rintro e w1 ⟨rfl,hb1⟩
 go_wp2
 go_ret2
 exact⟨rfl,((G.refl w).alloc _).trans hb1⟩
theorem zID(k a b:Int)(s:ByteArray)(h:okV k a b s=true)(p q:Nat)(c:Int)(hn:PNum (zAb k a b s) p q c)(w:World)(hT:Tabs w):CG 61 #[V k a b s] w (.tuple #[.complex .f64 p q,.int .i64 c]):=by
 have HI:Hid (∀w,Tabs w→CG 25 #[V k a b s] w (.tuple #[zAb k a b s,.bool (okV k a b s)])):=zAi k a b s;rw[h] at HI;generalize zAb k a b s=x at HI hn;clear h;obtain⟨t,f,v,rfl,hm,hf,g1⟩:=hn;have H1:Hid _:=g1;clear g1
 go_enter func61,ntmps61
 go_wp2_with fail
 refine(HI.out _ (by exact hT.G ((G.refl w).alloc _))).mono ?_;rintro e w1 ⟨rfl,hb1⟩
 go_wp2_with fail
 refine(H1.out _).mono ?_;rintro e w2 ⟨rfl,hb2⟩
 go_wp2
 go_ret2
 exact⟨rfl,(((G.refl w).alloc _).trans hb1).trans hb2⟩
theorem zXo(k a b:Int)(s:ByteArray)(hs:s.size≤4611686018427387904)(h:okV k a b s=false)(w:World):CG 62 #[V k a b s] w (.tuple #[.int .i64 0,.int .i64 0,.int .i64 16]):=by
 have HV:Hid (∀w,CG 26 #[V k a b s] w (.bool (okV k a b s))):=zAm k a b s hs;rw[h] at HV;clear h hs
 go_enter func62,ntmps62
 go_wp2_with fail
 refine(HV.out _).mono ?_;rintro e w1 ⟨rfl,hb1⟩;obtain⟨hc1,hf1⟩:=hb1.rules
 go_wp2
 exact bodyPost_ret (v:=.tuple #[.int .i64 0,.int .i64 0,.int .i64 16]) (by simp[results,results62,go_sem]) rfl ⟨rfl,by repeat(first|exact G.refl _|assumption|refine G.alloc ?_ _|refine G.drew ?_|refine G.setCell ?_ (by simp) _|refine G.trans ?_ (by assumption))⟩
theorem zR9(k a b:Int)(s:ByteArray)(hs:s.size≤4611686018427387904)(h:okV k a b s=true)(h2n:(k != 2)=true)(h3n:(k != 3)=true)(w:World):CG 62 #[V k a b s] w (.tuple #[.int .i64 0,.int .i64 0,.int .i64 10]):=by
 have HV:Hid (∀w,CG 26 #[V k a b s] w (.bool (okV k a b s))):=zAm k a b s hs;rw[h] at HV;clear h hs
 go_enter func62,ntmps62
 go_wp2_with fail
 refine(HV.out _).mono ?_;rintro e w1 ⟨rfl,hb1⟩;obtain⟨hc1,hf1⟩:=hb1.rules
 go_wp2
 exact bodyPost_ret (v:=.tuple #[.int .i64 0,.int .i64 0,.int .i64 10]) (by simp[results,results62,go_sem]) rfl ⟨rfl,by repeat(first|exact G.refl _|assumption|refine G.alloc ?_ _|refine G.drew ?_|refine G.setCell ?_ (by simp) _|refine G.trans ?_ (by assumption))⟩
theorem zXn(a b:Int)(s:ByteArray)(hs:s.size≤4611686018427387904)(h:okV 2 a b s=true)(hp:zAD a=false)(w:World):CG 62 #[V 2 a b s] w (.tuple #[.int .i64 0,.int .i64 0,.int .i64 11]):=by
 have HV:Hid (∀w,CG 26 #[V 2 a b s] w (.bool (okV 2 a b s))):=zAm 2 a b s hs;rw[h] at HV;have HP:Hid _:=zBW a;rw[hp] at HP;clear hp;clear h hs
 go_enter func62,ntmps62
 go_wp2_with fail
 refine(HV.out _).mono ?_;rintro e w1 ⟨rfl,hb1⟩;obtain⟨hc1,hf1⟩:=hb1.rules
 go_wp2_with fail
 refine(HP.out _).mono ?_;rintro e w2 ⟨rfl,rfl⟩
 go_wp2
 exact bodyPost_ret (v:=.tuple #[.int .i64 0,.int .i64 0,.int .i64 11]) (by simp[results,results62,go_sem]) rfl ⟨rfl,by repeat(first|exact G.refl _|assumption|refine G.alloc ?_ _|refine G.drew ?_|refine G.setCell ?_ (by simp) _|refine G.trans ?_ (by assumption))⟩
theorem zU2(a b:Int)(s:ByteArray)(hs:s.size≤4611686018427387904)(h:okV 2 a b s=true)(hp:zAD a=true)(w:World):CG 62 #[V 2 a b s] w (.tuple #[.int .i64 a,.int .i64 b,.int .i64 0]):=by
 have HV:Hid (∀w,CG 26 #[V 2 a b s] w (.bool (okV 2 a b s))):=zAm 2 a b s hs;rw[h] at HV;have HP:Hid _:=zBW a;rw[hp] at HP;clear hp;clear h hs
 go_enter func62,ntmps62
 go_wp2_with fail
 refine(HV.out _).mono ?_;rintro e w1 ⟨rfl,hb1⟩;obtain⟨hc1,hf1⟩:=hb1.rules
 go_wp2_with fail
 refine(HP.out _).mono ?_;rintro e w2 ⟨rfl,rfl⟩
 go_wp2
 have hG:G w w2:=((G.refl w).alloc _).trans hb1;have hc:∀o,w2.cell? {block:=w.heap.size,off:=o}=[I 2,I a,I b,.string s][o]?:=G.cells hb1 (by simp) (by simp)
 have hz:w.heap.size<w2.heap.size:=by have:=hb1.size;simp at this;omega
 clear hb1 hc1 hf1
 go_region_held3 (fun W=>(∀(o:Nat),W.cell? {block:=w.heap.size,off:=o}=[I 2,I a,I b,.string s][o]?)∧G w W∧w.heap.size<W.heap.size) ((first|exact zAq ‹_› ‹_› ‹_›)) (fail)
 rename_i hH
 obtain⟨-,hG2,-⟩:=hH
 go_wp2
 exact bodyPost_ret (v:=.tuple #[.int .i64 a,.int .i64 b,.int .i64 0]) (by simp[results,results62,go_sem]) rfl ⟨rfl,by repeat(first|exact G.refl _|assumption|refine G.alloc ?_ _|refine G.drew ?_|refine G.setCell ?_ (by simp) _|refine G.trans ?_ (by assumption))⟩
theorem zU1(a b:Int)(s:ByteArray)(hs:s.size≤4611686018427387904)(h:okV 3 a b s=true)(hp:zAD a=true)(w:World):CG 62 #[V 3 a b s] w (.tuple #[.int .i64 a,.int .i64 b,.int .i64 0]):=by
 have HV:Hid (∀w,CG 26 #[V 3 a b s] w (.bool (okV 3 a b s))):=zAm 3 a b s hs;rw[h] at HV;have HP:Hid _:=zBW a;rw[hp] at HP;clear hp;clear h hs
 go_enter func62,ntmps62
 go_wp2_with fail
 refine(HV.out _).mono ?_;rintro e w1 ⟨rfl,hb1⟩;obtain⟨hc1,hf1⟩:=hb1.rules
 go_wp2_with fail
 refine(HP.out _).mono ?_;rintro e w2 ⟨rfl,rfl⟩
 go_wp2
 have hG:G w w2:=((G.refl w).alloc _).trans hb1;have hc:∀o,w2.cell? {block:=w.heap.size,off:=o}=[I 3,I a,I b,.string s][o]?:=G.cells hb1 (by simp) (by simp)
 have hz:w.heap.size<w2.heap.size:=by have:=hb1.size;simp at this;omega
 clear hb1 hc1 hf1
 go_region_held3 (fun W=>(∀(o:Nat),W.cell? {block:=w.heap.size,off:=o}=[I 3,I a,I b,.string s][o]?)∧G w W∧w.heap.size<W.heap.size) ((first|exact zAq ‹_› ‹_› ‹_›)) (fail)
 rename_i hH
 obtain⟨-,hG2,-⟩:=hH
 go_wp2
 exact bodyPost_ret (v:=.tuple #[.int .i64 a,.int .i64 b,.int .i64 0]) (by simp[results,results62,go_sem]) rfl ⟨rfl,by repeat(first|exact G.refl _|assumption|refine G.alloc ?_ _|refine G.drew ?_|refine G.setCell ?_ (by simp) _|refine G.trans ?_ (by assumption))⟩
theorem zI5(n:Int)(h:n.natAbs<2^53):(ordD (fl n) (fl n)==some .eq)=true:=by
 have:=(Fl.ofInt n h).order (Fl.ofInt n h);show(Ieee.double.order (fl n) (fl n)==some .eq)=true;rw[this];simp[compare,compareOfLessAndEq]
theorem fl_0:fl 0=0:=by decide +kernel
theorem zRR(k a b:Int)(s:ByteArray)(hs:s.size≤4611686018427387904):∃(p q:Nat) (c n m:Int),(ordD p (fl n)==some .eq)=true∧(ordD q (fl m)==some .eq)=true∧
  (∀w,Tabs w→CG 61 #[V k a b s] w (.tuple #[.complex .f64 p q,.int .i64 c]))∧
  (∀w,CG 62 #[V k a b s] w (.tuple #[.int .i64 n,.int .i64 m,.int .i64 c])):=by
 have z:(ordD 0 (fl 0)==some .eq)=true:=by have:=zI5 0 (by decide);rw[fl_0] at this ⊢;exact this
 cases h:okV k a b s
 ·exact⟨0,0,16,0,0,z,z,zXh k a b s h,zXo k a b s hs h⟩
 by_cases h2:k=2
 ·subst h2
  have hb:b=0:=by simp[okV,Bool.and_eq_true] at h;exact h.1
  have hi:zAb 2 a b s=.iface 135 (.int .i64 a):=by simp[zAb,h]
  cases hp:zAD a
  ·exact⟨0,0,11,0,0,z,z,zID 2 a b s h 0 0 11 (hi▸zHQ a hp),zXn a b s hs h hp⟩
  ·have pa:=(zAy a).1 hp
   refine⟨fl a,0,0,a,b,zI5 a (by omega),by rw[hb];exact z,zID 2 a b s h (fl a) 0 0 (hi▸zPo a pa.1 pa.2),zU2 a b s hs h hp⟩
 by_cases h3:k=3
 ·subst h3
  have hpp:zAD a=true∧zAD b=true:=by simp[okV,Bool.and_eq_true] at h;exact h.1
  have hi:zAb 3 a b s=.iface 136 (.complex .f64 (fl a) (fl b)):=by simp[zAb,h]
  have pa:=(zAy a).1 hpp.1;have pb:=(zAy b).1 hpp.2;exact⟨fl a,fl b,0,a,b,zI5 a (by omega),zI5 b (by omega),zID 3 a b s h (fl a) (fl b) 0 (hi▸zVH _ _),zU1 a b s hs h hpp.1⟩
 have hn:PNum (zAb k a b s) 0 0 10:=by
  have hk:=zAp k a b s h
  have:k=0∨k=1∨k=4∨k=5∨k=6:=by omega
  rcases this with rfl|rfl|rfl|rfl|rfl
  ·rw[show zAb 0 a b s=.iface 110 (.agg #[]) by simp[zAb,h]];exact zSY
  ·rw[show zAb 1 a b s=.iface 111 (.bool (a==1)) by simp[zAb,h]];exact zPp _
  ·rw[show zAb 4 a b s=.iface 137 (.string s) by simp[zAb,h]];exact zVG _
  ·rw[show zAb 5 a b s=.iface 138 (.int .i64 a) by simp[zAb,h]];exact zSZ _
  ·rw[show zAb 6 a b s=.iface 139 (.int .i64 a) by simp[zAb,h]];exact zS0 _
 exact⟨0,0,10,0,0,z,z,zID k a b s h 0 0 10 hn,zR9 k a b s hs h (bne_iff_ne.2 h2) (bne_iff_ne.2 h3)⟩
end
section
open Go.RowKit Go.PlainAid Go.Lib Go.Shelf
theorem zV2(op k a b:Int)(s:ByteArray)(k' a' b':Int)(s':ByteArray)(vs:Value)(st tt:ByteArray)(bb:Value)(n x y o1 o2:Int)(hs:s.size≤4611686018427387904)(w:World)(hT:Tabs w):CG 23 #[.agg #[I 10,I op,I k,I a,I b,.string s,I k',I a',I b',.string s',vs,.string st,.string tt,bb,I n,I x,I y,I o1,I o2]] w (.bool true):=by
 obtain⟨p,q,c,i,j,e1,e2,h1,h2⟩:=zRR k a b s hs;have H1:Hid _:=h1;have H2:Hid _:=h2;clear h1 h2 hs
 go_enter func23,ntmps23
 go_wp2_with fail
 refine(H1.out _ (hT.G ((G.refl w).alloc _))).mono ?_;rintro e w1 ⟨rfl,hb1⟩;obtain⟨hc1,hf1⟩:=hb1.rules
 go_wp2_with fail
 refine(H2.out _).mono ?_;rintro e w2 ⟨rfl,hb2⟩
 go_wp2
 go_ret;exact⟨by simp,by repeat(first|exact G.refl _|assumption|refine G.alloc ?_ _|refine G.drew ?_|refine G.setCell ?_ (by simp) _|refine G.trans ?_ (by assumption))⟩
theorem zPM(kind:Int)(hk:(kind==10)=false)(op k a b:Int)(s:ByteArray)(k' a' b':Int)(s':ByteArray)(vs:Value)(st tt:ByteArray)(bb:Value)(n x y o1 o2:Int)(w:World):CG 23 #[.agg #[I kind,I op,I k,I a,I b,.string s,I k',I a',I b',.string s',vs,.string st,.string tt,bb,I n,I x,I y,I o1,I o2]] w (.bool true):=by
 have F1:Hid (∀w,Calls prog 63 #[.int .i64 x,.int .i64 o1] w fun e w'=>∃b,e=.returned (.float .f64 b)∧b<2^64∧G w w'):=fun w=>zGS x o1 w;have F2:Hid (∀w,Calls prog 63 #[.int .i64 y,.int .i64 o2] w fun e w'=>∃b,e=.returned (.float .f64 b)∧b<2^64∧G w w'):=fun w=>zGS y o2 w;have hv:=eqV
 go_enter func23,ntmps23
 go_wp2_with fail
 refine(F1.out _).mono ?_;rintro e w1 ⟨X,rfl,hX,hb1⟩;obtain⟨hc1,hf1⟩:=hb1.rules;have hz1:=hb1.size;simp at hz1
 go_wp2_with fail
 refine(F2.out _).mono ?_;rintro e w2 ⟨Y,rfl,hY,hb2⟩;obtain⟨k1,a1,b1,c1,h1,h2⟩:=zTS X Y hX hY;have H1:Hid _:=h1;have H2:Hid _:=h2;clear h1 h2 hX hY
 go_wp2_with fail
 refine(H1.out _).mono ?_;rintro e w3 ⟨rfl,hb3⟩
 go_wp2_with fail
 refine(H2.out _).mono ?_;rintro e w4 ⟨rfl,hb4⟩;have hc4:∀o,w4.cell? {block:=w3.heap.size,off:=o}=[I k1,I a1,I b1,.string E0][o]?:=G.cells hb4 (by simp) (by simp)
 have hz4:w3.heap.size<w4.heap.size:=by have:=hb4.size;simp at this;omega
 go_wp2
 go_ret;exact⟨by simp,by repeat(first|exact G.refl _|assumption|refine G.alloc ?_ _|refine G.drew ?_|refine G.setCell ?_ (by simp) _|refine G.trans ?_ (by assumption))⟩
theorem zS2(e:Ent)(kk:e.kind=10∨e.kind=11)(hs:e.s.size≤4611686018427387904)(w:World)(hT:Tabs w):CG 7 #[e.V] w (.bool true):=by
 obtain⟨kind,op,k,a,b,s,k',a',b',s',vs,st,tt,bb,n,x,y,o1,o2⟩:=e;simp only at kk hs
 rcases kk with rfl|rfl
 ·have HF:Hid (∀w,Tabs w→CG 23 #[.agg #[I 10,I op,I k,I a,I b,.string s,I k',I a',I b',.string s',vs,.string st,.string tt,bb,I n,I x,I y,I o1,I o2]] w (.bool true)):=zV2 op k a b s k' a' b' s' vs st tt bb n x y o1 o2 hs
  clear hs
  have hr:(w.alloc (.cells #[I 10,I op,I k,I a,I b,.string s,I k',I a',I b',.string s',vs,.string st,.string tt,bb,I n,I x,I y,I o1,I o2] 35)).rangeAt w.heap.size 0 [I 10,I op,I k,I a,I b,.string s,I k',I a',I b',.string s',vs,.string st,.string tt,bb,I n,I x,I y,I o1,I o2]:=fun j v hv=>by rw[Nat.zero_add];simpa using hv
  go_enter func7,ntmps7
  go_wp2_with (first|(refine wpList_load_mid rfl 35 _ rfl w.heap.size 0 rfl [I 10,I op,I k,I a,I b,.string s,I k',I a',I b',.string s',vs,.string st,.string tt,bb,I n,I x,I y,I o1,I o2] _ hr underlying35 rfl (by kernel_rfl) ?_)|(go_at_call 23;refine(HF.out _ (hT.G ((G.refl w).alloc _))).mono ?_;rintro e w1 ⟨rfl,hb1⟩))
  go_wp2
  go_ret;exact⟨rfl,((G.refl w).alloc _).trans hb1⟩
 ·have HF:Hid (∀w,Tabs w→CG 23 #[.agg #[I 11,I op,I k,I a,I b,.string s,I k',I a',I b',.string s',vs,.string st,.string tt,bb,I n,I x,I y,I o1,I o2]] w (.bool true)):=fun w (_:Tabs w)=>zPM 11 rfl op k a b s k' a' b' s' vs st tt bb n x y o1 o2 w
  clear hs
  have hr:(w.alloc (.cells #[I 11,I op,I k,I a,I b,.string s,I k',I a',I b',.string s',vs,.string st,.string tt,bb,I n,I x,I y,I o1,I o2] 35)).rangeAt w.heap.size 0 [I 11,I op,I k,I a,I b,.string s,I k',I a',I b',.string s',vs,.string st,.string tt,bb,I n,I x,I y,I o1,I o2]:=fun j v hv=>by rw[Nat.zero_add];simpa using hv
  go_enter func7,ntmps7
  go_wp2_with (first|(refine wpList_load_mid rfl 35 _ rfl w.heap.size 0 rfl [I 11,I op,I k,I a,I b,.string s,I k',I a',I b',.string s',vs,.string st,.string tt,bb,I n,I x,I y,I o1,I o2] _ hr underlying35 rfl (by kernel_rfl) ?_)|(go_at_call 23;refine(HF.out _ (hT.G ((G.refl w).alloc _))).mono ?_;rintro e w1 ⟨rfl,hb1⟩))
  go_wp2
  go_ret;exact⟨rfl,((G.refl w).alloc _).trans hb1⟩
theorem zHS(W:World)(hT:Tabs W)(e:Ent)(h:zDn W e)(h1:10≤e.kind)(h2:e.kind≤11)(w':World)(g:G W w'):Calls prog 7 #[e.V] w' fun r w''=>r=.returned (.bool true)∧G w' w'':=
 zS2 e (by omega) (by have:=h.s;unfold reachBytes at this;omega) w' (hT.G g)
end
section
open Go.RowKit Go.Shelf Go.PlainAid Go.Lib
def chN(x:Int):Int:=if x≤57 then x-47 else x-86
theorem zFy(x:Int)(h:chP x):1≤chN x∧chN x≤36:=by
 unfold chP at h;unfold chN;split<;>omega
def zAo(s:ByteArray):Nat→Int
 | 0=>0
 | k+1=>zAo s k*37+(if k<s.size then chN (bt s k)else 0)
theorem zBf(s:ByteArray)(h:zAZ s)(k:Nat):0≤zAo s k∧zAo s k<((37^k:Nat):Int):=by
 induction k with
 | zero=>simp[zAo]
 | succ k ih=>
  have hc:0≤(if k<s.size then chN (bt s k)else 0)∧(if k<s.size then chN (bt s k)else 0)≤36:=by
   split
   ·have:=zFy _ (h.2.2.2 k (by assumption));omega
   ·omega
  simp only[zAo,Nat.pow_succ];generalize (if k<s.size then chN (bt s k)else 0)=c at hc;generalize zAo s k=p at ih;generalize (37^k:Nat)=q at ih;omega
theorem zFW(s:ByteArray)(h:zAZ s)(k:Nat)(hk:k≤8):0≤zAo s k∧zAo s k<3512479453921:=by
 have h1:=zBf s h k;have h2:37^k≤37^8:=Nat.pow_le_pow_right (by decide) hk
 have h3:(37:Nat)^8=3512479453921:=by decide
 omega
theorem zTG(c:Int)(h1:48≤c)(h2:c≤57)(w:World):Calls prog 77 #[.int .u8 c] w fun e w'=>e=.returned (.bool true)∧w'=w:=by
 go_enter func77,ntmps77
 go_wp2
 go_ret;exact⟨rfl,rfl⟩
theorem zV9(c:Int)(h1:97≤c)(w:World):Calls prog 77 #[.int .u8 c] w fun e w'=>e=.returned (.bool false)∧w'=w:=by
 have h2:48≤c:=by omega
 have h3:¬c≤57:=by omega
 go_enter func77,ntmps77
 go_wp2
 go_ret;exact⟨rfl,rfl⟩
theorem zWP(c:Int)(h:chP c)(w:World):Calls prog 147 #[.int .u8 c] w fun e w'=>e=.returned (.int .i64 (chN c))∧w'=w:=by
 rcases h with ⟨h1,h2⟩|⟨h1,h2⟩
 ·have e:chN c=c-86:=by unfold chN;rw[if_neg (by omega)]
  rw[e];have H:Hid _:=zV9 c h1
  go_enter func147,ntmps147
  go_wp2_with fail
  refine(H.out _).mono ?_;rintro e w1 ⟨rfl,rfl⟩
  go_wp2
  go_ret;exact⟨congrArg (fun z=>Ending.returned (Value.int .i64 z)) (by omega),rfl⟩
 ·have e:chN c=c-47:=by unfold chN;rw[if_pos (by omega)]
  rw[e];have H:Hid _:=zTG c h1 h2
  go_enter func147,ntmps147
  go_wp2_with fail
  refine(H.out _).mono ?_;rintro e w1 ⟨rfl,rfl⟩
  go_wp2
  go_ret;exact⟨congrArg (fun z=>Ending.returned (Value.int .i64 z)) (by omega),rfl⟩
theorem zSr(c:Int)(h:chP c)(w:World):Calls prog 108 #[.int .u8 c] w fun e w'=>e=.returned (.int .i64 (chN c))∧w'=w:=by
 rcases h with ⟨h1,h2⟩|⟨h1,h2⟩
 ·have e:chN c=c-86:=by unfold chN;rw[if_neg (by omega)]
  rw[e]
  go_enter func108,ntmps108
  go_wp2
  go_ret;exact⟨congrArg (fun z=>Ending.returned (Value.int .i64 z)) (by omega),rfl⟩
 ·have e:chN c=c-47:=by unfold chN;rw[if_pos (by omega)]
  have hn:¬97≤c:=by omega
  rw[e]
  go_enter func108,ntmps108
  go_wp2
  go_ret;exact⟨congrArg (fun z=>Ending.returned (Value.int .i64 z)) (by omega),rfl⟩
theorem zI2(s:ByteArray)(h:zAZ s)(w:World):Calls prog 107 #[.string s] w fun e w'=>e=.returned (.int .i64 (zAo s 8))∧w'=w:=by
 have hb:=get_bt s;have HP:Hid _:=h;have hs:s.size≤8:=h.2.1;clear h
 go_enter func107,ntmps107
 go_wp2
 go_loopw [3,4,5] (fun m _ i W=>∃k:Nat,k≤8∧i=.int .i64 k∧m=.int .i64 (zAo s k)∧W=w) (fun _ _ i _=>8-(RowKit.intOf i).toNat)
 case atStart=>exact⟨0,by omega,rfl,rfl,rfl⟩
 case round=>
  obtain⟨k,hk,rfl,rfl,rfl⟩:=hrel
  by_cases hlt:k<8
  ·have hki:(k:Int)<8:=by omega
   have h64:=zFW s HP.out k (by omega);have e1:zAo s (k+1)=zAo s k*37+(if k<s.size then chN (bt s k)else 0):=rfl;have E1:Hid _:=e1;clear e1;generalize zAo s k=M at h64 E1;have x0:=bt_nonneg s k;have x1:=bt_le s k
   by_cases hks:k<s.size
   ·have hksi:(k:Int)<(s.size:Int):=by omega
    have hch:=HP.out.2.2.2 k hks;have hcb:=zFy _ hch;have HC:Hid _:=zWP (bt s k) hch;have hE:=E1.out;rw[if_pos hks] at hE;generalize chN (bt s k)=c at hcb HC hE;have HE:Hid _:=hE;clear hE E1 hch
    go_wp2_with fail
    refine(HC.out _).mono ?_;rintro e w1 ⟨rfl,rfl⟩
    go_wp2
    go_roundw
    case rel=>exact⟨k+1,by omega,by go_num,by rw[HE.out],trivial⟩
    case measure=>simp[RowKit.intOf];omega
   ·have hksi:¬(k:Int)<(s.size:Int):=by omega
    have hE:=E1.out;rw[if_neg hks,Int.add_zero] at hE;have HE:Hid _:=hE;clear hE E1
    go_wp2
    go_roundw
    case rel=>exact⟨k+1,by omega,by go_num,by rw[HE.out],trivial⟩
    case measure=>simp[RowKit.intOf];omega
  ·have e:k=8:=by omega
   subst e
   go_wp2
   go_ret;exact⟨rfl,rfl⟩
end
section
open Go.RowKit Go.Shelf Go.PlainAid Go.Lib
theorem zW4(s:ByteArray)(h:zAZ s)(w:World):Calls prog 66 #[.string s] w fun e w'=>e=.returned (.tuple #[.int .i64 (zAo s 8),.int .i64 0])∧w'=w:=by
 have HN:Hid _:=zAE s;rw[(zBh s).2 h] at HN;have HP:Hid _:=zI2 s h;clear h
 go_enter func66,ntmps66
 go_wp2_with fail
 refine(HN.out _).mono ?_;rintro e w1 ⟨rfl,rfl⟩
 go_wp2_with fail
 refine(HP.out _).mono ?_;rintro e w1 ⟨rfl,rfl⟩
 go_wp2
 go_ret2
 exact⟨rfl,rfl⟩
theorem zYI(s:ByteArray)(h:zAY s=false)(w:World):Calls prog 66 #[.string s] w fun e w'=>e=.returned (.tuple #[.int .i64 0,.int .i64 73])∧w'=w:=by
 have HN:Hid _:=zAE s;rw[h] at HN;clear h
 go_enter func66,ntmps66
 go_wp2_with fail
 refine(HN.out _).mono ?_;rintro e w1 ⟨rfl,rfl⟩
 go_wp2
 go_ret2
 exact⟨rfl,rfl⟩
theorem zFo(s:ByteArray)(h:zAY s=false)(w:World):Calls prog 67 #[.string s] w fun e w'=>e=.returned (.tuple #[.int .i64 0,.int .i64 73])∧w'=w:=by
 have HN:Hid _:=zHx s;rw[h] at HN;clear h
 go_enter func67,ntmps67
 go_wp2_with fail
 refine(HN.out _).mono ?_;rintro e w1 ⟨rfl,rfl⟩
 go_wp2
 go_ret2
 exact⟨rfl,rfl⟩
theorem zBe(s:ByteArray)(h:zAZ s)(w:World):Calls prog 67 #[.string s] w fun e w'=>e=.returned (.tuple #[.int .i64 (zAo s 8),.int .i64 0])∧w'=w:=by
 have HN:Hid _:=zHx s;rw[(zBh s).2 h] at HN;have hb:=get_bt s;have HP:Hid _:=h;have hs:s.size≤8:=h.2.1;clear h
 go_enter func67,ntmps67
 go_wp2_with fail
 refine(HN.out _).mono ?_;rintro e w1 ⟨rfl,hw⟩;rw[hw];clear hw
 go_wp2
 go_loopw [4,5] (fun m i W=>∃k:Nat,k≤8∧i=.int .i64 k∧m=.int .i64 (zAo s k)∧W=w) (fun _ i _=>8-(RowKit.intOf i).toNat)
 case atStart=>exact⟨0,by omega,rfl,rfl,rfl⟩
 case round=>
  obtain⟨k,hk,rfl,rfl,rfl⟩:=hrel
  by_cases hlt:k<8
  ·have hki:(k:Int)<8:=by omega
   have h64:=zFW s HP.out k (by omega);have e1:zAo s (k+1)=zAo s k*37+(if k<s.size then chN (bt s k)else 0):=rfl;have E1:Hid _:=e1;clear e1;generalize zAo s k=M at h64 E1;have x0:=bt_nonneg s k;have x1:=bt_le s k
   by_cases hks:k<s.size
   ·have hksi:(k:Int)<(s.size:Int):=by omega
    have hch:=HP.out.2.2.2 k hks;have hcb:=zFy _ hch;have HC:Hid _:=zSr (bt s k) hch;have hE:=E1.out;rw[if_pos hks] at hE;generalize chN (bt s k)=c at hcb HC hE;have HE:Hid _:=hE;clear hE E1 hch
    go_wp2_with fail
    refine(HC.out _).mono ?_;rintro e w1 ⟨rfl,rfl⟩
    go_wp2
    go_roundw
    case rel=>exact⟨k+1,by omega,by go_num,by rw[HE.out],trivial⟩
    case measure=>simp[RowKit.intOf];omega
   ·have hksi:¬(k:Int)<(s.size:Int):=by omega
    have hE:=E1.out;rw[if_neg hks,Int.add_zero] at hE;have HE:Hid _:=hE;clear hE E1
    go_wp2
    go_roundw
    case rel=>exact⟨k+1,by omega,by go_num,by rw[HE.out],trivial⟩
    case measure=>simp[RowKit.intOf];omega
  ·have e:k=8:=by omega
   subst e
   go_wp2
   go_ret2
   exact⟨rfl,rfl⟩
theorem zMt(s:ByteArray)(h:zAZ s):∀k j,j<k→k≤8→zAo s k/37^j%37=(if k-1-j<s.size then chN (bt s (k-1-j))else 0):=by
 intro k
 induction k with
 | zero=>intro j hj;omega
 | succ k ih=>
  intro j hj hk
  have hc:0≤(if k<s.size then chN (bt s k)else 0)∧(if k<s.size then chN (bt s k)else 0)≤36:=by
   split
   ·have:=zFy _ (h.2.2.2 k (by assumption));omega
   ·omega
  have hp:=(zBf s h k).1;show(zAo s k*37+(if k<s.size then chN (bt s k)else 0))/37^j%37=_
  cases j with
  | zero=>
   rw[show k+1-1-0=k by omega];generalize (if k<s.size then chN (bt s k)else 0)=c at hc;generalize zAo s k=p at hp;simp;omega
  | succ j=>
   have e:=ih j (by omega) (by omega);rw[show k+1-1-(j+1)=k-1-j by omega,←e,Int.pow_succ,Int.mul_comm (37^j) 37,←Int.ediv_ediv_of_nonneg (by decide)]
   congr 2
   generalize (if k<s.size then chN (bt s k)else 0)=c at hc;generalize zAo s k=p at hp;omega
end
end Go.Proofs.YthmdjhfbhbheeaaGreatDoor
