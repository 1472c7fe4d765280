import Derived.Test.YthmdjhfbhbheeaaGreatDoorRefCmp2
namespace Go.Proofs.YthmdjhfbhbheeaaGreatDoor
open Go.Proofs.Tryz
set_option maxHeartbeats 1000000
set_option maxRecDepth 100000
section
open Go.RowKit Go.Lib Go.PlainAid Go.Shelf
theorem zTH(k a b:Int)(s:ByteArray)(hok:okV k a b s=true)(w:World)(hT:Tabs w):CG 49 #[V k a b s] w (zAb k a b s):=by
 have HI:Hid (∀w,Tabs w→CG 25 #[V k a b s] w (.tuple #[zAb k a b s,.bool true])):=by
  have:=zAi k a b s;unfold zAv at this;rw[hok] at this;exact this
 clear hok;generalize zAb k a b s=x at HI
 go_enter func49,ntmps49
 go_wp2_with fail
 refine(HI.out _ (hT.G ((G.refl w).alloc _))).mono ?_;rintro e w1 ⟨rfl,hb1⟩
 go_wp2
 go_ret;exact⟨rfl,((G.refl w).alloc _).trans hb1⟩
theorem zWa(k a b:Int)(s:ByteArray)(hok:okV k a b s=false)(w:World)(hT:Tabs w):CG 49 #[V k a b s] w (.iface 110 (.agg #[])):=by
 have HI:Hid (∀w,Tabs w→CG 25 #[V k a b s] w (.tuple #[zAb k a b s,.bool false])):=by
  have:=zAi k a b s;unfold zAv at this;rw[hok] at this;exact this
 clear hok;generalize zAb k a b s=x at HI
 go_enter func49,ntmps49
 go_wp2_with fail
 refine(HI.out _ (hT.G ((G.refl w).alloc _))).mono ?_;rintro e w1 ⟨rfl,hb1⟩
 go_wp2
 go_ret;exact⟨rfl,((G.refl w).alloc _).trans hb1⟩
noncomputable def ionV(k a b:Int)(s:ByteArray):Value:=if okV k a b s then zAb k a b s else .iface 110 (.agg #[])
theorem zTI(k a b:Int)(s:ByteArray)(w:World)(hT:Tabs w):CG 49 #[V k a b s] w (ionV k a b s):=by
 unfold ionV;cases hok:okV k a b s
 ·exact zWa k a b s hok w hT
 ·exact zTH k a b s hok w hT
structure Nz(k a b:Int)(s:ByteArray)(n:Nat)(a1 b1:Int)(s1:ByteArray):Prop where
 lt:n<7
 ok:okV n a1 b1 s1=true
 st:(okV k a b s=true∧k=n∧a=a1∧b=b1∧s=s1)∨(okV k a b s=false∧n=0∧a1=0∧b1=0∧s1=E0)
theorem zAn:okV 0 0 0 E0=true:=by
 have h:E0.toList=[]:=by rw[ByteArray.toList_eq]
 simp[okV,h]
theorem zVM(k a b:Int)(s:ByteArray):∃(n:Nat) (a1 b1:Int) (s1:ByteArray),Nz k a b s n a1 b1 s1:=by
 cases hok:okV k a b s
 ·exact⟨0,0,0,E0,by decide,zAn,.inr ⟨hok,rfl,rfl,rfl,rfl⟩⟩
 ·have hk:=zAp k a b s hok
  obtain⟨n,rfl⟩:∃n:Nat,k=n:=⟨k.toNat,by omega⟩;exact⟨n,a,b,s,by omega,hok,.inl ⟨hok,rfl,rfl,rfl,rfl⟩⟩
theorem zRj{k a b:Int}{s:ByteArray}{n:Nat}{a1 b1:Int}{s1:ByteArray}(h:Nz k a b s n a1 b1 s1):IVal (ionV k a b s) n a1 b1 s1:=by
 unfold ionV
 rcases h.st with ⟨hok,rfl,rfl,rfl,rfl⟩|⟨hok,rfl,rfl,rfl,rfl⟩
 ·rw[hok];exact zAA _ _ _ _ hok
 ·rw[hok];exact zNk
def cmpP(n n':Nat)(a b a' b':Int)(s s':ByteArray):Int:=or5 (cI (rkP n) (rkP n')) (cI a a') (cI n n') (cI b b') (compareBytes s.data.toList s'.data.toList)
theorem zIn(k a b k' a' b':Int)(s s':ByteArray)(n n':Nat)(a1 b1 a1' b1':Int)(s1 s1':ByteArray)(h:Nz k a b s n a1 b1 s1)(h':Nz k' a' b' s' n' a1' b1' s1')(w:World)(hT:Tabs w)(hR:Rks w) :
  CG 18 #[V k a b s,V k' a' b' s'] w (.int .i64 (cmpP n n' a1 b1 a1' b1' s1 s1')):=by
 have H1:Hid (∀k a b s W,G w W→CG 49 #[V k a b s] W (ionV k a b s)):=fun k a b s W g=>zTI k a b s W (hT.G g);have H3:Hid (∀W,G w W→CG 48 #[ionV k a b s,ionV k' a' b' s'] W (.int .i64 (cmpP n n' a1 b1 a1' b1' s1 s1'))):=fun W g=>zAG _ _ n n' a1 b1 a1' b1' s1 s1' (zRj h) (zRj h') h.lt h'.lt W (hR.G g);generalize cmpP n n' a1 b1 a1' b1' s1 s1'=r at H3;clear h h' hT hR
 have hc0:∀o,((w.alloc (.cells #[I k,I a,I b,.string s] 31)).alloc (.cells #[I k',I a',I b',.string s'] 31)).cell? {block:=w.heap.size,off:=o}=[I k,I a,I b,Value.string s][o]?:=fun o=>by simp
 have hc1:∀o,((w.alloc (.cells #[I k,I a,I b,.string s] 31)).alloc (.cells #[I k',I a',I b',.string s'] 31)).cell? {block:=w.heap.size+1,off:=o}=[I k',I a',I b',Value.string s'][o]?:=fun o=>by simp
 have hg0:G w ((w.alloc (.cells #[I k,I a,I b,.string s] 31)).alloc (.cells #[I k',I a',I b',.string s'] 31)):=((G.refl w).alloc _).alloc _
 have hz0:w.heap.size<((w.alloc (.cells #[I k,I a,I b,.string s] 31)).alloc (.cells #[I k',I a',I b',.string s'] 31)).heap.size:=by simp;omega
 have hz1:w.heap.size+1<((w.alloc (.cells #[I k,I a,I b,.string s] 31)).alloc (.cells #[I k',I a',I b',.string s'] 31)).heap.size:=by simp
 go_enter func18,ntmps18
 go_wp2
 generalize (w.alloc (.cells #[I k,I a,I b,.string s] 31)).alloc (.cells #[I k',I a',I b',.string s'] 31)=w1 at hc0 hc1 hg0 hz0 hz1⊢;have hS0:(∀(o:Nat),w1.cell? {block:=w.heap.size,off:=o}=[I k,I a,I b,Value.string s][o]?)∧(∀(o:Nat),w1.cell? {block:=w.heap.size+1,off:=o}=[I k',I a',I b',Value.string s'][o]?)∧G w w1∧w.heap.size<w1.heap.size∧w.heap.size+1<w1.heap.size:=⟨hc0,hc1,hg0,hz0,hz1⟩;clear hc0 hc1 hg0 hz0 hz1
 go_region_held3 (fun W=>(∀(o:Nat),W.cell? {block:=w.heap.size,off:=o}=[I k,I a,I b,Value.string s][o]?)∧(∀(o:Nat),W.cell? {block:=w.heap.size+1,off:=o}=[I k',I a',I b',Value.string s'][o]?)∧G w W∧w.heap.size<W.heap.size∧w.heap.size+1<W.heap.size)
  ((first|assumption|exact zBN (by assumption)|exact zA5 hb5 (by assumption)|exact zA5 hb5 (zBN (by assumption))|exact zBN (zA5 hb5 (by assumption))))
  (first|(go_at_call 49;refine(H1.out _ _ _ _ _ (by first|assumption|exact G.drew (by assumption)|exact And.left (And.right (And.right (by assumption)))|exact G.drew (And.left (And.right (And.right (by assumption)))))).mono ?_;rintro e w5 ⟨rfl,hb5⟩)|(go_at_call 48;refine(H3.out _ (by first|assumption|exact G.drew (by assumption)|exact And.left (And.right (And.right (by assumption)))|exact G.drew (And.left (And.right (And.right (by assumption)))))).mono ?_;rintro e w5 ⟨rfl,hb5⟩)|fail)
 rename_i hH
 obtain⟨hc2,hc3,hg2,hz2,hz3⟩:=hH
 go_wp2
 go_ret;exact⟨rfl,hg2⟩
theorem zD4{k a b:Int}{s:ByteArray}(q:Bool)(hs:s.size≤4611686018427387904)(hok:okV k a b s=q)(w:World):CG 26 #[V k a b s] w (.bool q):=by
 have:=zAm k a b s hs w;rw[hok] at this;exact this
theorem zO3(k a b k' a' b':Int)(s s':ByteArray)(hs:s.size≤4611686018427387904)(hs':s'.size≤4611686018427387904)(n n':Nat)(a1 b1 a1' b1':Int)(s1 s1':ByteArray)(h:Nz k a b s n a1 b1 s1)(h':Nz k' a' b' s' n' a1' b1' s1')(w:World) :
  CG 19 #[V k a b s,V k' a' b' s'] w (.int .i64 (cmpR n n' a1 b1 a1' b1' s1 s1')):=by
 rcases h.st with ⟨hok,rfl,rfl,rfl,rfl⟩|⟨hok,rfl,rfl,rfl,rfl⟩<;>rcases h'.st with ⟨hok',rfl,rfl,rfl,rfl⟩|⟨hok',rfl,rfl,rfl,rfl⟩
 ·exact zMc _ _ _ _ _ _ _ _ hs hs' (zD4 true hs hok) (zD4 true hs' hok') w
 ·exact zSH _ _ _ _ _ _ _ _ hs (zD4 true hs hok) (zD4 false hs' hok') w
 ·exact zSI _ _ _ _ _ _ _ _ hs' (zD4 false hs hok) (zD4 true hs' hok') w
 ·exact zSJ _ _ _ _ _ _ _ _ (zD4 false hs hok) (zD4 false hs' hok') w
theorem zET{x y:Int}:cI x y=0↔x=y:=by
 unfold cI;constructor
 ·intro h
  by_cases c:x<y
  ·rw[if_pos c] at h;omega
  ·rw[if_neg c] at h
   by_cases d:y<x
   ·rw[if_pos d] at h;omega
   ·omega
 ·rintro rfl;simp
theorem zUo(n n':Nat)(h:n<7)(h':n'<7):cI (rkP n) (rkP n')=cI (rkR n) (rkR n'):=by
 have a:n=0∨n=1∨n=2∨n=3∨n=4∨n=5∨n=6:=by omega
 have b:n'=0∨n'=1∨n'=2∨n'=3∨n'=4∨n'=5∨n'=6:=by omega
 rcases a with rfl|rfl|rfl|rfl|rfl|rfl|rfl<;>rcases b with rfl|rfl|rfl|rfl|rfl|rfl|rfl<;>rfl
theorem zO2{n n':Nat}{a b a' b':Int}{s s':ByteArray}(h:n<7)(h':n'<7)(ok:okV n a b s=true)(ok':okV n' a' b' s'=true)(he:rkR n=rkR n') :
  (a=0∧a'=0∧b=0∧b'=0∧n=n')∨(s=E0∧s'=E0):=by
 have c:n=0∨n=1∨n=2∨n=3∨n=4∨n=5∨n=6:=by omega
 have d:n'=0∨n'=1∨n'=2∨n'=3∨n'=4∨n'=5∨n'=6:=by omega
 have st:∀(m:Nat) (x y:Int) (t:ByteArray),m<7→m≠4→okV m x y t=true→t=E0:=by
  intro m x y t hm h4 hk
  have e:m=0∨m=1∨m=2∨m=3∨m=5∨m=6:=by omega
  rcases e with rfl|rfl|rfl|rfl|rfl|rfl
  ·exact(ok_0 hk).2.2
  ·exact(ok_1 hk).2.2
  ·exact(ok_2 hk).2
  ·exact(ok_3 hk).2.2
  ·exact(ok_5 hk).2
  ·exact(ok_6 hk).2
 by_cases e:n=4
 ·subst e
  have e':n'=4:=by
   rcases d with rfl|rfl|rfl|rfl|rfl|rfl|rfl<;>first|rfl|(exact absurd he (by decide))
  subst e';exact .inl ⟨(ok_4 ok).1,(ok_4 ok').1,(ok_4 ok).2.1,(ok_4 ok').2.1,rfl⟩
 ·have e':n'≠4:=by
   rintro rfl
   rcases c with rfl|rfl|rfl|rfl|rfl|rfl|rfl<;>first|(exact absurd rfl e)|(exact absurd he (by decide))
  exact .inr ⟨st n a b s h e ok,st n' a' b' s' h' e' ok'⟩
theorem zJz{n n':Nat}{a b a' b':Int}{s s':ByteArray}(h:n<7)(h':n'<7)(ok:okV n a b s=true)(ok':okV n' a' b' s'=true):cmpP n n' a b a' b' s s'=cmpR n n' a b a' b' s s':=by
 unfold cmpP cmpR;rw[zUo n n' h h']
 by_cases he:rkR n=rkR n'
 ·have z:cI (rkR n) (rkR n')=0:=zET.2 he
  rcases zO2 h h' ok ok' he with ⟨rfl,rfl,rfl,rfl,rfl⟩|⟨rfl,rfl⟩
  ·have z1:cI 0 0=0:=rfl
   have z2:cI (n:Int) n=0:=zET.2 rfl;simp only[or5,z,z1,z2];simp
  ·have z1:compareBytes E0.data.toList E0.data.toList=0:=rfl
   simp only[or5,z,z1]
   by_cases c1:cI a a'=0
   ·by_cases c2:cI (n:Int) n'=0
    ·by_cases c3:cI b b'=0
     iterate 2
      ·simp[c1,c2,c3]
    ·simp[c1,c2]
   ·simp[c1]
 ·have z:cI (rkR n) (rkR n')≠0:=fun e=>he (zET.1 e)
  simp[or5,z]
end
section
open Go.RowKit Go.Lib Go.Shelf
theorem zN5(k a b:Int)(s:ByteArray)(hok:okV k a b s=true)(hk:k≠0)(w:World):(Instr.typeAssert (zAb k a b s) 49 110 true).run prog w=.ok (.tuple #[.agg #[],.bool false]) w:=by
 have h7:k=0∨k=1∨k=2∨k=3∨k=4∨k=5∨k=6:=by have:=zAp k a b s hok;omega
 rcases h7 with rfl|rfl|rfl|rfl|rfl|rfl|rfl
 ·exact absurd rfl hk
 ·rw[zDu hok];exact zBG _ w
 ·rw[zAP hok];exact zCm _ w
 ·rw[zBO hok];exact zDl _ w
 ·rw[zBB hok];exact zDk _ w
 ·rw[zE4 hok];exact zCT _ w
 ·rw[zE3 hok];exact zCU _ w
theorem zJN(k a b:Int)(s:ByteArray)(hok:okV k a b s=true)(hk:k≠1)(w:World):(Instr.typeAssert (zAb k a b s) 49 111 true).run prog w=.ok (.tuple #[.bool false,.bool false]) w:=by
 have h7:k=0∨k=1∨k=2∨k=3∨k=4∨k=5∨k=6:=by have:=zAp k a b s hok;omega
 rcases h7 with rfl|rfl|rfl|rfl|rfl|rfl|rfl
 ·rw[zEK hok];exact zCn _ w
 ·exact absurd rfl hk
 ·rw[zAP hok];exact zB2 _ w
 ·rw[zBO hok];exact zD2 _ w
 ·rw[zBB hok];exact zCS _ w
 ·rw[zE4 hok];exact zDD _ w
 ·rw[zE3 hok];exact zDF _ w
theorem zBH(k a b:Int)(s:ByteArray)(hok:okV k a b s=true)(hk:k≠2)(w:World):(Instr.typeAssert (zAb k a b s) 49 135 true).run prog w=.ok (.tuple #[.int .i64 0,.bool false]) w:=by
 have h7:k=0∨k=1∨k=2∨k=3∨k=4∨k=5∨k=6:=by have:=zAp k a b s hok;omega
 rcases h7 with rfl|rfl|rfl|rfl|rfl|rfl|rfl
 ·rw[zEK hok];exact zDB _ w
 ·rw[zDu hok];exact zB3 _ w
 ·exact absurd rfl hk
 ·rw[zBO hok];exact zAN _ w
 ·rw[zBB hok];exact zCR _ w
 ·rw[zE4 hok];exact zDC _ w
 ·rw[zE3 hok];exact zDE _ w
theorem zRz(k a b:Int)(s:ByteArray)(hok:okV k a b s=true)(hk:k≠3)(w:World):(Instr.typeAssert (zAb k a b s) 49 136 true).run prog w=.ok (.tuple #[.complex .f64 0 0,.bool false]) w:=by
 have h7:k=0∨k=1∨k=2∨k=3∨k=4∨k=5∨k=6:=by have:=zAp k a b s hok;omega
 rcases h7 with rfl|rfl|rfl|rfl|rfl|rfl|rfl
 ·rw[zEK hok];exact zEW _ w
 ·rw[zDu hok];exact zD1 _ w
 ·rw[zAP hok];exact zCP _ w
 ·exact absurd rfl hk
 ·rw[zBB hok];exact zFA _ w
 ·rw[zE4 hok];exact zEY _ w
 ·rw[zE3 hok];exact zE0 _ w
theorem zCa(k a b:Int)(s:ByteArray)(hok:okV k a b s=true)(hk:k≠4)(w:World):(Instr.typeAssert (zAb k a b s) 49 137 true).run prog w=.ok (.tuple #[.string E0,.bool false]) w:=by
 have h7:k=0∨k=1∨k=2∨k=3∨k=4∨k=5∨k=6:=by have:=zAp k a b s hok;omega
 rcases h7 with rfl|rfl|rfl|rfl|rfl|rfl|rfl
 ·rw[zEK hok];exact zEV _ w
 ·rw[zDu hok];exact zCQ _ w
 ·rw[zAP hok];exact zA8 _ w
 ·rw[zBO hok];exact zB9 _ w
 ·exact absurd rfl hk
 ·rw[zE4 hok];exact zEX _ w
 ·rw[zE3 hok];exact zEZ _ w
theorem zRi(x:Value)(q:Bool)(h:∀w,(Instr.typeAssert x 49 110 true).run prog w=.ok (.tuple #[.agg #[],.bool q]) w)(w:World):CG 83 #[x] w (.bool q):=by
 go_enter func83,ntmps83
 go_wp2
 go_ret;exact⟨rfl,by repeat(first|exact G.refl _|refine G.alloc ?_ _|refine G.setCell ?_ (by simp) _)⟩
theorem zAe(k a b:Int)(s:ByteArray)(hok:okV k a b s=true)(hk:k≠0)(w:World):CG 83 #[zAb k a b s] w (.bool false):=
 zRi _ false (zN5 k a b s hok hk) w
theorem zH3(w:World):CG 83 #[.iface 110 (.agg #[])] w (.bool true):=
 zRi _ true (zB0 _) w
theorem zK8(op k a b k' a' b':Int)(s s':ByteArray)(ho:op<1∨18<op)(w:World) :
  CG 16 #[.int .i64 op,V k a b s,V k' a' b' s'] w (.tuple #[V0,.int .i64 1]):=by
 by_cases h:op<1
 ·clear ho
  go_enter func16,ntmps16
  go_wp2
  exact bodyPost_ret (v:=.tuple #[V0,.int .i64 1]) (by simp[results,results16,go_sem]) rfl ⟨rfl,by repeat(first|exact G.refl _|refine G.alloc ?_ _|refine G.setCell ?_ (by simp) _)⟩
 ·have h':18<op:=by omega
  clear ho
  go_enter func16,ntmps16
  go_wp2
  exact bodyPost_ret (v:=.tuple #[V0,.int .i64 1]) (by simp[results,results16,go_sem]) rfl ⟨rfl,by repeat(first|exact G.refl _|refine G.alloc ?_ _|refine G.setCell ?_ (by simp) _)⟩
theorem zEM(k a b:Int)(s:ByteArray):∀w,Tabs w→CG 25 #[V k a b s] w (.tuple #[zAb k a b s,.bool (okV k a b s)]):=zAi k a b s
theorem zIp(op k a b k' a' b':Int)(s s':ByteArray)(ho:1≤op)(ho':op≤18)(hok:okV k a b s=false)(w:World)(hT:Tabs w) :
  CG 16 #[.int .i64 op,V k a b s,V k' a' b' s'] w (.tuple #[V0,.int .i64 16]):=by
 have HI:Hid _:=zEM k a b s;have HJ:Hid _:=zEM k' a' b' s';rw[hok] at HI;generalize okV k' a' b' s'=q2 at HJ;generalize zAb k a b s=x at HI;generalize zAb k' a' b' s'=y at HJ;clear hok
 go_enter func16,ntmps16
 go_wp2_with fail
 refine(HI.out _ (hT.G ((((G.refl w).alloc _).alloc _).alloc _))).mono ?_;rintro e w1 ⟨rfl,hb1⟩;have g1:G w w1:=((((G.refl w).alloc _).alloc _).alloc _).trans hb1;obtain⟨hc1,hf1⟩:=hb1.rules
 have hz1:w.heap.size+2<w1.heap.size:=by have:=hb1.size;simp at this;omega
 go_wp2_with fail
 refine(HJ.out _ (hT.G g1)).mono ?_;rintro e w2 ⟨rfl,hb2⟩;have g2:G w w2:=g1.trans hb2;obtain⟨hc2,hf2⟩:=hb2.rules
 go_wp2
 exact bodyPost_ret (v:=.tuple #[V0,.int .i64 16]) (by simp[results,results16,go_sem,hc1,hc2,hz1]) rfl ⟨rfl,by
  repeat(first|exact g2|refine G.alloc ?_ _|refine G.setCell ?_ (by simp;try omega) _)⟩
theorem zIo(op k a b k' a' b':Int)(s s':ByteArray)(ho:1≤op)(ho':op≤18)(hok:okV k a b s=true)(hok':okV k' a' b' s'=false)(w:World)(hT:Tabs w) :
  CG 16 #[.int .i64 op,V k a b s,V k' a' b' s'] w (.tuple #[V0,.int .i64 16]):=by
 have HI:Hid _:=zEM k a b s;have HJ:Hid _:=zEM k' a' b' s';rw[hok] at HI;rw[hok'] at HJ;generalize zAb k a b s=x at HI;generalize zAb k' a' b' s'=y at HJ;clear hok hok'
 go_enter func16,ntmps16
 go_wp2_with fail
 refine(HI.out _ (hT.G ((((G.refl w).alloc _).alloc _).alloc _))).mono ?_;rintro e w1 ⟨rfl,hb1⟩;have g1:G w w1:=((((G.refl w).alloc _).alloc _).alloc _).trans hb1;obtain⟨hc1,hf1⟩:=hb1.rules
 have hz1:w.heap.size+2<w1.heap.size:=by have:=hb1.size;simp at this;omega
 go_wp2_with fail
 refine(HJ.out _ (hT.G g1)).mono ?_;rintro e w2 ⟨rfl,hb2⟩;have g2:G w w2:=g1.trans hb2;obtain⟨hc2,hf2⟩:=hb2.rules
 go_wp2
 exact bodyPost_ret (v:=.tuple #[V0,.int .i64 16]) (by simp[results,results16,go_sem,hc1,hc2,hz1]) rfl ⟨rfl,by
  repeat(first|exact g2|refine G.alloc ?_ _|refine G.setCell ?_ (by simp;try omega) _)⟩
theorem zK7(Rdy0:World→Prop)(hG0:∀W W1,Rdy0 W→G W W1→Rdy0 W1)(op k a b k' a' b':Int)(s s':ByteArray)(ho:1≤op)(ho':op≤18)(hok:okV k a b s=true)(hok':okV k' a' b' s'=true)(x y r:Value)(c c3 k3 a3 b3:Int)(s3:ByteArray)(hx:zAb k a b s=x)(hy:zAb k' a' b' s'=y)
  (h3:∀w,Rdy0 w→CG 41 #[.int .i64 op,x,y] w (.tuple #[r,.int .i64 c]))
  (h4:∀w,CG 35 #[r,.int .i64 c] w (.tuple #[V k3 a3 b3 s3,.int .i64 c3])) (w:World) (hT:Tabs w) (hR:Rdy0 w) :
  CG 16 #[.int .i64 op,V k a b s,V k' a' b' s'] w (.tuple #[V k3 a3 b3 s3,.int .i64 c3]):=by
 have HI:Hid _:=zEM k a b s;have HJ:Hid _:=zEM k' a' b' s';rw[hok] at HI;rw[hok'] at HJ;rw[hx] at HI;rw[hy] at HJ;have H3:Hid _:=h3;have H4:Hid _:=h4;clear h3 h4 hx hy;clear hok hok'
 go_enter func16,ntmps16
 go_wp2_with fail
 refine(HI.out _ (hT.G ((((G.refl w).alloc _).alloc _).alloc _))).mono ?_;rintro e w1 ⟨rfl,hb1⟩;have g1:G w w1:=((((G.refl w).alloc _).alloc _).alloc _).trans hb1;obtain⟨hc1,hf1⟩:=hb1.rules
 have hz1:w.heap.size+2<w1.heap.size:=by have:=hb1.size;simp at this;omega
 go_wp2_with fail
 refine(HJ.out _ (hT.G g1)).mono ?_;rintro e w2 ⟨rfl,hb2⟩;have g2:G w w2:=g1.trans hb2;obtain⟨hc2,hf2⟩:=hb2.rules
 have hz2:w.heap.size+2<w2.heap.size:=by have:=hb2.size;omega
 go_wp2_with fail
 refine(H3.out _ (hG0 _ _ hR g2)).mono ?_;rintro e w3 ⟨rfl,hb3⟩;have g3:G w w3:=g2.trans hb3;obtain⟨hc3,hf3⟩:=hb3.rules
 have hz3:w.heap.size+2<w3.heap.size:=by have:=hb3.size;omega
 go_wp2_with fail
 refine(H4.out _).mono ?_;rintro e w4 ⟨rfl,hb4⟩;have g4:G w w4:=g3.trans hb4;obtain⟨hc4,hf4⟩:=hb4.rules
 go_wp2
 exact bodyPost_ret (v:=.tuple #[V k3 a3 b3 s3,.int .i64 c3]) (by simp[results,results16,go_sem,hc1,hc2,hc3,hc4,hz1,hz2,hz3]) rfl ⟨rfl,by
  repeat(first|exact g4|refine G.alloc ?_ _|refine G.setCell ?_ (by simp;try omega) _)⟩
end
section
open Go.RowKit Go.Lib Go.Shelf
attribute [local go_sem] zB0 zCn zBG zB4
def tI(q:Bool):Int:=if q then 1 else 0
theorem zAl(q:Bool)(w:World):CG 35 #[.iface 111 (.bool q),.int .i64 0] w (.tuple #[V 1 (tI q) 0 E0,.int .i64 0]):=by
 cases q
 ·exact zA1 w
 ·exact zA0 w
theorem zN0(op:Int)(x y:Value)(n12:(op==12)=false)(n13:(op==13)=false)(n14:(op==14)=false)(hx:∀w,CG 83 #[x] w (.bool true))(w:World) :
  CG 41 #[.int .i64 op,x,y] w (.tuple #[.iface 110 (.agg #[]),.int .i64 0]):=by
 have HX:Hid _:=hx;clear hx
 go_enter func41,ntmps41
 go_wp2_with fail
 refine(HX.out _).mono ?_;rintro e w1 ⟨rfl,hb1⟩
 go_wp2
 go_ret2
 exact⟨rfl,hb1⟩
theorem zNZ(op:Int)(x y:Value)(n12:(op==12)=false)(n13:(op==13)=false)(n14:(op==14)=false)(hx:∀w,CG 83 #[x] w (.bool false))(hy:∀w,CG 83 #[y] w (.bool true))(w:World) :
  CG 41 #[.int .i64 op,x,y] w (.tuple #[.iface 110 (.agg #[]),.int .i64 0]):=by
 have HX:Hid _:=hx;have HY:Hid _:=hy;clear hx hy
 go_enter func41,ntmps41
 go_wp2_with fail
 refine(HX.out _).mono ?_;rintro e w1 ⟨rfl,hb1⟩
 go_wp2_with fail
 refine(HY.out _).mono ?_;rintro e w2 ⟨rfl,hb2⟩
 go_wp2
 go_ret2
 exact⟨rfl,hb1.trans hb2⟩
theorem zYA(Rdy0:World→Prop)(hG0:∀W W1,Rdy0 W→G W W1→Rdy0 W1)(q:Bool)(x y:Value)(hx:∀w,CG 83 #[x] w (.bool false))(hy:∀w,CG 83 #[y] w (.bool false))
  (h:∀w,Rdy0 w→CG 84 #[x,y] w (.bool q)) (w:World) (hR:Rdy0 w) :
  CG 41 #[.int .i64 6,x,y] w (.tuple #[.iface 111 (.bool q),.int .i64 0]):=by
 have H:Hid _:=h;have HX:Hid _:=hx;have HY:Hid _:=hy;clear hx hy h
 go_enter func41,ntmps41
 go_wp2_with fail
 refine(HX.out _).mono ?_;rintro e w1 ⟨rfl,hb1⟩
 go_wp2_with fail
 refine(HY.out _).mono ?_;rintro e w2 ⟨rfl,hb2⟩
 go_wp2_with fail
 refine(H.out _ (hG0 _ _ hR (hb1.trans hb2))).mono ?_;rintro e w3 ⟨rfl,hb3⟩
 go_wp2
 go_ret2
 exact⟨rfl,(hb1.trans hb2).trans hb3⟩
theorem zYz(Rdy0:World→Prop)(hG0:∀W W1,Rdy0 W→G W W1→Rdy0 W1)(q:Bool)(x y:Value)(hx:∀w,CG 83 #[x] w (.bool false))(hy:∀w,CG 83 #[y] w (.bool false))
  (h:∀w,Rdy0 w→CG 84 #[x,y] w (.bool q)) (w:World) (hR:Rdy0 w) :
  CG 41 #[.int .i64 7,x,y] w (.tuple #[.iface 111 (.bool (!q)),.int .i64 0]):=by
 have H:Hid _:=h;have HX:Hid _:=hx;have HY:Hid _:=hy;clear hx hy h
 go_enter func41,ntmps41
 go_wp2_with fail
 refine(HX.out _).mono ?_;rintro e w1 ⟨rfl,hb1⟩
 go_wp2_with fail
 refine(HY.out _).mono ?_;rintro e w2 ⟨rfl,hb2⟩
 go_wp2_with fail
 refine(H.out _ (hG0 _ _ hR (hb1.trans hb2))).mono ?_;rintro e w3 ⟨rfl,hb3⟩
 go_wp2
 go_ret2
 exact⟨rfl,(hb1.trans hb2).trans hb3⟩
theorem zQQ(Rdy0:World→Prop)(hG0:∀W W1,Rdy0 W→G W W1→Rdy0 W1)(r:Value)(x y:Value)(hx:∀w,CG 83 #[x] w (.bool false))(hy:∀w,CG 83 #[y] w (.bool false))
  (h:∀w,Rdy0 w→CG 85 #[.int .i64 8,x,y] w (r)) (w:World) (hR:Rdy0 w) :
  CG 41 #[.int .i64 8,x,y] w (.tuple #[r,.int .i64 0]):=by
 have H:Hid _:=h;have HX:Hid _:=hx;have HY:Hid _:=hy;clear hx hy h
 go_enter func41,ntmps41
 go_wp2_with fail
 refine(HX.out _).mono ?_;rintro e w1 ⟨rfl,hb1⟩
 go_wp2_with fail
 refine(HY.out _).mono ?_;rintro e w2 ⟨rfl,hb2⟩
 go_wp2_with fail
 refine(H.out _ (hG0 _ _ hR (hb1.trans hb2))).mono ?_;rintro e w3 ⟨rfl,hb3⟩
 go_wp2
 go_ret2
 exact⟨rfl,(hb1.trans hb2).trans hb3⟩
theorem zQP(Rdy0:World→Prop)(hG0:∀W W1,Rdy0 W→G W W1→Rdy0 W1)(r:Value)(x y:Value)(hx:∀w,CG 83 #[x] w (.bool false))(hy:∀w,CG 83 #[y] w (.bool false))
  (h:∀w,Rdy0 w→CG 85 #[.int .i64 9,x,y] w (r)) (w:World) (hR:Rdy0 w) :
  CG 41 #[.int .i64 9,x,y] w (.tuple #[r,.int .i64 0]):=by
 have H:Hid _:=h;have HX:Hid _:=hx;have HY:Hid _:=hy;clear hx hy h
 go_enter func41,ntmps41
 go_wp2_with fail
 refine(HX.out _).mono ?_;rintro e w1 ⟨rfl,hb1⟩
 go_wp2_with fail
 refine(HY.out _).mono ?_;rintro e w2 ⟨rfl,hb2⟩
 go_wp2_with fail
 refine(H.out _ (hG0 _ _ hR (hb1.trans hb2))).mono ?_;rintro e w3 ⟨rfl,hb3⟩
 go_wp2
 go_ret2
 exact⟨rfl,(hb1.trans hb2).trans hb3⟩
theorem zJK(Rdy0:World→Prop)(hG0:∀W W1,Rdy0 W→G W W1→Rdy0 W1)(r:Value)(x y:Value)(hx:∀w,CG 83 #[x] w (.bool false))(hy:∀w,CG 83 #[y] w (.bool false))
  (h:∀w,Rdy0 w→CG 85 #[.int .i64 10,x,y] w (r)) (w:World) (hR:Rdy0 w) :
  CG 41 #[.int .i64 10,x,y] w (.tuple #[r,.int .i64 0]):=by
 have H:Hid _:=h;have HX:Hid _:=hx;have HY:Hid _:=hy;clear hx hy h
 go_enter func41,ntmps41
 go_wp2_with fail
 refine(HX.out _).mono ?_;rintro e w1 ⟨rfl,hb1⟩
 go_wp2_with fail
 refine(HY.out _).mono ?_;rintro e w2 ⟨rfl,hb2⟩
 go_wp2_with fail
 refine(H.out _ (hG0 _ _ hR (hb1.trans hb2))).mono ?_;rintro e w3 ⟨rfl,hb3⟩
 go_wp2
 go_ret2
 exact⟨rfl,(hb1.trans hb2).trans hb3⟩
theorem zJJ(Rdy0:World→Prop)(hG0:∀W W1,Rdy0 W→G W W1→Rdy0 W1)(r:Value)(x y:Value)(hx:∀w,CG 83 #[x] w (.bool false))(hy:∀w,CG 83 #[y] w (.bool false))
  (h:∀w,Rdy0 w→CG 85 #[.int .i64 11,x,y] w (r)) (w:World) (hR:Rdy0 w) :
  CG 41 #[.int .i64 11,x,y] w (.tuple #[r,.int .i64 0]):=by
 have H:Hid _:=h;have HX:Hid _:=hx;have HY:Hid _:=hy;clear hx hy h
 go_enter func41,ntmps41
 go_wp2_with fail
 refine(HX.out _).mono ?_;rintro e w1 ⟨rfl,hb1⟩
 go_wp2_with fail
 refine(HY.out _).mono ?_;rintro e w2 ⟨rfl,hb2⟩
 go_wp2_with fail
 refine(H.out _ (hG0 _ _ hR (hb1.trans hb2))).mono ?_;rintro e w3 ⟨rfl,hb3⟩
 go_wp2
 go_ret2
 exact⟨rfl,(hb1.trans hb2).trans hb3⟩
theorem zN3(Rdy0:World→Prop)(hG0:∀W W1,Rdy0 W→G W W1→Rdy0 W1)(r:Value)(c:Int)(x y:Value)(hx:∀w,CG 83 #[x] w (.bool false))(hy:∀w,CG 83 #[y] w (.bool false))
  (h:∀w,Rdy0 w→CG 86 #[.int .i64 15,x,y] w (.tuple #[r,.int .i64 c])) (w:World) (hR:Rdy0 w) :
  CG 41 #[.int .i64 15,x,y] w (.tuple #[r,.int .i64 c]):=by
 have H:Hid _:=h;have HX:Hid _:=hx;have HY:Hid _:=hy;clear hx hy h
 go_enter func41,ntmps41
 go_wp2_with fail
 refine(HX.out _).mono ?_;rintro e w1 ⟨rfl,hb1⟩
 go_wp2_with fail
 refine(HY.out _).mono ?_;rintro e w2 ⟨rfl,hb2⟩
 go_wp2_with fail
 refine(H.out _ (hG0 _ _ hR (hb1.trans hb2))).mono ?_;rintro e w3 ⟨rfl,hb3⟩
 go_wp2
 go_ret2
 exact⟨rfl,(hb1.trans hb2).trans hb3⟩
theorem zN2(Rdy0:World→Prop)(hG0:∀W W1,Rdy0 W→G W W1→Rdy0 W1)(r:Value)(c:Int)(x y:Value)(hx:∀w,CG 83 #[x] w (.bool false))(hy:∀w,CG 83 #[y] w (.bool false))
  (h:∀w,Rdy0 w→CG 86 #[.int .i64 17,x,y] w (.tuple #[r,.int .i64 c])) (w:World) (hR:Rdy0 w) :
  CG 41 #[.int .i64 17,x,y] w (.tuple #[r,.int .i64 c]):=by
 have H:Hid _:=h;have HX:Hid _:=hx;have HY:Hid _:=hy;clear hx hy h
 go_enter func41,ntmps41
 go_wp2_with fail
 refine(HX.out _).mono ?_;rintro e w1 ⟨rfl,hb1⟩
 go_wp2_with fail
 refine(HY.out _).mono ?_;rintro e w2 ⟨rfl,hb2⟩
 go_wp2_with fail
 refine(H.out _ (hG0 _ _ hR (hb1.trans hb2))).mono ?_;rintro e w3 ⟨rfl,hb3⟩
 go_wp2
 go_ret2
 exact⟨rfl,(hb1.trans hb2).trans hb3⟩
theorem zN1(Rdy0:World→Prop)(hG0:∀W W1,Rdy0 W→G W W1→Rdy0 W1)(r:Value)(c:Int)(x y:Value)(hx:∀w,CG 83 #[x] w (.bool false))(hy:∀w,CG 83 #[y] w (.bool false))
  (h:∀w,Rdy0 w→CG 86 #[.int .i64 18,x,y] w (.tuple #[r,.int .i64 c])) (w:World) (hR:Rdy0 w) :
  CG 41 #[.int .i64 18,x,y] w (.tuple #[r,.int .i64 c]):=by
 have H:Hid _:=h;have HX:Hid _:=hx;have HY:Hid _:=hy;clear hx hy h
 go_enter func41,ntmps41
 go_wp2_with fail
 refine(HX.out _).mono ?_;rintro e w1 ⟨rfl,hb1⟩
 go_wp2_with fail
 refine(HY.out _).mono ?_;rintro e w2 ⟨rfl,hb2⟩
 go_wp2_with fail
 refine(H.out _ (hG0 _ _ hR (hb1.trans hb2))).mono ?_;rintro e w3 ⟨rfl,hb3⟩
 go_wp2
 go_ret2
 exact⟨rfl,(hb1.trans hb2).trans hb3⟩
theorem zG9(Rdy0:World→Prop)(hG0:∀W W1,Rdy0 W→G W W1→Rdy0 W1)(r:Value)(c:Int)(x y:Value)(hx:∀w,CG 83 #[x] w (.bool false))(hy:∀w,CG 83 #[y] w (.bool false))
  (h:∀w,Rdy0 w→CG 87 #[x,y] w (.tuple #[r,.int .i64 c])) (w:World) (hR:Rdy0 w) :
  CG 41 #[.int .i64 16,x,y] w (.tuple #[r,.int .i64 c]):=by
 have H:Hid _:=h;have HX:Hid _:=hx;have HY:Hid _:=hy;clear hx hy h
 go_enter func41,ntmps41
 go_wp2_with fail
 refine(HX.out _).mono ?_;rintro e w1 ⟨rfl,hb1⟩
 go_wp2_with fail
 refine(HY.out _).mono ?_;rintro e w2 ⟨rfl,hb2⟩
 go_wp2_with fail
 refine(H.out _ (hG0 _ _ hR (hb1.trans hb2))).mono ?_;rintro e w3 ⟨rfl,hb3⟩
 go_wp2
 go_ret2
 exact⟨rfl,(hb1.trans hb2).trans hb3⟩
theorem zCO(Rdy0:World→Prop)(_hG0:∀W W1,Rdy0 W→G W W1→Rdy0 W1)(r:Value)(c:Int)(x y:Value)
  (h:∀w,Rdy0 w→CG 82 #[.int .i64 12,x,y] w (.tuple #[r,.int .i64 c])) (w:World) (hR:Rdy0 w) :
  CG 41 #[.int .i64 12,x,y] w (.tuple #[r,.int .i64 c]):=by
 have H:Hid _:=h;clear h
 go_enter func41,ntmps41
 go_wp2_with fail
 refine(H.out _ hR).mono ?_;rintro e w3 ⟨rfl,hb3⟩
 go_wp2
 go_ret2
 exact⟨rfl,hb3⟩
theorem zCN(Rdy0:World→Prop)(_hG0:∀W W1,Rdy0 W→G W W1→Rdy0 W1)(r:Value)(c:Int)(x y:Value)
  (h:∀w,Rdy0 w→CG 82 #[.int .i64 13,x,y] w (.tuple #[r,.int .i64 c])) (w:World) (hR:Rdy0 w) :
  CG 41 #[.int .i64 13,x,y] w (.tuple #[r,.int .i64 c]):=by
 have H:Hid _:=h;clear h
 go_enter func41,ntmps41
 go_wp2_with fail
 refine(H.out _ hR).mono ?_;rintro e w3 ⟨rfl,hb3⟩
 go_wp2
 go_ret2
 exact⟨rfl,hb3⟩
theorem zCM(Rdy0:World→Prop)(_hG0:∀W W1,Rdy0 W→G W W1→Rdy0 W1)(r:Value)(c:Int)(x y:Value)
  (h:∀w,Rdy0 w→CG 82 #[.int .i64 14,x,y] w (.tuple #[r,.int .i64 c])) (w:World) (hR:Rdy0 w) :
  CG 41 #[.int .i64 14,x,y] w (.tuple #[r,.int .i64 c]):=by
 have H:Hid _:=h;clear h
 go_enter func41,ntmps41
 go_wp2_with fail
 refine(H.out _ hR).mono ?_;rintro e w3 ⟨rfl,hb3⟩
 go_wp2
 go_ret2
 exact⟨rfl,hb3⟩
theorem zBd(w:World):CG 114 #[.iface 111 (.bool false)] w (.tuple #[.int .i64 (-1),.bool true]):=by
 go_enter func114,ntmps114
 go_wp2
 go_ret2
 exact⟨rfl,by repeat(first|exact G.refl _|refine G.alloc ?_ _|refine G.setCell ?_ (by simp) _)⟩
theorem zBx(w:World):CG 115 #[.int .i64 (-1)] w (.iface 111 (.bool false)):=by
 go_enter func115,ntmps115
 go_wp2
 go_ret;exact⟨rfl,G.refl _⟩
theorem zBc(w:World):CG 114 #[.iface 111 (.bool true)] w (.tuple #[.int .i64 1,.bool true]):=by
 go_enter func114,ntmps114
 go_wp2
 go_ret2
 exact⟨rfl,by repeat(first|exact G.refl _|refine G.alloc ?_ _|refine G.setCell ?_ (by simp) _)⟩
theorem zBw(w:World):CG 115 #[.int .i64 1] w (.iface 111 (.bool true)):=by
 go_enter func115,ntmps115
 go_wp2
 go_ret;exact⟨rfl,G.refl _⟩
theorem zBb(w:World):CG 114 #[.iface 110 (.agg #[])] w (.tuple #[.int .i64 0,.bool true]):=by
 go_enter func114,ntmps114
 go_wp2
 go_ret2
 exact⟨rfl,by repeat(first|exact G.refl _|refine G.alloc ?_ _|refine G.setCell ?_ (by simp) _)⟩
theorem zAV(w:World):CG 115 #[.int .i64 0] w (.iface 110 (.agg #[])):=by
 go_enter func115,ntmps115
 go_wp2
 go_ret;exact⟨rfl,G.refl _⟩
theorem zRS(k a b:Int)(s:ByteArray)(hok:okV k a b s=true)(hk:2≤k)(w:World):CG 114 #[zAb k a b s] w (.tuple #[.int .i64 0,.bool false]):=by
 have h1:=zN5 k a b s hok (by omega);have h2:=zJN k a b s hok (by omega);generalize zAb k a b s=x at h1 h2;clear hok hk
 go_enter func114,ntmps114
 go_wp2
 go_ret2
 exact⟨rfl,G.refl _⟩
theorem lno1(op:Int)(x y:Value)(m n:Int)(q:Bool)(hx:∀w,CG 114 #[x] w (.tuple #[.int .i64 m,.bool false]))(hy:∀w,CG 114 #[y] w (.tuple #[.int .i64 n,.bool q]))(w:World) :
  CG 82 #[.int .i64 op,x,y] w (.tuple #[.nilIface,.int .i64 10]):=by
 have HX:Hid _:=hx;have HY:Hid _:=hy;clear hx hy
 go_enter func82,ntmps82
 go_wp2_with fail
 refine(HX.out _).mono ?_;rintro e w1 ⟨rfl,hb1⟩
 go_wp2_with fail
 refine(HY.out _).mono ?_;rintro e w2 ⟨rfl,hb2⟩
 go_wp2
 go_ret2
 exact⟨rfl,hb1.trans hb2⟩
theorem lno2(op:Int)(x y:Value)(m n:Int)(hx:∀w,CG 114 #[x] w (.tuple #[.int .i64 m,.bool true]))(hy:∀w,CG 114 #[y] w (.tuple #[.int .i64 n,.bool false]))(w:World) :
  CG 82 #[.int .i64 op,x,y] w (.tuple #[.nilIface,.int .i64 10]):=by
 have HX:Hid _:=hx;have HY:Hid _:=hy;clear hx hy
 go_enter func82,ntmps82
 go_wp2_with fail
 refine(HX.out _).mono ?_;rintro e w1 ⟨rfl,hb1⟩
 go_wp2_with fail
 refine(HY.out _).mono ?_;rintro e w2 ⟨rfl,hb2⟩
 go_wp2
 go_ret2
 exact⟨rfl,hb1.trans hb2⟩
theorem zNd(w:World):CG 82 #[.int .i64 12,.iface 111 (.bool false),.iface 111 (.bool false)] w (.tuple #[.iface 111 (.bool false),.int .i64 0]):=by
 go_enter func82,ntmps82
 go_wp2_with fail
 refine(zBd _).mono ?_;rintro e w1 ⟨rfl,hb1⟩
 go_wp2_with fail
 refine(zBd _).mono ?_;rintro e w2 ⟨rfl,hb2⟩
 go_wp2_with fail
 refine(zBx _).mono ?_;rintro e w3 ⟨rfl,hb3⟩
 go_wp2
 go_ret2
 exact⟨rfl,(hb1.trans hb2).trans hb3⟩
theorem zNc(w:World):CG 82 #[.int .i64 12,.iface 111 (.bool false),.iface 111 (.bool true)] w (.tuple #[.iface 111 (.bool false),.int .i64 0]):=by
 go_enter func82,ntmps82
 go_wp2_with fail
 refine(zBd _).mono ?_;rintro e w1 ⟨rfl,hb1⟩
 go_wp2_with fail
 refine(zBc _).mono ?_;rintro e w2 ⟨rfl,hb2⟩
 go_wp2_with fail
 refine(zBx _).mono ?_;rintro e w3 ⟨rfl,hb3⟩
 go_wp2
 go_ret2
 exact⟨rfl,(hb1.trans hb2).trans hb3⟩
theorem zNb(w:World):CG 82 #[.int .i64 12,.iface 111 (.bool false),.iface 110 (.agg #[])] w (.tuple #[.iface 111 (.bool false),.int .i64 0]):=by
 go_enter func82,ntmps82
 go_wp2_with fail
 refine(zBd _).mono ?_;rintro e w1 ⟨rfl,hb1⟩
 go_wp2_with fail
 refine(zBb _).mono ?_;rintro e w2 ⟨rfl,hb2⟩
 go_wp2_with fail
 refine(zBx _).mono ?_;rintro e w3 ⟨rfl,hb3⟩
 go_wp2
 go_ret2
 exact⟨rfl,(hb1.trans hb2).trans hb3⟩
theorem zNa(w:World):CG 82 #[.int .i64 12,.iface 111 (.bool true),.iface 111 (.bool false)] w (.tuple #[.iface 111 (.bool false),.int .i64 0]):=by
 go_enter func82,ntmps82
 go_wp2_with fail
 refine(zBc _).mono ?_;rintro e w1 ⟨rfl,hb1⟩
 go_wp2_with fail
 refine(zBd _).mono ?_;rintro e w2 ⟨rfl,hb2⟩
 go_wp2_with fail
 refine(zBx _).mono ?_;rintro e w3 ⟨rfl,hb3⟩
 go_wp2
 go_ret2
 exact⟨rfl,(hb1.trans hb2).trans hb3⟩
theorem zM9(w:World):CG 82 #[.int .i64 12,.iface 111 (.bool true),.iface 111 (.bool true)] w (.tuple #[.iface 111 (.bool true),.int .i64 0]):=by
 go_enter func82,ntmps82
 go_wp2_with fail
 refine(zBc _).mono ?_;rintro e w1 ⟨rfl,hb1⟩
 go_wp2_with fail
 refine(zBc _).mono ?_;rintro e w2 ⟨rfl,hb2⟩
 go_wp2_with fail
 refine(zBw _).mono ?_;rintro e w3 ⟨rfl,hb3⟩
 go_wp2
 go_ret2
 exact⟨rfl,(hb1.trans hb2).trans hb3⟩
theorem zM8(w:World):CG 82 #[.int .i64 12,.iface 111 (.bool true),.iface 110 (.agg #[])] w (.tuple #[.iface 110 (.agg #[]),.int .i64 0]):=by
 go_enter func82,ntmps82
 go_wp2_with fail
 refine(zBc _).mono ?_;rintro e w1 ⟨rfl,hb1⟩
 go_wp2_with fail
 refine(zBb _).mono ?_;rintro e w2 ⟨rfl,hb2⟩
 go_wp2_with fail
 refine(zAV _).mono ?_;rintro e w3 ⟨rfl,hb3⟩
 go_wp2
 go_ret2
 exact⟨rfl,(hb1.trans hb2).trans hb3⟩
theorem zM7(w:World):CG 82 #[.int .i64 12,.iface 110 (.agg #[]),.iface 111 (.bool false)] w (.tuple #[.iface 111 (.bool false),.int .i64 0]):=by
 go_enter func82,ntmps82
 go_wp2_with fail
 refine(zBb _).mono ?_;rintro e w1 ⟨rfl,hb1⟩
 go_wp2_with fail
 refine(zBd _).mono ?_;rintro e w2 ⟨rfl,hb2⟩
 go_wp2_with fail
 refine(zBx _).mono ?_;rintro e w3 ⟨rfl,hb3⟩
 go_wp2
 go_ret2
 exact⟨rfl,(hb1.trans hb2).trans hb3⟩
theorem zM6(w:World):CG 82 #[.int .i64 12,.iface 110 (.agg #[]),.iface 111 (.bool true)] w (.tuple #[.iface 110 (.agg #[]),.int .i64 0]):=by
 go_enter func82,ntmps82
 go_wp2_with fail
 refine(zBb _).mono ?_;rintro e w1 ⟨rfl,hb1⟩
 go_wp2_with fail
 refine(zBc _).mono ?_;rintro e w2 ⟨rfl,hb2⟩
 go_wp2_with fail
 refine(zAV _).mono ?_;rintro e w3 ⟨rfl,hb3⟩
 go_wp2
 go_ret2
 exact⟨rfl,(hb1.trans hb2).trans hb3⟩
theorem zM5(w:World):CG 82 #[.int .i64 12,.iface 110 (.agg #[]),.iface 110 (.agg #[])] w (.tuple #[.iface 110 (.agg #[]),.int .i64 0]):=by
 go_enter func82,ntmps82
 go_wp2_with fail
 refine(zBb _).mono ?_;rintro e w1 ⟨rfl,hb1⟩
 go_wp2_with fail
 refine(zBb _).mono ?_;rintro e w2 ⟨rfl,hb2⟩
 go_wp2_with fail
 refine(zAV _).mono ?_;rintro e w3 ⟨rfl,hb3⟩
 go_wp2
 go_ret2
 exact⟨rfl,(hb1.trans hb2).trans hb3⟩
theorem zM4(w:World):CG 82 #[.int .i64 13,.iface 111 (.bool false),.iface 111 (.bool false)] w (.tuple #[.iface 111 (.bool false),.int .i64 0]):=by
 go_enter func82,ntmps82
 go_wp2_with fail
 refine(zBd _).mono ?_;rintro e w1 ⟨rfl,hb1⟩
 go_wp2_with fail
 refine(zBd _).mono ?_;rintro e w2 ⟨rfl,hb2⟩
 go_wp2_with fail
 refine(zBx _).mono ?_;rintro e w3 ⟨rfl,hb3⟩
 go_wp2
 go_ret2
 exact⟨rfl,(hb1.trans hb2).trans hb3⟩
theorem zM3(w:World):CG 82 #[.int .i64 13,.iface 111 (.bool false),.iface 111 (.bool true)] w (.tuple #[.iface 111 (.bool true),.int .i64 0]):=by
 go_enter func82,ntmps82
 go_wp2_with fail
 refine(zBd _).mono ?_;rintro e w1 ⟨rfl,hb1⟩
 go_wp2_with fail
 refine(zBc _).mono ?_;rintro e w2 ⟨rfl,hb2⟩
 go_wp2_with fail
 refine(zBw _).mono ?_;rintro e w3 ⟨rfl,hb3⟩
 go_wp2
 go_ret2
 exact⟨rfl,(hb1.trans hb2).trans hb3⟩
theorem zM2(w:World):CG 82 #[.int .i64 13,.iface 111 (.bool false),.iface 110 (.agg #[])] w (.tuple #[.iface 110 (.agg #[]),.int .i64 0]):=by
 go_enter func82,ntmps82
 go_wp2_with fail
 refine(zBd _).mono ?_;rintro e w1 ⟨rfl,hb1⟩
 go_wp2_with fail
 refine(zBb _).mono ?_;rintro e w2 ⟨rfl,hb2⟩
 go_wp2_with fail
 refine(zAV _).mono ?_;rintro e w3 ⟨rfl,hb3⟩
 go_wp2
 go_ret2
 exact⟨rfl,(hb1.trans hb2).trans hb3⟩
theorem zM1(w:World):CG 82 #[.int .i64 13,.iface 111 (.bool true),.iface 111 (.bool false)] w (.tuple #[.iface 111 (.bool true),.int .i64 0]):=by
 go_enter func82,ntmps82
 go_wp2_with fail
 refine(zBc _).mono ?_;rintro e w1 ⟨rfl,hb1⟩
 go_wp2_with fail
 refine(zBd _).mono ?_;rintro e w2 ⟨rfl,hb2⟩
 go_wp2_with fail
 refine(zBw _).mono ?_;rintro e w3 ⟨rfl,hb3⟩
 go_wp2
 go_ret2
 exact⟨rfl,(hb1.trans hb2).trans hb3⟩
theorem zM0(w:World):CG 82 #[.int .i64 13,.iface 111 (.bool true),.iface 111 (.bool true)] w (.tuple #[.iface 111 (.bool true),.int .i64 0]):=by
 go_enter func82,ntmps82
 go_wp2_with fail
 refine(zBc _).mono ?_;rintro e w1 ⟨rfl,hb1⟩
 go_wp2_with fail
 refine(zBc _).mono ?_;rintro e w2 ⟨rfl,hb2⟩
 go_wp2_with fail
 refine(zBw _).mono ?_;rintro e w3 ⟨rfl,hb3⟩
 go_wp2
 go_ret2
 exact⟨rfl,(hb1.trans hb2).trans hb3⟩
theorem zMZ(w:World):CG 82 #[.int .i64 13,.iface 111 (.bool true),.iface 110 (.agg #[])] w (.tuple #[.iface 111 (.bool true),.int .i64 0]):=by
 go_enter func82,ntmps82
 go_wp2_with fail
 refine(zBc _).mono ?_;rintro e w1 ⟨rfl,hb1⟩
 go_wp2_with fail
 refine(zBb _).mono ?_;rintro e w2 ⟨rfl,hb2⟩
 go_wp2_with fail
 refine(zBw _).mono ?_;rintro e w3 ⟨rfl,hb3⟩
 go_wp2
 go_ret2
 exact⟨rfl,(hb1.trans hb2).trans hb3⟩
theorem zMY(w:World):CG 82 #[.int .i64 13,.iface 110 (.agg #[]),.iface 111 (.bool false)] w (.tuple #[.iface 110 (.agg #[]),.int .i64 0]):=by
 go_enter func82,ntmps82
 go_wp2_with fail
 refine(zBb _).mono ?_;rintro e w1 ⟨rfl,hb1⟩
 go_wp2_with fail
 refine(zBd _).mono ?_;rintro e w2 ⟨rfl,hb2⟩
 go_wp2_with fail
 refine(zAV _).mono ?_;rintro e w3 ⟨rfl,hb3⟩
 go_wp2
 go_ret2
 exact⟨rfl,(hb1.trans hb2).trans hb3⟩
theorem zMX(w:World):CG 82 #[.int .i64 13,.iface 110 (.agg #[]),.iface 111 (.bool true)] w (.tuple #[.iface 111 (.bool true),.int .i64 0]):=by
 go_enter func82,ntmps82
 go_wp2_with fail
 refine(zBb _).mono ?_;rintro e w1 ⟨rfl,hb1⟩
 go_wp2_with fail
 refine(zBc _).mono ?_;rintro e w2 ⟨rfl,hb2⟩
 go_wp2_with fail
 refine(zBw _).mono ?_;rintro e w3 ⟨rfl,hb3⟩
 go_wp2
 go_ret2
 exact⟨rfl,(hb1.trans hb2).trans hb3⟩
theorem zMW(w:World):CG 82 #[.int .i64 13,.iface 110 (.agg #[]),.iface 110 (.agg #[])] w (.tuple #[.iface 110 (.agg #[]),.int .i64 0]):=by
 go_enter func82,ntmps82
 go_wp2_with fail
 refine(zBb _).mono ?_;rintro e w1 ⟨rfl,hb1⟩
 go_wp2_with fail
 refine(zBb _).mono ?_;rintro e w2 ⟨rfl,hb2⟩
 go_wp2_with fail
 refine(zAV _).mono ?_;rintro e w3 ⟨rfl,hb3⟩
 go_wp2
 go_ret2
 exact⟨rfl,(hb1.trans hb2).trans hb3⟩
theorem zMV(w:World):CG 82 #[.int .i64 14,.iface 111 (.bool false),.iface 111 (.bool false)] w (.tuple #[.iface 111 (.bool false),.int .i64 0]):=by
 go_enter func82,ntmps82
 go_wp2_with fail
 refine(zBd _).mono ?_;rintro e w1 ⟨rfl,hb1⟩
 go_wp2_with fail
 refine(zBd _).mono ?_;rintro e w2 ⟨rfl,hb2⟩
 go_wp2_with fail
 refine(zBx _).mono ?_;rintro e w3 ⟨rfl,hb3⟩
 go_wp2
 go_ret2
 exact⟨rfl,(hb1.trans hb2).trans hb3⟩
theorem zMU(w:World):CG 82 #[.int .i64 14,.iface 111 (.bool false),.iface 111 (.bool true)] w (.tuple #[.iface 111 (.bool true),.int .i64 0]):=by
 go_enter func82,ntmps82
 go_wp2_with fail
 refine(zBd _).mono ?_;rintro e w1 ⟨rfl,hb1⟩
 go_wp2_with fail
 refine(zBc _).mono ?_;rintro e w2 ⟨rfl,hb2⟩
 go_wp2_with fail
 refine(zBw _).mono ?_;rintro e w3 ⟨rfl,hb3⟩
 go_wp2
 go_ret2
 exact⟨rfl,(hb1.trans hb2).trans hb3⟩
theorem zMT(w:World):CG 82 #[.int .i64 14,.iface 111 (.bool false),.iface 110 (.agg #[])] w (.tuple #[.iface 110 (.agg #[]),.int .i64 0]):=by
 go_enter func82,ntmps82
 go_wp2_with fail
 refine(zBd _).mono ?_;rintro e w1 ⟨rfl,hb1⟩
 go_wp2_with fail
 refine(zBb _).mono ?_;rintro e w2 ⟨rfl,hb2⟩
 go_wp2_with fail
 refine(zAV _).mono ?_;rintro e w3 ⟨rfl,hb3⟩
 go_wp2
 go_ret2
 exact⟨rfl,(hb1.trans hb2).trans hb3⟩
theorem zMS(w:World):CG 82 #[.int .i64 14,.iface 111 (.bool true),.iface 111 (.bool false)] w (.tuple #[.iface 111 (.bool true),.int .i64 0]):=by
 go_enter func82,ntmps82
 go_wp2_with fail
 refine(zBc _).mono ?_;rintro e w1 ⟨rfl,hb1⟩
 go_wp2_with fail
 refine(zBd _).mono ?_;rintro e w2 ⟨rfl,hb2⟩
 go_wp2_with fail
 refine(zBw _).mono ?_;rintro e w3 ⟨rfl,hb3⟩
 go_wp2
 go_ret2
 exact⟨rfl,(hb1.trans hb2).trans hb3⟩
theorem zMR(w:World):CG 82 #[.int .i64 14,.iface 111 (.bool true),.iface 111 (.bool true)] w (.tuple #[.iface 111 (.bool false),.int .i64 0]):=by
 go_enter func82,ntmps82
 go_wp2_with fail
 refine(zBc _).mono ?_;rintro e w1 ⟨rfl,hb1⟩
 go_wp2_with fail
 refine(zBc _).mono ?_;rintro e w2 ⟨rfl,hb2⟩
 go_wp2_with fail
 refine(zBx _).mono ?_;rintro e w3 ⟨rfl,hb3⟩
 go_wp2
 go_ret2
 exact⟨rfl,(hb1.trans hb2).trans hb3⟩
theorem zMQ(w:World):CG 82 #[.int .i64 14,.iface 111 (.bool true),.iface 110 (.agg #[])] w (.tuple #[.iface 110 (.agg #[]),.int .i64 0]):=by
 go_enter func82,ntmps82
 go_wp2_with fail
 refine(zBc _).mono ?_;rintro e w1 ⟨rfl,hb1⟩
 go_wp2_with fail
 refine(zBb _).mono ?_;rintro e w2 ⟨rfl,hb2⟩
 go_wp2_with fail
 refine(zAV _).mono ?_;rintro e w3 ⟨rfl,hb3⟩
 go_wp2
 go_ret2
 exact⟨rfl,(hb1.trans hb2).trans hb3⟩
theorem zMP(w:World):CG 82 #[.int .i64 14,.iface 110 (.agg #[]),.iface 111 (.bool false)] w (.tuple #[.iface 110 (.agg #[]),.int .i64 0]):=by
 go_enter func82,ntmps82
 go_wp2_with fail
 refine(zBb _).mono ?_;rintro e w1 ⟨rfl,hb1⟩
 go_wp2_with fail
 refine(zBd _).mono ?_;rintro e w2 ⟨rfl,hb2⟩
 go_wp2_with fail
 refine(zAV _).mono ?_;rintro e w3 ⟨rfl,hb3⟩
 go_wp2
 go_ret2
 exact⟨rfl,(hb1.trans hb2).trans hb3⟩
theorem zMO(w:World):CG 82 #[.int .i64 14,.iface 110 (.agg #[]),.iface 111 (.bool true)] w (.tuple #[.iface 110 (.agg #[]),.int .i64 0]):=by
 go_enter func82,ntmps82
 go_wp2_with fail
 refine(zBb _).mono ?_;rintro e w1 ⟨rfl,hb1⟩
 go_wp2_with fail
 refine(zBc _).mono ?_;rintro e w2 ⟨rfl,hb2⟩
 go_wp2_with fail
 refine(zAV _).mono ?_;rintro e w3 ⟨rfl,hb3⟩
 go_wp2
 go_ret2
 exact⟨rfl,(hb1.trans hb2).trans hb3⟩
theorem zMN(w:World):CG 82 #[.int .i64 14,.iface 110 (.agg #[]),.iface 110 (.agg #[])] w (.tuple #[.iface 110 (.agg #[]),.int .i64 0]):=by
 go_enter func82,ntmps82
 go_wp2_with fail
 refine(zBb _).mono ?_;rintro e w1 ⟨rfl,hb1⟩
 go_wp2_with fail
 refine(zBb _).mono ?_;rintro e w2 ⟨rfl,hb2⟩
 go_wp2_with fail
 refine(zAV _).mono ?_;rintro e w3 ⟨rfl,hb3⟩
 go_wp2
 go_ret2
 exact⟨rfl,(hb1.trans hb2).trans hb3⟩
end
section
open Go.RowKit Go.Lib Go.Shelf
theorem zTX(k a b k' a' b':Int)(s s':ByteArray)(w:World):(binOp .eql 31 (V k a b s) (V k' a' b' s')).run prog w=.ok (.bool ((k==k')&&(a==a')&&(b==b')&&(s.toList==s'.toList))) w:=eqV k a b k' a' b' s s' w
theorem zTZ(x y:Value)(k a b k' a' b':Int)(s s':ByteArray)(hx:IVal x k a b s)(hy:IVal y k' a' b' s')(h1:∀w,(Instr.typeAssert x 49 135 true).run prog w=.ok (.tuple #[.int .i64 0,.bool false]) w)(h2:∀w,(Instr.typeAssert x 49 136 true).run prog w=.ok (.tuple #[.complex .f64 0 0,.bool false]) w)(w:World) :
  CG 84 #[x,y] w (.bool ((k==k')&&(a==a')&&(b==b')&&(s.toList==s'.toList))):=by
 obtain⟨t,f,v,rfl,hm,hf,g1⟩:=hx;obtain⟨t',f',v',rfl,hm',hf',g2⟩:=hy;have H1:Hid _:=g1;have H2:Hid _:=g2;have he:=zTX k a b k' a' b' s s';generalize ((k==k')&&(a==a')&&(b==b')&&(s.toList==s'.toList))=q at he⊢;clear g1 g2
 go_enter func84,ntmps84
 go_wp2_with fail
 refine(H1.out _).mono ?_;rintro e w1 ⟨rfl,hb1⟩
 go_wp2_with fail
 refine(H2.out _).mono ?_;rintro e w2 ⟨rfl,hb2⟩
 go_wp2
 go_ret;exact⟨rfl,hb1.trans hb2⟩
theorem zTY(m:Int)(y:Value)(k a b k' a' b':Int)(s s':ByteArray)(hx:IVal (.iface 135 (.int .i64 m)) k a b s)(hy:IVal y k' a' b' s')(h2:∀w,(Instr.typeAssert y 49 136 true).run prog w=.ok (.tuple #[.complex .f64 0 0,.bool false]) w)(w:World) :
  CG 84 #[.iface 135 (.int .i64 m),y] w (.bool ((k==k')&&(a==a')&&(b==b')&&(s.toList==s'.toList))):=by
 have h1:=zAr (.int .i64 m);have h3:=zCP (.int .i64 m);generalize hz:Value.iface 135 (.int .i64 m)=z at hx h1 h3⊢;clear hz;obtain⟨t,f,v,rfl,hm,hf,g1⟩:=hx;obtain⟨t',f',v',rfl,hm',hf',g2⟩:=hy;have H1:Hid _:=g1;have H2:Hid _:=g2;have he:=zTX k a b k' a' b' s s';generalize ((k==k')&&(a==a')&&(b==b')&&(s.toList==s'.toList))=q at he⊢;clear g1 g2
 go_enter func84,ntmps84
 go_wp2_with fail
 refine(H1.out _).mono ?_;rintro e w1 ⟨rfl,hb1⟩
 go_wp2_with fail
 refine(H2.out _).mono ?_;rintro e w2 ⟨rfl,hb2⟩
 go_wp2
 go_ret;exact⟨rfl,hb1.trans hb2⟩
theorem zT0(p q:Nat)(y:Value)(k a b k' a' b':Int)(s s':ByteArray)(hx:IVal (.iface 136 (.complex .f64 p q)) k a b s)(hy:IVal y k' a' b' s')(h2:∀w,(Instr.typeAssert y 49 135 true).run prog w=.ok (.tuple #[.int .i64 0,.bool false]) w)(w:World) :
  CG 84 #[.iface 136 (.complex .f64 p q),y] w (.bool ((k==k')&&(a==a')&&(b==b')&&(s.toList==s'.toList))):=by
 have h1:=zAN (.complex .f64 p q);have h3:=zC4 (.complex .f64 p q);generalize hz:Value.iface 136 (.complex .f64 p q)=z at hx h1 h3⊢;clear hz;obtain⟨t,f,v,rfl,hm,hf,g1⟩:=hx;obtain⟨t',f',v',rfl,hm',hf',g2⟩:=hy;have H1:Hid _:=g1;have H2:Hid _:=g2;have he:=zTX k a b k' a' b' s s';generalize ((k==k')&&(a==a')&&(b==b')&&(s.toList==s'.toList))=q at he⊢;clear g1 g2
 go_enter func84,ntmps84
 go_wp2_with fail
 refine(H1.out _).mono ?_;rintro e w1 ⟨rfl,hb1⟩
 go_wp2_with fail
 refine(H2.out _).mono ?_;rintro e w2 ⟨rfl,hb2⟩
 go_wp2
 go_ret;exact⟨rfl,hb1.trans hb2⟩
theorem zRo(m:Int)(p q:Nat)(a b:Int)(hp:Fl p a)(hq:Fl q b)(ha:a.natAbs<2^53)(hb:b.natAbs<2^53)(w:World) :
  CG 116 #[.int .i64 m,.complex .f64 p q] w (.bool ((a==m)&&(b==0))):=by
 have H:Hid _:=zEb p q a b hp hq ha hb;clear hp hq ha hb
 by_cases c:a=m
 ·subst c
  generalize hr:(b==0)=r
  have hr':(a==a&&r)=r:=by simp
  rw[hr']
  go_enter func116,ntmps116
  go_wp2_with fail
  refine(H.out _).mono ?_;rintro e w1 ⟨rfl,rfl⟩
  go_wp2
  go_ret;exact⟨rfl,G.refl _⟩
 ·have c':(a==m)=false:=by simpa using c
  rw[c',Bool.false_and]
  go_enter func116,ntmps116
  go_wp2_with fail
  refine(H.out _).mono ?_;rintro e w1 ⟨rfl,rfl⟩
  go_wp2
  go_ret;exact⟨rfl,G.refl _⟩
theorem zP1(m:Int)(p q:Nat)(r:Bool)(h:∀w,CG 116 #[.int .i64 m,.complex .f64 p q] w (.bool r))(w:World) :
  CG 84 #[.iface 135 (.int .i64 m),.iface 136 (.complex .f64 p q)] w (.bool r):=by
 have H:Hid _:=h;have h1:=zAr (.int .i64 m);have h3:=zC4 (.complex .f64 p q);clear h
 go_enter func84,ntmps84
 go_wp2_with fail
 refine(H.out _).mono ?_;rintro e w1 ⟨rfl,hb1⟩
 go_wp2
 go_ret;exact⟨rfl,hb1⟩
theorem zP2(m:Int)(p q:Nat)(r:Bool)(h:∀w,CG 116 #[.int .i64 m,.complex .f64 p q] w (.bool r))(w:World) :
  CG 84 #[.iface 136 (.complex .f64 p q),.iface 135 (.int .i64 m)] w (.bool r):=by
 have H:Hid _:=h;have h0:=zAN (.complex .f64 p q);have h1:=zAr (.int .i64 m);have h3:=zC4 (.complex .f64 p q);clear h
 go_enter func84,ntmps84
 go_wp2_with fail
 refine(H.out _).mono ?_;rintro e w1 ⟨rfl,hb1⟩
 go_wp2
 go_ret;exact⟨rfl,hb1⟩
def eqP(k a b k' a' b':Int)(s s':ByteArray):Bool:=
 if k=2∧k'=3 then(a'==a)&&(b'==0)else if k=3∧k'=2 then(a==a')&&(b==0)else(k==k')&&(a==a')&&(b==b')&&(s.toList==s'.toList)
theorem zGX(k a b k' a' b':Int)(s s':ByteArray)(hok:okV k a b s=true)(hok':okV k' a' b' s'=true)(w:World) :
  CG 84 #[zAb k a b s,zAb k' a' b' s'] w (.bool (eqP k a b k' a' b' s s')):=by
 have hx:=zAA k a b s hok;have hy:=zAA k' a' b' s' hok';unfold eqP
 by_cases c2:k=2
 ·subst c2
  obtain⟨rfl,rfl⟩:=ok_2 hok;rw[zAP hok] at hx⊢
  by_cases c3:k'=3
  ·subst c3
   obtain⟨⟨a1,a2⟩,⟨b1,b2⟩,rfl⟩:=ok_3 hok';rw[zBO hok',if_pos ⟨rfl,rfl⟩];exact zP1 a _ _ _ (zRo a _ _ a' b' (Fl.ofInt a' (by omega)) (Fl.ofInt b' (by omega)) (by omega) (by omega)) w
  ·rw[if_neg (by omega),if_neg (by omega)]
   exact zTY a _ 2 a 0 k' a' b' E0 s' hx hy (zRz k' a' b' s' hok' c3) w
 ·by_cases c3:k=3
  ·subst c3
   obtain⟨⟨a1,a2⟩,⟨b1,b2⟩,rfl⟩:=ok_3 hok;rw[zBO hok] at hx⊢
   by_cases c4:k'=2
   ·subst c4
    obtain⟨rfl,rfl⟩:=ok_2 hok';rw[zAP hok',if_neg (by omega),if_pos ⟨rfl,rfl⟩];exact zP2 a' _ _ _ (zRo a' _ _ a b (Fl.ofInt a (by omega)) (Fl.ofInt b (by omega)) (by omega) (by omega)) w
   ·rw[if_neg (by omega),if_neg (by omega)]
    exact zT0 _ _ _ 3 a b k' a' b' E0 s' hx hy (zBH k' a' b' s' hok' c4) w
  ·rw[if_neg (by omega),if_neg (by omega)]
   exact zTZ _ _ k a b k' a' b' s s' hx hy (zBH k a b s hok c2) (zRz k a b s hok c3) w
theorem fld0(k a b:Int)(s:ByteArray)(w:World):(Instr.field 31 (V k a b s) 0).run prog w=.ok (.int .i64 k) w:=by kernel_rfl
theorem zX2(x y:Value)(h1:∀w,(Instr.typeAssert x 49 135 true).run prog w=.ok (.tuple #[.int .i64 0,.bool false]) w)(h2:∀w,(Instr.typeAssert x 49 137 true).run prog w=.ok (.tuple #[.string E0,.bool false]) w)(h3:∀w,(Instr.typeAssert x 49 111 true).run prog w=.ok (.tuple #[.bool false,.bool false]) w)(w:World):CG 117 #[x,y] w (.bool false):=by
 go_enter func117,ntmps117
 go_wp2
 go_ret;exact⟨rfl,G.refl _⟩
theorem ho_w(m:Int)(y:Value)(k a b k' a' b':Int)(s s':ByteArray)(hx:IVal (.iface 135 (.int .i64 m)) k a b s)(hy:IVal y k' a' b' s')(w:World):CG 117 #[.iface 135 (.int .i64 m),y] w (.bool (k==k')):=by
 have h1:=zAr (.int .i64 m);have h2:=zA8 (.int .i64 m);have h3:=zB2 (.int .i64 m);generalize hz:Value.iface 135 (.int .i64 m)=z at hx h1 h2 h3⊢;clear hz;obtain⟨t,f,v,rfl,hm,hf,g1⟩:=hx;obtain⟨t',f',v',rfl,hm',hf',g2⟩:=hy;have H1:Hid _:=g1;have H2:Hid _:=g2;have f1:=fld0 k a b s;have f2:=fld0 k' a' b' s';generalize hq:(k==k')=q;clear g1 g2
 go_enter func117,ntmps117
 go_wp2_with fail
 refine(H1.out _).mono ?_;rintro e w1 ⟨rfl,hb1⟩
 go_wp2_with fail
 refine(H2.out _).mono ?_;rintro e w2 ⟨rfl,hb2⟩
 go_wp2
 go_ret;exact⟨rfl,hb1.trans hb2⟩
theorem ho_s(m:ByteArray)(y:Value)(k a b k' a' b':Int)(s s':ByteArray)(hx:IVal (.iface 137 (.string m)) k a b s)(hy:IVal y k' a' b' s')(w:World):CG 117 #[.iface 137 (.string m),y] w (.bool (k==k')):=by
 have h1:=zCR (.string m);have h2:=zAt (.string m);have h3:=zCS (.string m);generalize hz:Value.iface 137 (.string m)=z at hx h1 h2 h3⊢;clear hz;obtain⟨t,f,v,rfl,hm,hf,g1⟩:=hx;obtain⟨t',f',v',rfl,hm',hf',g2⟩:=hy;have H1:Hid _:=g1;have H2:Hid _:=g2;have f1:=fld0 k a b s;have f2:=fld0 k' a' b' s';generalize hq:(k==k')=q;clear g1 g2
 go_enter func117,ntmps117
 go_wp2_with fail
 refine(H1.out _).mono ?_;rintro e w1 ⟨rfl,hb1⟩
 go_wp2_with fail
 refine(H2.out _).mono ?_;rintro e w2 ⟨rfl,hb2⟩
 go_wp2
 go_ret;exact⟨rfl,hb1.trans hb2⟩
theorem ho_t(m:Bool)(y:Value)(k a b k' a' b':Int)(s s':ByteArray)(hx:IVal (.iface 111 (.bool m)) k a b s)(hy:IVal y k' a' b' s')(w:World):CG 117 #[.iface 111 (.bool m),y] w (.bool (k==k')):=by
 have h1:=zB3 (.bool m);have h2:=zCQ (.bool m);have h3:=zB4 (.bool m);generalize hz:Value.iface 111 (.bool m)=z at hx h1 h2 h3⊢;clear hz;obtain⟨t,f,v,rfl,hm,hf,g1⟩:=hx;obtain⟨t',f',v',rfl,hm',hf',g2⟩:=hy;have H1:Hid _:=g1;have H2:Hid _:=g2;have f1:=fld0 k a b s;have f2:=fld0 k' a' b' s';generalize hq:(k==k')=q;clear g1 g2
 go_enter func117,ntmps117
 go_wp2_with fail
 refine(H1.out _).mono ?_;rintro e w1 ⟨rfl,hb1⟩
 go_wp2_with fail
 refine(H2.out _).mono ?_;rintro e w2 ⟨rfl,hb2⟩
 go_wp2
 go_ret;exact⟨rfl,hb1.trans hb2⟩
def hoP(k k':Int):Bool:=if k=1∨k=2∨k=4 then k==k' else false
theorem zJi(k a b k' a' b':Int)(s s':ByteArray)(hok:okV k a b s=true)(hok':okV k' a' b' s'=true)(w:World) :
  CG 117 #[zAb k a b s,zAb k' a' b' s'] w (.bool (hoP k k')):=by
 have hx:=zAA k a b s hok;have hy:=zAA k' a' b' s' hok';unfold hoP
 by_cases c1:k=1
 ·subst c1
  rw[if_pos (.inl rfl)];rw[zDu hok] at hx⊢;exact ho_t _ _ 1 a b k' a' b' s s' hx hy w
 by_cases c2:k=2
 ·subst c2
  rw[if_pos (.inr (.inl rfl))];rw[zAP hok] at hx⊢;exact ho_w _ _ 2 a b k' a' b' s s' hx hy w
 by_cases c4:k=4
 ·subst c4
  rw[if_pos (.inr (.inr rfl))];rw[zBB hok] at hx⊢;exact ho_s _ _ 4 a b k' a' b' s s' hx hy w
 rw[if_neg (by omega)];exact zX2 _ _ (zBH k a b s hok c2) (zCa k a b s hok c4) (zJN k a b s hok c1) w
theorem zVn(Rdy0:World→Prop)(hG0:∀W W1,Rdy0 W→G W W1→Rdy0 W1)(x y:Value)(c:Int)(h1:∀w,CG 117 #[x,y] w (.bool true))(h2:∀w,Rdy0 w→CG 48 #[x,y] w (.int .i64 c))(w:World)(hR:Rdy0 w) :
  Calls prog 85 #[.int .i64 8,x,y] w fun e w'=>e=.returned (.iface 111 (.bool (decide (c<0))))∧G w w':=by
 have H1:Hid _:=h1;have H2:Hid _:=h2;clear h1 h2
 go_enter func85,ntmps85
 go_wp2_with fail
 refine(H1.out _).mono ?_;rintro e w1 ⟨rfl,hb1⟩
 go_wp2_with fail
 refine(H2.out _ (hG0 _ _ hR hb1)).mono ?_;rintro e w2 ⟨rfl,hb2⟩
 go_wp2
 go_ret;exact⟨rfl,hb1.trans hb2⟩
theorem zVm(Rdy0:World→Prop)(hG0:∀W W1,Rdy0 W→G W W1→Rdy0 W1)(x y:Value)(c:Int)(h1:∀w,CG 117 #[x,y] w (.bool true))(h2:∀w,Rdy0 w→CG 48 #[x,y] w (.int .i64 c))(w:World)(hR:Rdy0 w) :
  Calls prog 85 #[.int .i64 9,x,y] w fun e w'=>e=.returned (.iface 111 (.bool (decide (c≤0))))∧G w w':=by
 have H1:Hid _:=h1;have H2:Hid _:=h2;clear h1 h2
 go_enter func85,ntmps85
 go_wp2_with fail
 refine(H1.out _).mono ?_;rintro e w1 ⟨rfl,hb1⟩
 go_wp2_with fail
 refine(H2.out _ (hG0 _ _ hR hb1)).mono ?_;rintro e w2 ⟨rfl,hb2⟩
 go_wp2
 go_ret;exact⟨rfl,hb1.trans hb2⟩
theorem zQ6(Rdy0:World→Prop)(hG0:∀W W1,Rdy0 W→G W W1→Rdy0 W1)(x y:Value)(c:Int)(h1:∀w,CG 117 #[x,y] w (.bool true))(h2:∀w,Rdy0 w→CG 48 #[x,y] w (.int .i64 c))(w:World)(hR:Rdy0 w) :
  Calls prog 85 #[.int .i64 10,x,y] w fun e w'=>e=.returned (.iface 111 (.bool (decide (0<c))))∧G w w':=by
 have H1:Hid _:=h1;have H2:Hid _:=h2;clear h1 h2
 go_enter func85,ntmps85
 go_wp2_with fail
 refine(H1.out _).mono ?_;rintro e w1 ⟨rfl,hb1⟩
 go_wp2_with fail
 refine(H2.out _ (hG0 _ _ hR hb1)).mono ?_;rintro e w2 ⟨rfl,hb2⟩
 go_wp2
 go_ret;exact⟨rfl,hb1.trans hb2⟩
theorem zQ5(Rdy0:World→Prop)(hG0:∀W W1,Rdy0 W→G W W1→Rdy0 W1)(x y:Value)(c:Int)(h1:∀w,CG 117 #[x,y] w (.bool true))(h2:∀w,Rdy0 w→CG 48 #[x,y] w (.int .i64 c))(w:World)(hR:Rdy0 w) :
  Calls prog 85 #[.int .i64 11,x,y] w fun e w'=>e=.returned (.iface 111 (.bool (decide (0≤c))))∧G w w':=by
 have H1:Hid _:=h1;have H2:Hid _:=h2;clear h1 h2
 go_enter func85,ntmps85
 go_wp2_with fail
 refine(H1.out _).mono ?_;rintro e w1 ⟨rfl,hb1⟩
 go_wp2_with fail
 refine(H2.out _ (hG0 _ _ hR hb1)).mono ?_;rintro e w2 ⟨rfl,hb2⟩
 go_wp2
 go_ret;exact⟨rfl,hb1.trans hb2⟩
theorem zDT(op:Int)(x y:Value)(h1:∀w,CG 117 #[x,y] w (.bool false))(w:World) :
  CG 85 #[.int .i64 op,x,y] w (.iface 110 (.agg #[])):=by
 have H1:Hid _:=h1;clear h1
 go_enter func85,ntmps85
 go_wp2_with fail
 refine(H1.out _).mono ?_;rintro e w1 ⟨rfl,hb1⟩
 go_wp2
 go_ret;exact⟨rfl,hb1⟩
theorem zRs(x y:Value)(h1:∀w,(Instr.typeAssert x 49 135 true).run prog w=.ok (.tuple #[.int .i64 0,.bool false]) w)(h2:∃z q,∀w,(Instr.typeAssert y 49 135 true).run prog w=.ok (.tuple #[.int .i64 z,.bool q]) w)(w:World):CG 87 #[x,y] w (.tuple #[.nilIface,.int .i64 10]):=by
 obtain⟨z,q,h2⟩:=h2
 go_enter func87,ntmps87
 go_wp2
 go_ret2
 exact⟨rfl,G.refl _⟩
theorem zWO(m:Int)(y:Value)(h1:∀w,(Instr.typeAssert y 49 135 true).run prog w=.ok (.tuple #[.int .i64 0,.bool false]) w)(w:World):CG 87 #[.iface 135 (.int .i64 m),y] w (.tuple #[.nilIface,.int .i64 10]):=by
 have h2:=zAr (.int .i64 m)
 go_enter func87,ntmps87
 go_wp2
 go_ret2
 exact⟨rfl,G.refl _⟩
theorem ipart(n:Int)(w:World):Calls prog 111 #[.int .i64 n] w fun e w'=>e=.returned (.bool (zAD n))∧w'=w:=by
 unfold zAD
 by_cases h1:-33554432≤n
 ·by_cases h2:n≤33554432
  ·rw[decide_eq_true h1,decide_eq_true h2]
   exact zFv n h1 h2 w
  ·rw[decide_eq_true h1,decide_eq_false h2]
   go_enter func111,ntmps111
   go_wp2
   go_ret;exact⟨rfl,rfl⟩
 ·rw[decide_eq_false h1,Bool.false_and]
  go_enter func111,ntmps111
  go_wp2
  go_ret;exact⟨rfl,rfl⟩
theorem zYp(m n:Int)(w:World):Calls prog 87 #[.iface 135 (.int .i64 m),.iface 135 (.int .i64 n)] w fun e w'=>e=.returned (.tuple (if zAD m&&zAD n then #[.iface 136 (.complex .f64 (fl m) (fl n)),.int .i64 0] else #[.nilIface,.int .i64 11]))∧G w w':=by
 have h1:=zAr (.int .i64 m);have h2:=zAr (.int .i64 n);have H1:Hid _:=ipart m;have H2:Hid _:=ipart n;generalize zAD m=p at H1⊢;generalize zAD n=r at H2⊢;cases p<;>cases r
 iterate 2
  ·go_enter func87,ntmps87
   go_wp2_with fail
   refine(H1.out _).mono ?_;rintro e w1 ⟨rfl,rfl⟩
   go_wp2
   go_ret2
   exact⟨rfl,G.refl _⟩
 iterate 2
  ·go_enter func87,ntmps87
   go_wp2_with fail
   refine(H1.out _).mono ?_;rintro e w1 ⟨rfl,rfl⟩
   go_wp2_with fail
   refine(H2.out _).mono ?_;rintro e w1 ⟨rfl,rfl⟩
   go_wp2
   go_ret2
   exact⟨rfl,G.refl _⟩
end
end Go.Proofs.YthmdjhfbhbheeaaGreatDoor
