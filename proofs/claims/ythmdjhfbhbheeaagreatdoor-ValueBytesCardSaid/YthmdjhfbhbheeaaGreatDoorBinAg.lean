import Derived.BigQuiet
import Derived.Test.YthmdjhfbhbheeaaGreatDoorShelf2
import Derived.Test.YthmdjhfbhbheeaaGreatDoorRefBin
namespace Go.Proofs.YthmdjhfbhbheeaaGreatDoor
open Go.Proofs.Tryz
set_option maxHeartbeats 1000000
set_option maxRecDepth 100000
section
open Go.RowKit Go.Lib Go.Shelf
def Mx(w:World):Prop:=3<w.heap.size∧∃m,w.cell? ⟨3,0,none⟩=some (.int .i64 m)
theorem Mx.G{w w':World}(h:Mx w)(g:G w w'):Mx w':=⟨Nat.lt_of_lt_of_le h.1 g.size,h.2.imp fun _ hm=>(g.cell h.1).trans hm⟩
theorem zWj(s p:ByteArray)(w:World):Calls prog 118 #[.string s,.string p] w fun e w'=>e=.returned (.bool (hasPrefix s.data.toList p.data.toList))∧w'=w:=
 Any.strings_HasPrefix Tryz.laysHasPrefix s p w
theorem zWi(s p:ByteArray)(h:s.size≤4611686018427387903)(w:World):Calls prog 119 #[.string s,.string p] w fun e w'=>e=.returned (.bool (hasSuffix s.data.toList p.data.toList))∧w'=w:=
 Any.strings_HasSuffix Tryz.laysHasSuffix s p w (by omega)
theorem zWM(s p:ByteArray)(h:s.size≤32)(w:World)(hm:Mx w):Calls prog 120 #[.string s,.string p] w fun e w'=>e=.returned (.bool (contains s.data.toList p.data.toList))∧w'=w:=by
 obtain⟨_,m,hc⟩:=hm;exact Any.strings_Contains Tryz.laysContains s p m w (by omega) hc
theorem zFd(op:Int)(x y:Value)(h1:∀w,(Instr.typeAssert x 49 137 true).run prog w=.ok (.tuple #[.string E0,.bool false]) w)(z:ByteArray)(q:Bool)(h2:∀w,(Instr.typeAssert y 49 137 true).run prog w=.ok (.tuple #[.string z,.bool q]) w)(w:World):CG 86 #[.int .i64 op,x,y] w (.tuple #[.nilIface,.int .i64 10]):=by
 go_enter func86,ntmps86
 go_wp2
 go_ret2
 exact⟨rfl,G.refl _⟩
theorem zLx(op:Int)(s:ByteArray)(y:Value)(h2:∀w,(Instr.typeAssert y 49 137 true).run prog w=.ok (.tuple #[.string E0,.bool false]) w)(w:World):CG 86 #[.int .i64 op,.iface 137 (.string s),y] w (.tuple #[.nilIface,.int .i64 10]):=by
 have a1:=zAt (.string s)
 go_enter func86,ntmps86
 go_wp2
 go_ret2
 exact⟨rfl,G.refl _⟩
theorem zXk(s s':ByteArray)(q:Bool)(w:World)(h:Calls prog 118 #[.string s,.string s'] w fun e w'=>e=.returned (.bool q)∧w'=w):CG 86 #[.int .i64 15,.iface 137 (.string s),.iface 137 (.string s')] w (.tuple #[.iface 111 (.bool q),.int .i64 0]):=by
 have a1:=zAt (.string s);have a2:=zAt (.string s');have H:Hid _:=h;clear h
 go_enter func86,ntmps86
 go_wp2_with fail
 refine Calls.mono (Hid.out H) ?_;rintro e w1 ⟨rfl,rfl⟩
 go_wp2
 go_ret2
 exact⟨rfl,G.refl _⟩
theorem zXj(s s':ByteArray)(q:Bool)(w:World)(h:Calls prog 119 #[.string s,.string s'] w fun e w'=>e=.returned (.bool q)∧w'=w):CG 86 #[.int .i64 17,.iface 137 (.string s),.iface 137 (.string s')] w (.tuple #[.iface 111 (.bool q),.int .i64 0]):=by
 have a1:=zAt (.string s);have a2:=zAt (.string s');have H:Hid _:=h;clear h
 go_enter func86,ntmps86
 go_wp2_with fail
 refine Calls.mono (Hid.out H) ?_;rintro e w1 ⟨rfl,rfl⟩
 go_wp2
 go_ret2
 exact⟨rfl,G.refl _⟩
theorem zXi(s s':ByteArray)(q:Bool)(w:World)(h:Calls prog 120 #[.string s,.string s'] w fun e w'=>e=.returned (.bool q)∧w'=w):CG 86 #[.int .i64 18,.iface 137 (.string s),.iface 137 (.string s')] w (.tuple #[.iface 111 (.bool q),.int .i64 0]):=by
 have a1:=zAt (.string s);have a2:=zAt (.string s');have H:Hid _:=h;clear h
 go_enter func86,ntmps86
 go_wp2_with fail
 refine Calls.mono (Hid.out H) ?_;rintro e w1 ⟨rfl,rfl⟩
 go_wp2
 go_ret2
 exact⟨rfl,G.refl _⟩
theorem zHw(op k a b k' a' b':Int)(s s':ByteArray)(h:(k==4)=false)(w:World):CG 45 #[.int .i64 op,V k a b s,V k' a' b' s'] w (.tuple #[V0,.int .i64 10]):=by
 have h':(k != 4)=true:=by rw[bne,h];rfl
 go_enter func45,ntmps45
 go_wp2
 exact bodyPost_ret (v:=.tuple #[V0,.int .i64 10]) (by simp[results,results45,go_sem]) rfl ⟨rfl,by
  repeat(first|exact G.refl _|refine G.alloc ?_ _|refine G.setCell ?_ (by simp;try omega) _)⟩
theorem zHv(op a b k' a' b':Int)(s s':ByteArray)(h:(k'==4)=false)(w:World):CG 45 #[.int .i64 op,V 4 a b s,V k' a' b' s'] w (.tuple #[V0,.int .i64 10]):=by
 have h':(k' != 4)=true:=by rw[bne,h];rfl
 go_enter func45,ntmps45
 go_wp2
 exact bodyPost_ret (v:=.tuple #[V0,.int .i64 10]) (by simp[results,results45,go_sem]) rfl ⟨rfl,by
  repeat(first|exact G.refl _|refine G.alloc ?_ _|refine G.setCell ?_ (by simp;try omega) _)⟩
theorem zLq(s s':ByteArray)(i:Nat):((s.extract i (i+s'.size)).toList==s'.toList)=occAt s.data.toList s'.data.toList i:=by
 rw[ByteArray.toList_eq,ByteArray.toList_eq]
 have e:(s.extract i (i+s'.size)).data.toList=(s.data.toList.drop i).take s'.data.toList.length:=by
  simp[ByteArray.data_extract,List.take_drop]
 rw[e];unfold occAt;generalize s'.data.toList=p;generalize s.data.toList.drop i=l;rw[Bool.eq_iff_iff,beq_iff_eq,List.isPrefixOf_iff_prefix,List.prefix_iff_eq_take];exact eq_comm
def wq15(s s':ByteArray):Prop:=∃j,j+s'.size≤s.size∧(j=0)∧occAt s.data.toList s'.data.toList j=true
theorem zUT(a b a' b':Int)(s s':ByteArray)(hs:s.size≤4611686018427387903)(hs':s'.size≤4611686018427387903)(w:World) :
  Calls prog 45 #[.int .i64 15,V 4 a b s,V 4 a' b' s'] w fun e w'=>(∃q:Bool,e=.returned (.tuple #[V 1 (tI q) 0 E0,.int .i64 0])∧(q=true↔wq15 s s'))∧G w w':=by
 have HS:∀i,Hid (((s.extract i (i+s'.size)).toList==s'.toList)=occAt s.data.toList s'.data.toList i):=fun i=>zLq s s' i
 go_enter func45,ntmps45
 go_wp2
 go_loopw [9] (fun i W=>∃m:Nat,(m:Int)≤max 0 ((s.size:Int)-s'.size+1)∧i=.int .i64 m∧(∃n,W=(((w.alloc (.cells #[I 4,I a,I b,.string s] 31)).alloc (.cells #[I 4,I a',I b',.string s'] 31)).alloc (.cells #[I 0,I 0,I 0,.string E0] 31)).drewN n)∧Hid (∀j,j<m→(j=0)→occAt s.data.toList s'.data.toList j=false)) (fun i _=>s.size+1-(RowKit.intOf i).toNat)
 case atStart=>exact⟨0,by omega,rfl,⟨0,rfl⟩,fun j hj=>absurd hj (Nat.not_lt_zero j)⟩
 case round=>
  obtain⟨m,hm,rfl,⟨n,rfl⟩,HI⟩:=hrel
  by_cases hr:(m:Int)≤(s.size:Int)-s'.size
  ·have i1:m+s'.size≤s.size:=by omega
   have i2:wrap64 ((m:Int)+(s'.size:Int))=(m:Int)+(s'.size:Int):=by unfold wrap64;omega
   by_cases hz:m=0
   ·have hz':((m:Int)==0)=true:=by simp;omega
    have HZ:Hid _:=hz;clear hz
    by_cases ho:occAt s.data.toList s'.data.toList m=true
    ·have hq:wq15 s s':=⟨m,i1,HZ.out,ho⟩
     have he:((s.extract m (m+s'.size)).toList==s'.toList)=true:=by rw[(HS m).out];exact ho
     have HQ:Hid _:=hq;clear hq
     go_wp2
     go_quiet (fail)
     go_wp2_with fail
     refine(zAx _).mono ?_;rintro e w1 ⟨rfl,hb1⟩;have g1:G w w1:=((((((G.refl w).alloc _).alloc _).alloc _).drewK _)).trans hb1;obtain⟨hc1,hf1⟩:=hb1.rules
     go_wp2
     exact bodyPost_ret (v:=.tuple #[V 1 1 0 E0,.int .i64 0]) (by simp[results,results45,go_sem,hc1]) rfl ⟨⟨true,rfl,fun _=>HQ.out,fun _=>rfl⟩,by
      repeat(first|exact g1|refine G.alloc ?_ _|refine G.setCell ?_ (by simp;try omega) _)⟩
    ·have ho':occAt s.data.toList s'.data.toList m=false:=by simpa using ho
     have he:((s.extract m (m+s'.size)).toList==s'.toList)=false:=by rw[(HS m).out];exact ho'
     have HO:Hid _:=ho';clear ho ho'
     go_wp2
     go_quiet (fail)
     go_wp2
     go_roundw
     case rel=>exact⟨m+1,by omega,by go_num,by first|exact⟨_,rfl⟩|exact⟨_,World.drewN_drewN _ _ _⟩,fun j hj hp=>by
      rcases Nat.lt_or_ge j m with c|c
      ·exact HI.out j c hp
      ·have e:j=m:=by omega
       rw[e];exact HO.out⟩
     case measure=>simp[RowKit.intOf];omega
   ·have hz':((m:Int)==0)=false:=by simp;omega
    have HN:Hid (¬m=0):=hz;clear hz
    go_wp2
    go_quiet (fail)
    go_wp2
    go_roundw
    case rel=>exact⟨m+1,by omega,by go_num,by first|exact⟨_,rfl⟩|exact⟨_,World.drewN_drewN _ _ _⟩,fun j hj hp=>by
     rcases Nat.lt_or_ge j m with c|c
     ·exact HI.out j c hp
     ·have e:j=m:=by omega
      subst e
      exact absurd hp HN.out⟩
    case measure=>simp[RowKit.intOf];omega
  ·have hn:¬wq15 s s':=fun ⟨j,h1,h2,h3⟩=>by
    have:=HI.out j (by omega) h2;rw[this] at h3;cases h3
   have HQ:Hid _:=hn;clear hn
   go_wp2_with fail
   refine(zAL _).mono ?_;rintro e w1 ⟨rfl,hb1⟩;have g1:G w w1:=(((((G.refl w).alloc _).alloc _).alloc _).drewK _).trans hb1;obtain⟨hc1,hf1⟩:=hb1.rules
   go_wp2
   exact bodyPost_ret (v:=.tuple #[V 1 0 0 E0,.int .i64 0]) (by simp[results,results45,go_sem,hc1]) rfl ⟨⟨false,rfl,fun h=>Bool.noConfusion h,fun h=>absurd h HQ.out⟩,by
    repeat(first|exact g1|refine G.alloc ?_ _|refine G.setCell ?_ (by simp;try omega) _)⟩
def wq17(s s':ByteArray):Prop:=∃j,j+s'.size≤s.size∧(j+s'.size=s.size)∧occAt s.data.toList s'.data.toList j=true
theorem zUS(a b a' b':Int)(s s':ByteArray)(hs:s.size≤4611686018427387903)(hs':s'.size≤4611686018427387903)(w:World) :
  Calls prog 45 #[.int .i64 17,V 4 a b s,V 4 a' b' s'] w fun e w'=>(∃q:Bool,e=.returned (.tuple #[V 1 (tI q) 0 E0,.int .i64 0])∧(q=true↔wq17 s s'))∧G w w':=by
 have HS:∀i,Hid (((s.extract i (i+s'.size)).toList==s'.toList)=occAt s.data.toList s'.data.toList i):=fun i=>zLq s s' i
 go_enter func45,ntmps45
 go_wp2
 go_loopw [9] (fun i W=>∃m:Nat,(m:Int)≤max 0 ((s.size:Int)-s'.size+1)∧i=.int .i64 m∧(∃n,W=(((w.alloc (.cells #[I 4,I a,I b,.string s] 31)).alloc (.cells #[I 4,I a',I b',.string s'] 31)).alloc (.cells #[I 0,I 0,I 0,.string E0] 31)).drewN n)∧Hid (∀j,j<m→(j+s'.size=s.size)→occAt s.data.toList s'.data.toList j=false)) (fun i _=>s.size+1-(RowKit.intOf i).toNat)
 case atStart=>exact⟨0,by omega,rfl,⟨0,rfl⟩,fun j hj=>absurd hj (Nat.not_lt_zero j)⟩
 case round=>
  obtain⟨m,hm,rfl,⟨n,rfl⟩,HI⟩:=hrel
  by_cases hr:(m:Int)≤(s.size:Int)-s'.size
  ·have i1:m+s'.size≤s.size:=by omega
   have i2:wrap64 ((m:Int)+(s'.size:Int))=(m:Int)+(s'.size:Int):=by unfold wrap64;omega
   by_cases hz:m+s'.size=s.size
   ·have hz':((m:Int)==(s.size:Int)-(s'.size:Int))=true:=by simp;omega
    have HZ:Hid _:=hz;clear hz
    by_cases ho:occAt s.data.toList s'.data.toList m=true
    ·have hq:wq17 s s':=⟨m,i1,HZ.out,ho⟩
     have he:((s.extract m (m+s'.size)).toList==s'.toList)=true:=by rw[(HS m).out];exact ho
     have HQ:Hid _:=hq;clear hq
     go_wp2
     go_quiet (fail)
     go_wp2_with fail
     refine(zAx _).mono ?_;rintro e w1 ⟨rfl,hb1⟩;have g1:G w w1:=((((((G.refl w).alloc _).alloc _).alloc _).drewK _)).trans hb1;obtain⟨hc1,hf1⟩:=hb1.rules
     go_wp2
     exact bodyPost_ret (v:=.tuple #[V 1 1 0 E0,.int .i64 0]) (by simp[results,results45,go_sem,hc1]) rfl ⟨⟨true,rfl,fun _=>HQ.out,fun _=>rfl⟩,by
      repeat(first|exact g1|refine G.alloc ?_ _|refine G.setCell ?_ (by simp;try omega) _)⟩
    ·have ho':occAt s.data.toList s'.data.toList m=false:=by simpa using ho
     have he:((s.extract m (m+s'.size)).toList==s'.toList)=false:=by rw[(HS m).out];exact ho'
     have HO:Hid _:=ho';clear ho ho'
     go_wp2
     go_quiet (fail)
     go_wp2
     go_roundw
     case rel=>exact⟨m+1,by omega,by go_num,by first|exact⟨_,rfl⟩|exact⟨_,World.drewN_drewN _ _ _⟩,fun j hj hp=>by
      rcases Nat.lt_or_ge j m with c|c
      ·exact HI.out j c hp
      ·have e:j=m:=by omega
       rw[e];exact HO.out⟩
     case measure=>simp[RowKit.intOf];omega
   ·have hz':((m:Int)==(s.size:Int)-(s'.size:Int))=false:=by simp;omega
    have HN:Hid (¬m+s'.size=s.size):=hz;clear hz
    go_wp2
    go_quiet (fail)
    go_wp2
    go_roundw
    case rel=>exact⟨m+1,by omega,by go_num,by first|exact⟨_,rfl⟩|exact⟨_,World.drewN_drewN _ _ _⟩,fun j hj hp=>by
     rcases Nat.lt_or_ge j m with c|c
     ·exact HI.out j c hp
     ·have e:j=m:=by omega
      subst e
      exact absurd hp HN.out⟩
    case measure=>simp[RowKit.intOf];omega
  ·have hn:¬wq17 s s':=fun ⟨j,h1,h2,h3⟩=>by
    have:=HI.out j (by omega) h2;rw[this] at h3;cases h3
   have HQ:Hid _:=hn;clear hn
   go_wp2_with fail
   refine(zAL _).mono ?_;rintro e w1 ⟨rfl,hb1⟩;have g1:G w w1:=(((((G.refl w).alloc _).alloc _).alloc _).drewK _).trans hb1;obtain⟨hc1,hf1⟩:=hb1.rules
   go_wp2
   exact bodyPost_ret (v:=.tuple #[V 1 0 0 E0,.int .i64 0]) (by simp[results,results45,go_sem,hc1]) rfl ⟨⟨false,rfl,fun h=>Bool.noConfusion h,fun h=>absurd h HQ.out⟩,by
    repeat(first|exact g1|refine G.alloc ?_ _|refine G.setCell ?_ (by simp;try omega) _)⟩
def wq18(s s':ByteArray):Prop:=∃j,j+s'.size≤s.size∧(True)∧occAt s.data.toList s'.data.toList j=true
theorem zUR(a b a' b':Int)(s s':ByteArray)(hs:s.size≤4611686018427387903)(hs':s'.size≤4611686018427387903)(w:World) :
  Calls prog 45 #[.int .i64 18,V 4 a b s,V 4 a' b' s'] w fun e w'=>(∃q:Bool,e=.returned (.tuple #[V 1 (tI q) 0 E0,.int .i64 0])∧(q=true↔wq18 s s'))∧G w w':=by
 have HS:∀i,Hid (((s.extract i (i+s'.size)).toList==s'.toList)=occAt s.data.toList s'.data.toList i):=fun i=>zLq s s' i
 go_enter func45,ntmps45
 go_wp2
 go_loopw [9] (fun i W=>∃m:Nat,(m:Int)≤max 0 ((s.size:Int)-s'.size+1)∧i=.int .i64 m∧(∃n,W=(((w.alloc (.cells #[I 4,I a,I b,.string s] 31)).alloc (.cells #[I 4,I a',I b',.string s'] 31)).alloc (.cells #[I 0,I 0,I 0,.string E0] 31)).drewN n)∧Hid (∀j,j<m→(True)→occAt s.data.toList s'.data.toList j=false)) (fun i _=>s.size+1-(RowKit.intOf i).toNat)
 case atStart=>exact⟨0,by omega,rfl,⟨0,rfl⟩,fun j hj=>absurd hj (Nat.not_lt_zero j)⟩
 case round=>
  obtain⟨m,hm,rfl,⟨n,rfl⟩,HI⟩:=hrel
  by_cases hr:(m:Int)≤(s.size:Int)-s'.size
  ·have i1:m+s'.size≤s.size:=by omega
   have i2:wrap64 ((m:Int)+(s'.size:Int))=(m:Int)+(s'.size:Int):=by unfold wrap64;omega
   by_cases ho:occAt s.data.toList s'.data.toList m=true
   ·have hq:wq18 s s':=⟨m,i1,trivial,ho⟩
    have he:((s.extract m (m+s'.size)).toList==s'.toList)=true:=by rw[(HS m).out];exact ho
    have HQ:Hid _:=hq;clear hq
    go_wp2
    go_quiet (fail)
    go_wp2_with fail
    refine(zAx _).mono ?_;rintro e w1 ⟨rfl,hb1⟩;have g1:G w w1:=((((((G.refl w).alloc _).alloc _).alloc _).drewK _)).trans hb1;obtain⟨hc1,hf1⟩:=hb1.rules
    go_wp2
    exact bodyPost_ret (v:=.tuple #[V 1 1 0 E0,.int .i64 0]) (by simp[results,results45,go_sem,hc1]) rfl ⟨⟨true,rfl,fun _=>HQ.out,fun _=>rfl⟩,by
     repeat(first|exact g1|refine G.alloc ?_ _|refine G.setCell ?_ (by simp;try omega) _)⟩
   ·have ho':occAt s.data.toList s'.data.toList m=false:=by simpa using ho
    have he:((s.extract m (m+s'.size)).toList==s'.toList)=false:=by rw[(HS m).out];exact ho'
    have HO:Hid _:=ho';clear ho ho'
    go_wp2
    go_quiet (fail)
    go_wp2
    go_roundw
    case rel=>exact⟨m+1,by omega,by go_num,by first|exact⟨_,rfl⟩|exact⟨_,World.drewN_drewN _ _ _⟩,fun j hj hp=>by
     rcases Nat.lt_or_ge j m with c|c
     ·exact HI.out j c hp
     ·have e:j=m:=by omega
      rw[e];exact HO.out⟩
    case measure=>simp[RowKit.intOf];omega
  ·have hn:¬wq18 s s':=fun ⟨j,h1,h2,h3⟩=>by
    have:=HI.out j (by omega) h2;rw[this] at h3;cases h3
   have HQ:Hid _:=hn;clear hn
   go_wp2_with fail
   refine(zAL _).mono ?_;rintro e w1 ⟨rfl,hb1⟩;have g1:G w w1:=(((((G.refl w).alloc _).alloc _).alloc _).drewK _).trans hb1;obtain⟨hc1,hf1⟩:=hb1.rules
   go_wp2
   exact bodyPost_ret (v:=.tuple #[V 1 0 0 E0,.int .i64 0]) (by simp[results,results45,go_sem,hc1]) rfl ⟨⟨false,rfl,fun h=>Bool.noConfusion h,fun h=>absurd h HQ.out⟩,by
    repeat(first|exact g1|refine G.alloc ?_ _|refine G.setCell ?_ (by simp;try omega) _)⟩
end
section
open Go.RowKit Go.Lib Go.Shelf
def RdyB(w:World):Prop:=Tabs w∧Rks w∧Mx w
theorem RdyB.G{w w':World}(h:RdyB w)(g:G w w'):RdyB w':=⟨h.1.G g,h.2.1.G g,h.2.2.G g⟩
theorem zAd:∀W W1,RdyB W→G W W1→RdyB W1:=fun _ _ h g=>h.G g
def AgB(op k a b k' a' b':Int)(s s':ByteArray):Prop:=∃(rk ra rb:Int) (rs:ByteArray) (c:Int),(∀w,RdyB w→CG 16 #[.int .i64 op,V k a b s,V k' a' b' s'] w (.tuple #[V rk ra rb rs,.int .i64 c]))∧
 (∀w,CG 17 #[.int .i64 op,V k a b s,V k' a' b' s'] w (.tuple #[V rk ra rb rs,.int .i64 c]))
theorem bag{op k a b k' a' b':Int}{s s':ByteArray}(ho:1≤op)(ho':op≤18)(hok:okV k a b s=true)(hok':okV k' a' b' s'=true)(rv:Value)(c rk ra rb:Int)(rs:ByteArray)
  (h3:∀w,RdyB w→CG 41 #[.int .i64 op,zAb k a b s,zAb k' a' b' s'] w (.tuple #[rv,.int .i64 c]))
  (h4:∀w,CG 35 #[rv,.int .i64 c] w (.tuple #[V rk ra rb rs,.int .i64 c]))
  (h5:∀w,CG 17 #[.int .i64 op,V k a b s,V k' a' b' s'] w (.tuple #[V rk ra rb rs,.int .i64 c])):AgB op k a b k' a' b' s s':=
 ⟨rk,ra,rb,rs,c,fun w hR=>zK7 RdyB zAd op k a b k' a' b' s s' ho ho' hok hok' _ _ rv c c rk ra rb rs rfl rfl h3 h4 w hR.1 hR,h5⟩
theorem rvok{k a b:Int}{s:ByteArray}(hok:okV k a b s=true)(hs:s.size≤4611686018427387904):∀w,CG 26 #[V k a b s] w (.bool true):=zD4 true hs hok
theorem zAR:okV 1 0 0 E0=true:=by
 have h:E0.toList=[]:=by rw[ByteArray.toList_eq]
 simp[okV,h]
theorem zAQ:okV 1 1 0 E0=true:=by
 have h:E0.toList=[]:=by rw[ByteArray.toList_eq]
 simp[okV,h]
theorem zC8:zAb 1 0 0 E0=.iface 111 (.bool false):=by rw[zDu (a:=0) zAR];rfl
theorem zC7:zAb 1 1 0 E0=.iface 111 (.bool true):=by rw[zDu (a:=1) zAQ];rfl
theorem zCJ:zAb 0 0 0 E0=.iface 110 (.agg #[]):=zEK zAn
theorem zQO:AgB 12 1 0 0 1 0 0 E0 E0:=by
 refine bag (by decide) (by decide) zAR zAR (.iface 111 (.bool false)) 0 _ _ _ _ ?_ zA1 (zEB _ _ _ _ _ _ _ _ _ _ _ _ _ (rvok zAR (by decide)) (rvok zAR (by decide)) zKq);rw[zC8];exact zCO RdyB zAd _ _ _ _ (fun w _=>zNd w)
theorem zQN:AgB 12 1 0 0 1 1 0 E0 E0:=by
 refine bag (by decide) (by decide) zAR zAQ (.iface 111 (.bool false)) 0 _ _ _ _ ?_ zA1 (zEB _ _ _ _ _ _ _ _ _ _ _ _ _ (rvok zAR (by decide)) (rvok zAQ (by decide)) zKp);rw[zC8,zC7];exact zCO RdyB zAd _ _ _ _ (fun w _=>zNc w)
theorem zQM:AgB 12 1 0 0 0 0 0 E0 E0:=by
 refine bag (by decide) (by decide) zAR zAn (.iface 111 (.bool false)) 0 _ _ _ _ ?_ zA1 (zEB _ _ _ _ _ _ _ _ _ _ _ _ _ (rvok zAR (by decide)) (rvok zAn (by decide)) zKo);rw[zC8,zCJ];exact zCO RdyB zAd _ _ _ _ (fun w _=>zNb w)
theorem zQL:AgB 12 1 1 0 1 0 0 E0 E0:=by
 refine bag (by decide) (by decide) zAQ zAR (.iface 111 (.bool false)) 0 _ _ _ _ ?_ zA1 (zEB _ _ _ _ _ _ _ _ _ _ _ _ _ (rvok zAQ (by decide)) (rvok zAR (by decide)) zKn);rw[zC7,zC8];exact zCO RdyB zAd _ _ _ _ (fun w _=>zNa w)
theorem zQK:AgB 12 1 1 0 1 1 0 E0 E0:=by
 refine bag (by decide) (by decide) zAQ zAQ (.iface 111 (.bool true)) 0 _ _ _ _ ?_ zA0 (zEB _ _ _ _ _ _ _ _ _ _ _ _ _ (rvok zAQ (by decide)) (rvok zAQ (by decide)) zKm);rw[zC7];exact zCO RdyB zAd _ _ _ _ (fun w _=>zM9 w)
theorem zQJ:AgB 12 1 1 0 0 0 0 E0 E0:=by
 refine bag (by decide) (by decide) zAQ zAn (.iface 110 (.agg #[])) 0 _ _ _ _ ?_ zAh (zEB _ _ _ _ _ _ _ _ _ _ _ _ _ (rvok zAQ (by decide)) (rvok zAn (by decide)) zKl);rw[zC7,zCJ];exact zCO RdyB zAd _ _ _ _ (fun w _=>zM8 w)
theorem zQI:AgB 12 0 0 0 1 0 0 E0 E0:=by
 refine bag (by decide) (by decide) zAn zAR (.iface 111 (.bool false)) 0 _ _ _ _ ?_ zA1 (zEB _ _ _ _ _ _ _ _ _ _ _ _ _ (rvok zAn (by decide)) (rvok zAR (by decide)) zKk);rw[zCJ,zC8];exact zCO RdyB zAd _ _ _ _ (fun w _=>zM7 w)
theorem zQH:AgB 12 0 0 0 1 1 0 E0 E0:=by
 refine bag (by decide) (by decide) zAn zAQ (.iface 110 (.agg #[])) 0 _ _ _ _ ?_ zAh (zEB _ _ _ _ _ _ _ _ _ _ _ _ _ (rvok zAn (by decide)) (rvok zAQ (by decide)) zKj);rw[zCJ,zC7];exact zCO RdyB zAd _ _ _ _ (fun w _=>zM6 w)
theorem zQG:AgB 12 0 0 0 0 0 0 E0 E0:=by
 refine bag (by decide) (by decide) zAn zAn (.iface 110 (.agg #[])) 0 _ _ _ _ ?_ zAh (zEB _ _ _ _ _ _ _ _ _ _ _ _ _ (rvok zAn (by decide)) (rvok zAn (by decide)) zKi);rw[zCJ];exact zCO RdyB zAd _ _ _ _ (fun w _=>zM5 w)
theorem zQF:AgB 13 1 0 0 1 0 0 E0 E0:=by
 refine bag (by decide) (by decide) zAR zAR (.iface 111 (.bool false)) 0 _ _ _ _ ?_ zA1 (zEA _ _ _ _ _ _ _ _ _ _ _ _ _ (rvok zAR (by decide)) (rvok zAR (by decide)) zKh);rw[zC8];exact zCN RdyB zAd _ _ _ _ (fun w _=>zM4 w)
theorem zQE:AgB 13 1 0 0 1 1 0 E0 E0:=by
 refine bag (by decide) (by decide) zAR zAQ (.iface 111 (.bool true)) 0 _ _ _ _ ?_ zA0 (zEA _ _ _ _ _ _ _ _ _ _ _ _ _ (rvok zAR (by decide)) (rvok zAQ (by decide)) zKg);rw[zC8,zC7];exact zCN RdyB zAd _ _ _ _ (fun w _=>zM3 w)
theorem zQD:AgB 13 1 0 0 0 0 0 E0 E0:=by
 refine bag (by decide) (by decide) zAR zAn (.iface 110 (.agg #[])) 0 _ _ _ _ ?_ zAh (zEA _ _ _ _ _ _ _ _ _ _ _ _ _ (rvok zAR (by decide)) (rvok zAn (by decide)) zKf);rw[zC8,zCJ];exact zCN RdyB zAd _ _ _ _ (fun w _=>zM2 w)
theorem zQC:AgB 13 1 1 0 1 0 0 E0 E0:=by
 refine bag (by decide) (by decide) zAQ zAR (.iface 111 (.bool true)) 0 _ _ _ _ ?_ zA0 (zEA _ _ _ _ _ _ _ _ _ _ _ _ _ (rvok zAQ (by decide)) (rvok zAR (by decide)) zKe);rw[zC7,zC8];exact zCN RdyB zAd _ _ _ _ (fun w _=>zM1 w)
theorem zQB:AgB 13 1 1 0 1 1 0 E0 E0:=by
 refine bag (by decide) (by decide) zAQ zAQ (.iface 111 (.bool true)) 0 _ _ _ _ ?_ zA0 (zEA _ _ _ _ _ _ _ _ _ _ _ _ _ (rvok zAQ (by decide)) (rvok zAQ (by decide)) zKd);rw[zC7];exact zCN RdyB zAd _ _ _ _ (fun w _=>zM0 w)
theorem zQA:AgB 13 1 1 0 0 0 0 E0 E0:=by
 refine bag (by decide) (by decide) zAQ zAn (.iface 111 (.bool true)) 0 _ _ _ _ ?_ zA0 (zEA _ _ _ _ _ _ _ _ _ _ _ _ _ (rvok zAQ (by decide)) (rvok zAn (by decide)) zKc);rw[zC7,zCJ];exact zCN RdyB zAd _ _ _ _ (fun w _=>zMZ w)
theorem zQz:AgB 13 0 0 0 1 0 0 E0 E0:=by
 refine bag (by decide) (by decide) zAn zAR (.iface 110 (.agg #[])) 0 _ _ _ _ ?_ zAh (zEA _ _ _ _ _ _ _ _ _ _ _ _ _ (rvok zAn (by decide)) (rvok zAR (by decide)) zKb);rw[zCJ,zC8];exact zCN RdyB zAd _ _ _ _ (fun w _=>zMY w)
theorem zQy:AgB 13 0 0 0 1 1 0 E0 E0:=by
 refine bag (by decide) (by decide) zAn zAQ (.iface 111 (.bool true)) 0 _ _ _ _ ?_ zA0 (zEA _ _ _ _ _ _ _ _ _ _ _ _ _ (rvok zAn (by decide)) (rvok zAQ (by decide)) zKa);rw[zCJ,zC7];exact zCN RdyB zAd _ _ _ _ (fun w _=>zMX w)
theorem zQx:AgB 13 0 0 0 0 0 0 E0 E0:=by
 refine bag (by decide) (by decide) zAn zAn (.iface 110 (.agg #[])) 0 _ _ _ _ ?_ zAh (zEA _ _ _ _ _ _ _ _ _ _ _ _ _ (rvok zAn (by decide)) (rvok zAn (by decide)) zJ9);rw[zCJ];exact zCN RdyB zAd _ _ _ _ (fun w _=>zMW w)
theorem zQw:AgB 14 1 0 0 1 0 0 E0 E0:=by
 refine bag (by decide) (by decide) zAR zAR (.iface 111 (.bool false)) 0 _ _ _ _ ?_ zA1 (zEz _ _ _ _ _ _ _ _ _ _ _ _ _ (rvok zAR (by decide)) (rvok zAR (by decide)) zJ8);rw[zC8];exact zCM RdyB zAd _ _ _ _ (fun w _=>zMV w)
theorem zQv:AgB 14 1 0 0 1 1 0 E0 E0:=by
 refine bag (by decide) (by decide) zAR zAQ (.iface 111 (.bool true)) 0 _ _ _ _ ?_ zA0 (zEz _ _ _ _ _ _ _ _ _ _ _ _ _ (rvok zAR (by decide)) (rvok zAQ (by decide)) zJ7);rw[zC8,zC7];exact zCM RdyB zAd _ _ _ _ (fun w _=>zMU w)
theorem zQu:AgB 14 1 0 0 0 0 0 E0 E0:=by
 refine bag (by decide) (by decide) zAR zAn (.iface 110 (.agg #[])) 0 _ _ _ _ ?_ zAh (zEz _ _ _ _ _ _ _ _ _ _ _ _ _ (rvok zAR (by decide)) (rvok zAn (by decide)) zJ6);rw[zC8,zCJ];exact zCM RdyB zAd _ _ _ _ (fun w _=>zMT w)
theorem zQt:AgB 14 1 1 0 1 0 0 E0 E0:=by
 refine bag (by decide) (by decide) zAQ zAR (.iface 111 (.bool true)) 0 _ _ _ _ ?_ zA0 (zEz _ _ _ _ _ _ _ _ _ _ _ _ _ (rvok zAQ (by decide)) (rvok zAR (by decide)) zJ5);rw[zC7,zC8];exact zCM RdyB zAd _ _ _ _ (fun w _=>zMS w)
theorem zQs:AgB 14 1 1 0 1 1 0 E0 E0:=by
 refine bag (by decide) (by decide) zAQ zAQ (.iface 111 (.bool false)) 0 _ _ _ _ ?_ zA1 (zEz _ _ _ _ _ _ _ _ _ _ _ _ _ (rvok zAQ (by decide)) (rvok zAQ (by decide)) zJ4);rw[zC7];exact zCM RdyB zAd _ _ _ _ (fun w _=>zMR w)
theorem zQr:AgB 14 1 1 0 0 0 0 E0 E0:=by
 refine bag (by decide) (by decide) zAQ zAn (.iface 110 (.agg #[])) 0 _ _ _ _ ?_ zAh (zEz _ _ _ _ _ _ _ _ _ _ _ _ _ (rvok zAQ (by decide)) (rvok zAn (by decide)) zJ3);rw[zC7,zCJ];exact zCM RdyB zAd _ _ _ _ (fun w _=>zMQ w)
theorem zQq:AgB 14 0 0 0 1 0 0 E0 E0:=by
 refine bag (by decide) (by decide) zAn zAR (.iface 110 (.agg #[])) 0 _ _ _ _ ?_ zAh (zEz _ _ _ _ _ _ _ _ _ _ _ _ _ (rvok zAn (by decide)) (rvok zAR (by decide)) zJ2);rw[zCJ,zC8];exact zCM RdyB zAd _ _ _ _ (fun w _=>zMP w)
theorem zQp:AgB 14 0 0 0 1 1 0 E0 E0:=by
 refine bag (by decide) (by decide) zAn zAQ (.iface 110 (.agg #[])) 0 _ _ _ _ ?_ zAh (zEz _ _ _ _ _ _ _ _ _ _ _ _ _ (rvok zAn (by decide)) (rvok zAQ (by decide)) zJ1);rw[zCJ,zC7];exact zCM RdyB zAd _ _ _ _ (fun w _=>zMO w)
theorem zQo:AgB 14 0 0 0 0 0 0 E0 E0:=by
 refine bag (by decide) (by decide) zAn zAn (.iface 110 (.agg #[])) 0 _ _ _ _ ?_ zAh (zEz _ _ _ _ _ _ _ _ _ _ _ _ _ (rvok zAn (by decide)) (rvok zAn (by decide)) zJ0);rw[zCJ];exact zCM RdyB zAd _ _ _ _ (fun w _=>zMN w)
theorem zCW(k a b:Int)(s:ByteArray)(hok:okV k a b s=true):∃(n:Int) (q:Bool),(q=decide (k≤1))∧∀w,CG 114 #[zAb k a b s] w (.tuple #[.int .i64 n,.bool q]):=by
 by_cases h:2≤k
 ·exact⟨0,false,by simp;omega,zRS k a b s hok h⟩
 ·have hk:=zAp k a b s hok
  have:k=0∨k=1:=by omega
  rcases this with rfl|rfl
  ·exact⟨0,true,by simp,by rw[zEK hok];exact zBb⟩
  ·obtain⟨h01,rfl,rfl⟩:=ok_1 hok
   rcases h01 with rfl|rfl
   ·exact⟨-1,true,by simp,by rw[zC8];exact zBd⟩
   ·exact⟨1,true,by simp,by rw[zC7];exact zBc⟩
theorem zYy(k a b k' a' b':Int)(s s':ByteArray)(hok:okV k a b s=true)(hok':okV k' a' b' s'=true)(hs:s.size≤4611686018427387904)(hs':s'.size≤4611686018427387904):AgB 12 k a b k' a' b' s s':=by
 obtain⟨m,q,hq,h1⟩:=zCW k a b s hok;obtain⟨n,p,hp,h2⟩:=zCW k' a' b' s' hok'
 by_cases c1:2≤k
 ·have:q=false:=by rw[hq];simp;omega
  subst this;exact bag (by decide) (by decide) hok hok' .nilIface 10 _ _ _ _ (zCO RdyB zAd _ _ _ _ (fun w _=>lno1 12 _ _ m n p h1 h2 w)) (zAa _ 10 (by decide)) (zEB _ _ _ _ _ _ _ _ _ _ _ _ _ (rvok hok hs) (rvok hok' hs') (zFP 12 _ _ _ _ _ _ _ _ (by omega)))
 ·have:q=true:=by rw[hq];simp;omega
  subst this
  by_cases c2:2≤k'
  ·have:p=false:=by rw[hp];simp;omega
   subst this;exact bag (by decide) (by decide) hok hok' .nilIface 10 _ _ _ _ (zCO RdyB zAd _ _ _ _ (fun w _=>lno2 12 _ _ m n h1 h2 w)) (zAa _ 10 (by decide)) (zEB _ _ _ _ _ _ _ _ _ _ _ _ _ (rvok hok hs) (rvok hok' hs') (zFO 12 _ _ _ _ _ _ _ _ (by omega) (by omega)))
  ·have hk:=zAp k a b s hok
   have hk':=zAp k' a' b' s' hok'
   have d1:k=0∨k=1:=by omega
   have d2:k'=0∨k'=1:=by omega
   clear h1 h2 hq hp c1 c2 hk hk'
   rcases d1 with rfl|rfl
   ·obtain⟨rfl,rfl,rfl⟩:=ok_0 hok
    rcases d2 with rfl|rfl
    ·obtain⟨rfl,rfl,rfl⟩:=ok_0 hok'
     exact zQG
    ·obtain⟨h01,rfl,rfl⟩:=ok_1 hok'
     rcases h01 with rfl|rfl
     ·exact zQI
     ·exact zQH
   ·obtain⟨h01,rfl,rfl⟩:=ok_1 hok
    rcases d2 with rfl|rfl
    ·obtain⟨rfl,rfl,rfl⟩:=ok_0 hok'
     rcases h01 with rfl|rfl
     ·exact zQM
     ·exact zQJ
    ·obtain⟨h02,rfl,rfl⟩:=ok_1 hok'
     rcases h01 with rfl|rfl<;>rcases h02 with rfl|rfl
     ·exact zQO
     ·exact zQN
     ·exact zQL
     ·exact zQK
theorem zYx(k a b k' a' b':Int)(s s':ByteArray)(hok:okV k a b s=true)(hok':okV k' a' b' s'=true)(hs:s.size≤4611686018427387904)(hs':s'.size≤4611686018427387904):AgB 13 k a b k' a' b' s s':=by
 obtain⟨m,q,hq,h1⟩:=zCW k a b s hok;obtain⟨n,p,hp,h2⟩:=zCW k' a' b' s' hok'
 by_cases c1:2≤k
 ·have:q=false:=by rw[hq];simp;omega
  subst this;exact bag (by decide) (by decide) hok hok' .nilIface 10 _ _ _ _ (zCN RdyB zAd _ _ _ _ (fun w _=>lno1 13 _ _ m n p h1 h2 w)) (zAa _ 10 (by decide)) (zEA _ _ _ _ _ _ _ _ _ _ _ _ _ (rvok hok hs) (rvok hok' hs') (zFP 13 _ _ _ _ _ _ _ _ (by omega)))
 ·have:q=true:=by rw[hq];simp;omega
  subst this
  by_cases c2:2≤k'
  ·have:p=false:=by rw[hp];simp;omega
   subst this;exact bag (by decide) (by decide) hok hok' .nilIface 10 _ _ _ _ (zCN RdyB zAd _ _ _ _ (fun w _=>lno2 13 _ _ m n h1 h2 w)) (zAa _ 10 (by decide)) (zEA _ _ _ _ _ _ _ _ _ _ _ _ _ (rvok hok hs) (rvok hok' hs') (zFO 13 _ _ _ _ _ _ _ _ (by omega) (by omega)))
  ·have hk:=zAp k a b s hok
   have hk':=zAp k' a' b' s' hok'
   have d1:k=0∨k=1:=by omega
   have d2:k'=0∨k'=1:=by omega
   clear h1 h2 hq hp c1 c2 hk hk'
   rcases d1 with rfl|rfl
   ·obtain⟨rfl,rfl,rfl⟩:=ok_0 hok
    rcases d2 with rfl|rfl
    ·obtain⟨rfl,rfl,rfl⟩:=ok_0 hok'
     exact zQx
    ·obtain⟨h01,rfl,rfl⟩:=ok_1 hok'
     rcases h01 with rfl|rfl
     ·exact zQz
     ·exact zQy
   ·obtain⟨h01,rfl,rfl⟩:=ok_1 hok
    rcases d2 with rfl|rfl
    ·obtain⟨rfl,rfl,rfl⟩:=ok_0 hok'
     rcases h01 with rfl|rfl
     ·exact zQD
     ·exact zQA
    ·obtain⟨h02,rfl,rfl⟩:=ok_1 hok'
     rcases h01 with rfl|rfl<;>rcases h02 with rfl|rfl
     ·exact zQF
     ·exact zQE
     ·exact zQC
     ·exact zQB
theorem zYw(k a b k' a' b':Int)(s s':ByteArray)(hok:okV k a b s=true)(hok':okV k' a' b' s'=true)(hs:s.size≤4611686018427387904)(hs':s'.size≤4611686018427387904):AgB 14 k a b k' a' b' s s':=by
 obtain⟨m,q,hq,h1⟩:=zCW k a b s hok;obtain⟨n,p,hp,h2⟩:=zCW k' a' b' s' hok'
 by_cases c1:2≤k
 ·have:q=false:=by rw[hq];simp;omega
  subst this;exact bag (by decide) (by decide) hok hok' .nilIface 10 _ _ _ _ (zCM RdyB zAd _ _ _ _ (fun w _=>lno1 14 _ _ m n p h1 h2 w)) (zAa _ 10 (by decide)) (zEz _ _ _ _ _ _ _ _ _ _ _ _ _ (rvok hok hs) (rvok hok' hs') (zFP 14 _ _ _ _ _ _ _ _ (by omega)))
 ·have:q=true:=by rw[hq];simp;omega
  subst this
  by_cases c2:2≤k'
  ·have:p=false:=by rw[hp];simp;omega
   subst this;exact bag (by decide) (by decide) hok hok' .nilIface 10 _ _ _ _ (zCM RdyB zAd _ _ _ _ (fun w _=>lno2 14 _ _ m n h1 h2 w)) (zAa _ 10 (by decide)) (zEz _ _ _ _ _ _ _ _ _ _ _ _ _ (rvok hok hs) (rvok hok' hs') (zFO 14 _ _ _ _ _ _ _ _ (by omega) (by omega)))
  ·have hk:=zAp k a b s hok
   have hk':=zAp k' a' b' s' hok'
   have d1:k=0∨k=1:=by omega
   have d2:k'=0∨k'=1:=by omega
   clear h1 h2 hq hp c1 c2 hk hk'
   rcases d1 with rfl|rfl
   ·obtain⟨rfl,rfl,rfl⟩:=ok_0 hok
    rcases d2 with rfl|rfl
    ·obtain⟨rfl,rfl,rfl⟩:=ok_0 hok'
     exact zQo
    ·obtain⟨h01,rfl,rfl⟩:=ok_1 hok'
     rcases h01 with rfl|rfl
     ·exact zQq
     ·exact zQp
   ·obtain⟨h01,rfl,rfl⟩:=ok_1 hok
    rcases d2 with rfl|rfl
    ·obtain⟨rfl,rfl,rfl⟩:=ok_0 hok'
     rcases h01 with rfl|rfl
     ·exact zQu
     ·exact zQr
    ·obtain⟨h02,rfl,rfl⟩:=ok_1 hok'
     rcases h01 with rfl|rfl<;>rcases h02 with rfl|rfl
     ·exact zQw
     ·exact zQv
     ·exact zQt
     ·exact zQs
theorem bn_1(op:Int)(ho:1≤op)(ho':op≤18)(n12:op≠12)(n13:op≠13)(n14:op≠14)(k a b k' a' b':Int)(s s':ByteArray)(hok:okV k a b s=true)(hok':okV k' a' b' s'=true)(hs:s.size≤4611686018427387904)(hs':s'.size≤4611686018427387904)(hk:k=0):AgB op k a b k' a' b' s s':=by
 subst hk;obtain⟨rfl,rfl,rfl⟩:=ok_0 hok;refine bag ho ho' hok hok' (.iface 110 (.agg #[])) 0 _ _ _ _ ?_ zAh (zO5 op ho ho' (beq_false_of_ne n12) (beq_false_of_ne n13) (beq_false_of_ne n14) _ _ _ _ _ _ _ (rvok hok hs) (rvok hok' hs'));rw[zCJ];exact fun w _=>zN0 op _ _ (beq_false_of_ne n12) (beq_false_of_ne n13) (beq_false_of_ne n14) zH3 w
theorem bn_2(op:Int)(ho:1≤op)(ho':op≤18)(n12:op≠12)(n13:op≠13)(n14:op≠14)(k a b k' a' b':Int)(s s':ByteArray)(hok:okV k a b s=true)(hok':okV k' a' b' s'=true)(hs:s.size≤4611686018427387904)(hs':s'.size≤4611686018427387904)(hk:k≠0)(hk':k'=0):AgB op k a b k' a' b' s s':=by
 subst hk';obtain⟨rfl,rfl,rfl⟩:=ok_0 hok';refine bag ho ho' hok hok' (.iface 110 (.agg #[])) 0 _ _ _ _ ?_ zAh (zO4 op ho ho' (beq_false_of_ne n12) (beq_false_of_ne n13) (beq_false_of_ne n14) _ _ _ _ _ _ _ (beq_false_of_ne hk) (rvok hok hs) (rvok hok' hs'));rw[zCJ];exact fun w _=>zNZ op _ _ (beq_false_of_ne n12) (beq_false_of_ne n13) (beq_false_of_ne n14) (zAe k a b s hok hk) zH3 w
theorem zFj(k a b k' a' b':Int)(s s':ByteArray)(hok:okV k a b s=true)(hok':okV k' a' b' s'=true)(w:World):CG 43 #[V k a b s,V k' a' b' s'] w (Value.bool (eqP k a b k' a' b' s s')):=by
 unfold eqP
 by_cases e:k=k'
 ·rw[if_neg (by omega),if_neg (by omega)]
  have:=zHz k a b k' a' b' s s' e w
  have e1:(k==k')=true:=by simpa using e
  rw[e1,Bool.true_and];exact this
 have e':(k==k')=false:=beq_false_of_ne e
 by_cases c2:k=2
 ·by_cases c3:k'=3
  ·subst c2;subst c3
   rw[if_pos ⟨rfl,rfl⟩];obtain⟨rfl,_⟩:=ok_2 hok;have:=zLY a 0 a' b' s s' w;have h1:((0:Int)==0)=true:=rfl;have h2:(a==a')=(a'==a):=Bool.beq_comm;rw[h1,Bool.and_true,h2] at this;exact this
  ·rw[if_neg (by omega),if_neg (by omega),e',Bool.false_and,Bool.false_and,Bool.false_and]
   exact zL0 k a b k' a' b' s s' e' c2 (beq_false_of_ne c3) w
 by_cases c3:k=3
 ·by_cases c4:k'=2
  ·subst c3;subst c4
   rw[if_neg (by omega),if_pos ⟨rfl,rfl⟩];obtain⟨rfl,_⟩:=ok_2 hok';have:=zL2 a b a' 0 s s' w;have h1:((0:Int)==0)=true:=rfl;rw[h1,Bool.and_true] at this;exact this
  ·rw[if_neg (by omega),if_neg (by omega),e',Bool.false_and,Bool.false_and,Bool.false_and]
   exact zLZ k a b k' a' b' s s' e' c3 (beq_false_of_ne c4) w
 rw[if_neg (by omega),if_neg (by omega),e',Bool.false_and,Bool.false_and,Bool.false_and];exact zL1 k a b k' a' b' s s' e' (beq_false_of_ne c2) (beq_false_of_ne c3) w
theorem be_6(k a b k' a' b':Int)(s s':ByteArray)(hok:okV k a b s=true)(hok':okV k' a' b' s'=true)(hs:s.size≤4611686018427387904)(hs':s'.size≤4611686018427387904)(hk:k≠0)(hk':k'≠0):AgB 6 k a b k' a' b' s s':=by
 have h1:=zGX k a b k' a' b' s s' hok hok';have h2:=zFj k a b k' a' b' s s' hok hok';generalize eqP k a b k' a' b' s s'=q at h1 h2;exact bag (by decide) (by decide) hok hok' _ 0 _ _ _ _ (zYA RdyB zAd q _ _ (zAe k a b s hok hk) (zAe k' a' b' s' hok' hk') (fun w _=>h1 w)) (zAl q) (rB_6 q k a b k' a' b' s s' (beq_false_of_ne hk) (beq_false_of_ne hk') (rvok hok hs) (rvok hok' hs') h2)
theorem be_7(k a b k' a' b':Int)(s s':ByteArray)(hok:okV k a b s=true)(hok':okV k' a' b' s'=true)(hs:s.size≤4611686018427387904)(hs':s'.size≤4611686018427387904)(hk:k≠0)(hk':k'≠0):AgB 7 k a b k' a' b' s s':=by
 have h1:=zGX k a b k' a' b' s s' hok hok';have h2:=zFj k a b k' a' b' s s' hok hok';generalize eqP k a b k' a' b' s s'=q at h1 h2;exact bag (by decide) (by decide) hok hok' _ 0 _ _ _ _ (zYz RdyB zAd q _ _ (zAe k a b s hok hk) (zAe k' a' b' s' hok' hk') (fun w _=>h1 w)) (zAl (!q)) (rB_7 q k a b k' a' b' s s' (beq_false_of_ne hk) (beq_false_of_ne hk') (rvok hok hs) (rvok hok' hs') h2)
theorem zGd{n:Nat}{a b a' b':Int}{s s':ByteArray}(hn:n=1∨n=2)(ok:okV n a b s=true)(ok':okV n a' b' s'=true):cmpP n n a b a' b' s s'=cI a a':=by
 have z:cI (rkP n) (rkP n)=0:=zET.2 rfl;have z2:cI (n:Int) n=0:=zET.2 rfl
 have hb:b=0∧s=E0∧b'=0∧s'=E0:=by
  rcases hn with rfl|rfl
  ·exact⟨(ok_1 ok).2.1,(ok_1 ok).2.2,(ok_1 ok').2.1,(ok_1 ok').2.2⟩
  ·exact⟨(ok_2 ok).1,(ok_2 ok).2,(ok_2 ok').1,(ok_2 ok').2⟩
 obtain⟨rfl,rfl,rfl,rfl⟩:=hb;have z3:cI 0 0=0:=rfl;have z4:compareBytes E0.data.toList E0.data.toList=0:=rfl;unfold cmpP or5;rw[z,z2,z3,z4]
 by_cases c:cI a a'=0
 iterate 2
  ·simp[c]
theorem zJy{a b a' b':Int}{s s':ByteArray}(ok:okV 4 a b s=true)(ok':okV 4 a' b' s'=true):cmpP 4 4 a b a' b' s s'=compareBytes s.data.toList s'.data.toList:=by
 have z:cI (rkP 4) (rkP 4)=0:=rfl;have z2:cI ((4:Nat):Int) (4:Nat)=0:=rfl;obtain⟨rfl,rfl,_,_⟩:=ok_4 ok;obtain⟨rfl,rfl,_,_⟩:=ok_4 ok';have z3:cI 0 0=0:=rfl;unfold cmpP or5;rw[z,z2,z3];simp
theorem zJj{k k':Int}(h:k≠k'):hoP k k'=false:=by
 unfold hoP
 split
 ·simpa using h
 ·rfl
theorem br_8(k a b k' a' b':Int)(s s':ByteArray)(hok:okV k a b s=true)(hok':okV k' a' b' s'=true)(hs:s.size≤4611686018427387904)(hs':s'.size≤4611686018427387904)(hk:k≠0)(hk':k'≠0):AgB 8 k a b k' a' b' s s':=by
 have h1:=zJi k a b k' a' b' s s' hok hok'
 by_cases e:k=k'
 ·have hx:=zAA k a b s hok
  have hy:=zAA k' a' b' s' hok';subst e
  by_cases c4:k=4
  ·subst c4
   rw[show hoP 4 4=true from rfl] at h1
   have h2:∀w,RdyB w→CG 48 #[zAb 4 a b s,zAb 4 a' b' s'] w (.int .i64 (compareBytes s.data.toList s'.data.toList)):=fun w hR=>by
    have:=zAG _ _ 4 4 a b a' b' s s' hx hy (by decide) (by decide) w hR.2.1;rw[←zJy hok hok'];exact this
   exact bag (by decide) (by decide) hok hok' _ 0 _ _ _ _ (zQQ RdyB zAd _ _ _ (zAe 4 a b s hok hk) (zAe 4 a' b' s' hok' hk') (zVn RdyB zAd _ _ _ h1 h2)) (zAl _) (rB_8 _ _ _ _ _ _ _ _ _ _ _ _ _ (beq_false_of_ne hk) (beq_false_of_ne hk') (rvok hok hs) (rvok hok' hs') (zOJ _ a b a' b' s s' (rtexts s s' hs hs')))
  by_cases c12:k=1∨k=2
  ·have hh:hoP k k=true:=by unfold hoP;rw[if_pos (by omega)];simp
   rw[hh] at h1;obtain⟨n,rfl,hn⟩:∃n:Nat,k=n∧(n=1∨n=2):=⟨k.toNat,by omega,by omega⟩
   have h2:∀w,RdyB w→CG 48 #[zAb n a b s,zAb n a' b' s'] w (Value.int .i64 (cI a a')):=fun w hR=>by
    have:=zAG _ _ n n a b a' b' s s' hx hy (by omega) (by omega) w hR.2.1;rw[←zGd hn hok hok'];exact this
   have h3:=zQQ RdyB zAd _ _ _ (zAe n a b s hok hk) (zAe n a' b' s' hok' hk') (zVn RdyB zAd _ _ _ h1 h2)
   rcases hn with rfl|rfl
   ·exact bag (by decide) (by decide) hok hok' _ 0 _ _ _ _ h3 (zAl _) (rB_8 _ _ _ _ _ _ _ _ _ _ _ _ _ (beq_false_of_ne hk) (beq_false_of_ne hk') (rvok hok hs) (rvok hok' hs') (zOL _ a b a' b' s s' (rnum a a')))
   ·exact bag (by decide) (by decide) hok hok' _ 0 _ _ _ _ h3 (zAl _) (rB_8 _ _ _ _ _ _ _ _ _ _ _ _ _ (beq_false_of_ne hk) (beq_false_of_ne hk') (rvok hok hs) (rvok hok' hs') (zOK _ a b a' b' s s' (rnum a a')))
  ·have hh:hoP k k=false:=by unfold hoP;rw[if_neg (by omega)]
   rw[hh] at h1;exact bag (by decide) (by decide) hok hok' _ 0 _ _ _ _ (zQQ RdyB zAd _ _ _ (zAe k a b s hok hk) (zAe k a' b' s' hok' hk') (fun w _=>zDT 8 _ _ h1 w)) zAh (rB_8 _ _ _ _ _ _ _ _ _ _ _ _ _ (beq_false_of_ne hk) (beq_false_of_ne hk') (rvok hok hs) (rvok hok' hs') (zD9 8 k a b a' b' s s' (by simp;omega) (by simp;omega) (by simp;omega)))
 ·rw[zJj e] at h1
  exact bag (by decide) (by decide) hok hok' _ 0 _ _ _ _ (zQQ RdyB zAd _ _ _ (zAe k a b s hok hk) (zAe k' a' b' s' hok' hk') (fun w _=>zDT 8 _ _ h1 w)) zAh (rB_8 _ _ _ _ _ _ _ _ _ _ _ _ _ (beq_false_of_ne hk) (beq_false_of_ne hk') (rvok hok hs) (rvok hok' hs') (zFN 8 k a b k' a' b' s s' (beq_false_of_ne e)))
theorem br_9(k a b k' a' b':Int)(s s':ByteArray)(hok:okV k a b s=true)(hok':okV k' a' b' s'=true)(hs:s.size≤4611686018427387904)(hs':s'.size≤4611686018427387904)(hk:k≠0)(hk':k'≠0):AgB 9 k a b k' a' b' s s':=by
 have h1:=zJi k a b k' a' b' s s' hok hok'
 by_cases e:k=k'
 ·have hx:=zAA k a b s hok
  have hy:=zAA k' a' b' s' hok';subst e
  by_cases c4:k=4
  ·subst c4
   rw[show hoP 4 4=true from rfl] at h1
   have h2:∀w,RdyB w→CG 48 #[zAb 4 a b s,zAb 4 a' b' s'] w (.int .i64 (compareBytes s.data.toList s'.data.toList)):=fun w hR=>by
    have:=zAG _ _ 4 4 a b a' b' s s' hx hy (by decide) (by decide) w hR.2.1;rw[←zJy hok hok'];exact this
   exact bag (by decide) (by decide) hok hok' _ 0 _ _ _ _ (zQP RdyB zAd _ _ _ (zAe 4 a b s hok hk) (zAe 4 a' b' s' hok' hk') (zVm RdyB zAd _ _ _ h1 h2)) (zAl _) (rB_9 _ _ _ _ _ _ _ _ _ _ _ _ _ (beq_false_of_ne hk) (beq_false_of_ne hk') (rvok hok hs) (rvok hok' hs') (zOG _ a b a' b' s s' (rtexts s s' hs hs')))
  by_cases c12:k=1∨k=2
  ·have hh:hoP k k=true:=by unfold hoP;rw[if_pos (by omega)];simp
   rw[hh] at h1;obtain⟨n,rfl,hn⟩:∃n:Nat,k=n∧(n=1∨n=2):=⟨k.toNat,by omega,by omega⟩
   have h2:∀w,RdyB w→CG 48 #[zAb n a b s,zAb n a' b' s'] w (Value.int .i64 (cI a a')):=fun w hR=>by
    have:=zAG _ _ n n a b a' b' s s' hx hy (by omega) (by omega) w hR.2.1;rw[←zGd hn hok hok'];exact this
   have h3:=zQP RdyB zAd _ _ _ (zAe n a b s hok hk) (zAe n a' b' s' hok' hk') (zVm RdyB zAd _ _ _ h1 h2)
   rcases hn with rfl|rfl
   ·exact bag (by decide) (by decide) hok hok' _ 0 _ _ _ _ h3 (zAl _) (rB_9 _ _ _ _ _ _ _ _ _ _ _ _ _ (beq_false_of_ne hk) (beq_false_of_ne hk') (rvok hok hs) (rvok hok' hs') (zOI _ a b a' b' s s' (rnum a a')))
   ·exact bag (by decide) (by decide) hok hok' _ 0 _ _ _ _ h3 (zAl _) (rB_9 _ _ _ _ _ _ _ _ _ _ _ _ _ (beq_false_of_ne hk) (beq_false_of_ne hk') (rvok hok hs) (rvok hok' hs') (zOH _ a b a' b' s s' (rnum a a')))
  ·have hh:hoP k k=false:=by unfold hoP;rw[if_neg (by omega)]
   rw[hh] at h1;exact bag (by decide) (by decide) hok hok' _ 0 _ _ _ _ (zQP RdyB zAd _ _ _ (zAe k a b s hok hk) (zAe k a' b' s' hok' hk') (fun w _=>zDT 9 _ _ h1 w)) zAh (rB_9 _ _ _ _ _ _ _ _ _ _ _ _ _ (beq_false_of_ne hk) (beq_false_of_ne hk') (rvok hok hs) (rvok hok' hs') (zD9 9 k a b a' b' s s' (by simp;omega) (by simp;omega) (by simp;omega)))
 ·rw[zJj e] at h1
  exact bag (by decide) (by decide) hok hok' _ 0 _ _ _ _ (zQP RdyB zAd _ _ _ (zAe k a b s hok hk) (zAe k' a' b' s' hok' hk') (fun w _=>zDT 9 _ _ h1 w)) zAh (rB_9 _ _ _ _ _ _ _ _ _ _ _ _ _ (beq_false_of_ne hk) (beq_false_of_ne hk') (rvok hok hs) (rvok hok' hs') (zFN 9 k a b k' a' b' s s' (beq_false_of_ne e)))
theorem zYv(k a b k' a' b':Int)(s s':ByteArray)(hok:okV k a b s=true)(hok':okV k' a' b' s'=true)(hs:s.size≤4611686018427387904)(hs':s'.size≤4611686018427387904)(hk:k≠0)(hk':k'≠0):AgB 10 k a b k' a' b' s s':=by
 have h1:=zJi k a b k' a' b' s s' hok hok'
 by_cases e:k=k'
 ·have hx:=zAA k a b s hok
  have hy:=zAA k' a' b' s' hok';subst e
  by_cases c4:k=4
  ·subst c4
   rw[show hoP 4 4=true from rfl] at h1
   have h2:∀w,RdyB w→CG 48 #[zAb 4 a b s,zAb 4 a' b' s'] w (.int .i64 (compareBytes s.data.toList s'.data.toList)):=fun w hR=>by
    have:=zAG _ _ 4 4 a b a' b' s s' hx hy (by decide) (by decide) w hR.2.1;rw[←zJy hok hok'];exact this
   exact bag (by decide) (by decide) hok hok' _ 0 _ _ _ _ (zJK RdyB zAd _ _ _ (zAe 4 a b s hok hk) (zAe 4 a' b' s' hok' hk') (zQ6 RdyB zAd _ _ _ h1 h2)) (zAl _) (zMf _ _ _ _ _ _ _ _ _ _ _ _ _ (beq_false_of_ne hk) (beq_false_of_ne hk') (rvok hok hs) (rvok hok' hs') (zLK _ a b a' b' s s' (rtexts s s' hs hs')))
  by_cases c12:k=1∨k=2
  ·have hh:hoP k k=true:=by unfold hoP;rw[if_pos (by omega)];simp
   rw[hh] at h1;obtain⟨n,rfl,hn⟩:∃n:Nat,k=n∧(n=1∨n=2):=⟨k.toNat,by omega,by omega⟩
   have h2:∀w,RdyB w→CG 48 #[zAb n a b s,zAb n a' b' s'] w (Value.int .i64 (cI a a')):=fun w hR=>by
    have:=zAG _ _ n n a b a' b' s s' hx hy (by omega) (by omega) w hR.2.1;rw[←zGd hn hok hok'];exact this
   have h3:=zJK RdyB zAd _ _ _ (zAe n a b s hok hk) (zAe n a' b' s' hok' hk') (zQ6 RdyB zAd _ _ _ h1 h2)
   rcases hn with rfl|rfl
   ·exact bag (by decide) (by decide) hok hok' _ 0 _ _ _ _ h3 (zAl _) (zMf _ _ _ _ _ _ _ _ _ _ _ _ _ (beq_false_of_ne hk) (beq_false_of_ne hk') (rvok hok hs) (rvok hok' hs') (zLM _ a b a' b' s s' (rnum a a')))
   ·exact bag (by decide) (by decide) hok hok' _ 0 _ _ _ _ h3 (zAl _) (zMf _ _ _ _ _ _ _ _ _ _ _ _ _ (beq_false_of_ne hk) (beq_false_of_ne hk') (rvok hok hs) (rvok hok' hs') (zLL _ a b a' b' s s' (rnum a a')))
  ·have hh:hoP k k=false:=by unfold hoP;rw[if_neg (by omega)]
   rw[hh] at h1;exact bag (by decide) (by decide) hok hok' _ 0 _ _ _ _ (zJK RdyB zAd _ _ _ (zAe k a b s hok hk) (zAe k a' b' s' hok' hk') (fun w _=>zDT 10 _ _ h1 w)) zAh (zMf _ _ _ _ _ _ _ _ _ _ _ _ _ (beq_false_of_ne hk) (beq_false_of_ne hk') (rvok hok hs) (rvok hok' hs') (zD9 10 k a b a' b' s s' (by simp;omega) (by simp;omega) (by simp;omega)))
 ·rw[zJj e] at h1
  exact bag (by decide) (by decide) hok hok' _ 0 _ _ _ _ (zJK RdyB zAd _ _ _ (zAe k a b s hok hk) (zAe k' a' b' s' hok' hk') (fun w _=>zDT 10 _ _ h1 w)) zAh (zMf _ _ _ _ _ _ _ _ _ _ _ _ _ (beq_false_of_ne hk) (beq_false_of_ne hk') (rvok hok hs) (rvok hok' hs') (zFN 10 k a b k' a' b' s s' (beq_false_of_ne e)))
theorem zYu(k a b k' a' b':Int)(s s':ByteArray)(hok:okV k a b s=true)(hok':okV k' a' b' s'=true)(hs:s.size≤4611686018427387904)(hs':s'.size≤4611686018427387904)(hk:k≠0)(hk':k'≠0):AgB 11 k a b k' a' b' s s':=by
 have h1:=zJi k a b k' a' b' s s' hok hok'
 by_cases e:k=k'
 ·have hx:=zAA k a b s hok
  have hy:=zAA k' a' b' s' hok';subst e
  by_cases c4:k=4
  ·subst c4
   rw[show hoP 4 4=true from rfl] at h1
   have h2:∀w,RdyB w→CG 48 #[zAb 4 a b s,zAb 4 a' b' s'] w (.int .i64 (compareBytes s.data.toList s'.data.toList)):=fun w hR=>by
    have:=zAG _ _ 4 4 a b a' b' s s' hx hy (by decide) (by decide) w hR.2.1;rw[←zJy hok hok'];exact this
   exact bag (by decide) (by decide) hok hok' _ 0 _ _ _ _ (zJJ RdyB zAd _ _ _ (zAe 4 a b s hok hk) (zAe 4 a' b' s' hok' hk') (zQ5 RdyB zAd _ _ _ h1 h2)) (zAl _) (zMe _ _ _ _ _ _ _ _ _ _ _ _ _ (beq_false_of_ne hk) (beq_false_of_ne hk') (rvok hok hs) (rvok hok' hs') (zLH _ a b a' b' s s' (rtexts s s' hs hs')))
  by_cases c12:k=1∨k=2
  ·have hh:hoP k k=true:=by unfold hoP;rw[if_pos (by omega)];simp
   rw[hh] at h1;obtain⟨n,rfl,hn⟩:∃n:Nat,k=n∧(n=1∨n=2):=⟨k.toNat,by omega,by omega⟩
   have h2:∀w,RdyB w→CG 48 #[zAb n a b s,zAb n a' b' s'] w (Value.int .i64 (cI a a')):=fun w hR=>by
    have:=zAG _ _ n n a b a' b' s s' hx hy (by omega) (by omega) w hR.2.1;rw[←zGd hn hok hok'];exact this
   have h3:=zJJ RdyB zAd _ _ _ (zAe n a b s hok hk) (zAe n a' b' s' hok' hk') (zQ5 RdyB zAd _ _ _ h1 h2)
   rcases hn with rfl|rfl
   ·exact bag (by decide) (by decide) hok hok' _ 0 _ _ _ _ h3 (zAl _) (zMe _ _ _ _ _ _ _ _ _ _ _ _ _ (beq_false_of_ne hk) (beq_false_of_ne hk') (rvok hok hs) (rvok hok' hs') (zLJ _ a b a' b' s s' (rnum a a')))
   ·exact bag (by decide) (by decide) hok hok' _ 0 _ _ _ _ h3 (zAl _) (zMe _ _ _ _ _ _ _ _ _ _ _ _ _ (beq_false_of_ne hk) (beq_false_of_ne hk') (rvok hok hs) (rvok hok' hs') (zLI _ a b a' b' s s' (rnum a a')))
  ·have hh:hoP k k=false:=by unfold hoP;rw[if_neg (by omega)]
   rw[hh] at h1;exact bag (by decide) (by decide) hok hok' _ 0 _ _ _ _ (zJJ RdyB zAd _ _ _ (zAe k a b s hok hk) (zAe k a' b' s' hok' hk') (fun w _=>zDT 11 _ _ h1 w)) zAh (zMe _ _ _ _ _ _ _ _ _ _ _ _ _ (beq_false_of_ne hk) (beq_false_of_ne hk') (rvok hok hs) (rvok hok' hs') (zD9 11 k a b a' b' s s' (by simp;omega) (by simp;omega) (by simp;omega)))
 ·rw[zJj e] at h1
  exact bag (by decide) (by decide) hok hok' _ 0 _ _ _ _ (zJJ RdyB zAd _ _ _ (zAe k a b s hok hk) (zAe k' a' b' s' hok' hk') (fun w _=>zDT 11 _ _ h1 w)) zAh (zMe _ _ _ _ _ _ _ _ _ _ _ _ _ (beq_false_of_ne hk) (beq_false_of_ne hk') (rvok hok hs) (rvok hok' hs') (zFN 11 k a b k' a' b' s s' (beq_false_of_ne e)))
theorem zOf(s s':ByteArray):hasPrefix s.data.toList s'.data.toList=true↔wq15 s s':=by
 unfold hasPrefix wq15;constructor
 ·intro h
  have hl:=(List.isPrefixOf_iff_prefix.1 h).length_le;exact⟨0,by simpa using hl,rfl,by simpa [occAt] using h⟩
 ·rintro⟨j,_,rfl,h⟩
  simpa [occAt] using h
theorem zOe(s s':ByteArray):hasSuffix s.data.toList s'.data.toList=true↔wq17 s s':=by
 unfold hasSuffix wq17;constructor
 ·intro h
  have hs:=List.isSuffixOf_iff_suffix.1 h;have hl:s'.data.toList.length≤s.data.toList.length:=hs.length_le
  have hl':s'.size≤s.size:=by simpa using hl
  refine⟨s.size-s'.size,by omega,by omega,?_⟩;unfold occAt;rw[List.isPrefixOf_iff_prefix];have e:=List.suffix_iff_eq_drop.1 hs
  have e2:s.data.toList.length-s'.data.toList.length=s.size-s'.size:=by simp
  rw[e2] at e;rw[←e];exact List.prefix_refl _
 ·rintro⟨j,_,h2,h⟩
  unfold occAt at h;have hp:=List.isPrefixOf_iff_prefix.1 h
  have hl:(s.data.toList.drop j).length=s'.data.toList.length:=by simp;omega
  have e:=hp.eq_of_length hl.symm;rw[List.isSuffixOf_iff_suffix,e];exact List.drop_suffix _ _
theorem zOd(s s':ByteArray):contains s.data.toList s'.data.toList=true↔wq18 s s':=by
 unfold contains wq18;rw[decide_eq_true_iff]
 rcases index_spec s.data.toList s'.data.toList with ⟨h1,h2⟩|⟨i,h1,h2,h3,h4⟩
 ·rw[h1]
  constructor
  ·intro h;omega
  ·rintro⟨j,hj,_,ho⟩
   have:=h2 j (by simp;omega);rw[this] at ho;cases ho
 ·rw[h1]
  constructor
  ·intro _
   have hp:=(List.isPrefixOf_iff_prefix.1 h3).length_le;exact⟨i,by simp at hp h2;omega,trivial,h3⟩
  ·intro _;omega
theorem zYt(k a b k' a' b':Int)(s s':ByteArray)(hok:okV k a b s=true)(hok':okV k' a' b' s'=true)(hs:s.size≤4611686018427387904)(hs':s'.size≤4611686018427387904)(hk:k≠0)(hk':k'≠0):AgB 15 k a b k' a' b' s s':=by
 by_cases c:k=4
 ·subst c
  by_cases c':k'=4
  ·subst c'
   have hl:=(ok_4 hok).2.2.1;have hl':=(ok_4 hok').2.2.1
   have h3:∀w,CG 45 #[.int .i64 15,V 4 a b s,V 4 a' b' s'] w (.tuple #[V 1 (tI (hasPrefix s.data.toList s'.data.toList)) 0 E0,.int .i64 0]):=fun w=>by
    refine(zUT a b a' b' s s' (by omega) (by omega) w).mono ?_;rintro e w1 ⟨⟨q,rfl,hq⟩,hb⟩
    have:q=hasPrefix s.data.toList s'.data.toList:=by
     rw[Bool.eq_iff_iff,hq,zOf]
    rw[this];exact⟨rfl,hb⟩
   refine bag (by decide) (by decide) hok hok' _ 0 _ _ _ _ (zN3 RdyB zAd _ _ _ _ (zAe 4 a b s hok hk) (zAe 4 a' b' s' hok' hk') ?_) (zAl (hasPrefix s.data.toList s'.data.toList)) (zSO _ _ _ _ _ _ _ _ _ _ _ _ _ (beq_false_of_ne hk) (beq_false_of_ne hk') (rvok hok hs) (rvok hok' hs') h3);rw[zBB hok,zBB hok'];exact fun w hR=>zXk s s' _ w (zWj s s' w)
  ·refine bag (by decide) (by decide) hok hok' .nilIface 10 _ _ _ _ (zN3 RdyB zAd _ _ _ _ (zAe 4 a b s hok hk) (zAe k' a' b' s' hok' hk') ?_) (zAa _ 10 (by decide)) (zSO _ _ _ _ _ _ _ _ _ _ _ _ _ (beq_false_of_ne hk) (beq_false_of_ne hk') (rvok hok hs) (rvok hok' hs') (zHv 15 a b k' a' b' s s' (beq_false_of_ne c')))
   have h2:=zCa k' a' b' s' hok' c';rw[zBB hok];exact fun w _=>zLx 15 s _ h2 w
 ·refine bag (by decide) (by decide) hok hok' .nilIface 10 _ _ _ _ (zN3 RdyB zAd _ _ _ _ (zAe k a b s hok hk) (zAe k' a' b' s' hok' hk') ?_) (zAa _ 10 (by decide)) (zSO _ _ _ _ _ _ _ _ _ _ _ _ _ (beq_false_of_ne hk) (beq_false_of_ne hk') (rvok hok hs) (rvok hok' hs') (zHw 15 k a b k' a' b' s s' (beq_false_of_ne c)))
  have h1:=zCa k a b s hok c
  by_cases c':k'=4
  ·subst c'
   have h2:=zAt (.string s');rw[zBB hok'];exact fun w _=>zFd 15 _ _ h1 s' true h2 w
  ·exact fun w _=>zFd 15 _ _ h1 E0 false (zCa k' a' b' s' hok' c') w
theorem zYs(k a b k' a' b':Int)(s s':ByteArray)(hok:okV k a b s=true)(hok':okV k' a' b' s'=true)(hs:s.size≤4611686018427387904)(hs':s'.size≤4611686018427387904)(hk:k≠0)(hk':k'≠0):AgB 17 k a b k' a' b' s s':=by
 by_cases c:k=4
 ·subst c
  by_cases c':k'=4
  ·subst c'
   have hl:=(ok_4 hok).2.2.1;have hl':=(ok_4 hok').2.2.1
   have h3:∀w,CG 45 #[.int .i64 17,V 4 a b s,V 4 a' b' s'] w (.tuple #[V 1 (tI (hasSuffix s.data.toList s'.data.toList)) 0 E0,.int .i64 0]):=fun w=>by
    refine(zUS a b a' b' s s' (by omega) (by omega) w).mono ?_;rintro e w1 ⟨⟨q,rfl,hq⟩,hb⟩
    have:q=hasSuffix s.data.toList s'.data.toList:=by
     rw[Bool.eq_iff_iff,hq,zOe]
    rw[this];exact⟨rfl,hb⟩
   refine bag (by decide) (by decide) hok hok' _ 0 _ _ _ _ (zN2 RdyB zAd _ _ _ _ (zAe 4 a b s hok hk) (zAe 4 a' b' s' hok' hk') ?_) (zAl (hasSuffix s.data.toList s'.data.toList)) (zSN _ _ _ _ _ _ _ _ _ _ _ _ _ (beq_false_of_ne hk) (beq_false_of_ne hk') (rvok hok hs) (rvok hok' hs') h3);rw[zBB hok,zBB hok'];exact fun w hR=>zXj s s' _ w (zWi s s' (by omega) w)
  ·refine bag (by decide) (by decide) hok hok' .nilIface 10 _ _ _ _ (zN2 RdyB zAd _ _ _ _ (zAe 4 a b s hok hk) (zAe k' a' b' s' hok' hk') ?_) (zAa _ 10 (by decide)) (zSN _ _ _ _ _ _ _ _ _ _ _ _ _ (beq_false_of_ne hk) (beq_false_of_ne hk') (rvok hok hs) (rvok hok' hs') (zHv 17 a b k' a' b' s s' (beq_false_of_ne c')))
   have h2:=zCa k' a' b' s' hok' c';rw[zBB hok];exact fun w _=>zLx 17 s _ h2 w
 ·refine bag (by decide) (by decide) hok hok' .nilIface 10 _ _ _ _ (zN2 RdyB zAd _ _ _ _ (zAe k a b s hok hk) (zAe k' a' b' s' hok' hk') ?_) (zAa _ 10 (by decide)) (zSN _ _ _ _ _ _ _ _ _ _ _ _ _ (beq_false_of_ne hk) (beq_false_of_ne hk') (rvok hok hs) (rvok hok' hs') (zHw 17 k a b k' a' b' s s' (beq_false_of_ne c)))
  have h1:=zCa k a b s hok c
  by_cases c':k'=4
  ·subst c'
   have h2:=zAt (.string s');rw[zBB hok'];exact fun w _=>zFd 17 _ _ h1 s' true h2 w
  ·exact fun w _=>zFd 17 _ _ h1 E0 false (zCa k' a' b' s' hok' c') w
theorem zYr(k a b k' a' b':Int)(s s':ByteArray)(hok:okV k a b s=true)(hok':okV k' a' b' s'=true)(hs:s.size≤4611686018427387904)(hs':s'.size≤4611686018427387904)(hk:k≠0)(hk':k'≠0):AgB 18 k a b k' a' b' s s':=by
 by_cases c:k=4
 ·subst c
  by_cases c':k'=4
  ·subst c'
   have hl:=(ok_4 hok).2.2.1;have hl':=(ok_4 hok').2.2.1
   have h3:∀w,CG 45 #[.int .i64 18,V 4 a b s,V 4 a' b' s'] w (.tuple #[V 1 (tI (contains s.data.toList s'.data.toList)) 0 E0,.int .i64 0]):=fun w=>by
    refine(zUR a b a' b' s s' (by omega) (by omega) w).mono ?_;rintro e w1 ⟨⟨q,rfl,hq⟩,hb⟩
    have:q=contains s.data.toList s'.data.toList:=by
     rw[Bool.eq_iff_iff,hq,zOd]
    rw[this];exact⟨rfl,hb⟩
   refine bag (by decide) (by decide) hok hok' _ 0 _ _ _ _ (zN1 RdyB zAd _ _ _ _ (zAe 4 a b s hok hk) (zAe 4 a' b' s' hok' hk') ?_) (zAl (contains s.data.toList s'.data.toList)) (zSM _ _ _ _ _ _ _ _ _ _ _ _ _ (beq_false_of_ne hk) (beq_false_of_ne hk') (rvok hok hs) (rvok hok' hs') h3);rw[zBB hok,zBB hok'];exact fun w hR=>zXi s s' _ w (zWM s s' hl w hR.2.2)
  ·refine bag (by decide) (by decide) hok hok' .nilIface 10 _ _ _ _ (zN1 RdyB zAd _ _ _ _ (zAe 4 a b s hok hk) (zAe k' a' b' s' hok' hk') ?_) (zAa _ 10 (by decide)) (zSM _ _ _ _ _ _ _ _ _ _ _ _ _ (beq_false_of_ne hk) (beq_false_of_ne hk') (rvok hok hs) (rvok hok' hs') (zHv 18 a b k' a' b' s s' (beq_false_of_ne c')))
   have h2:=zCa k' a' b' s' hok' c';rw[zBB hok];exact fun w _=>zLx 18 s _ h2 w
 ·refine bag (by decide) (by decide) hok hok' .nilIface 10 _ _ _ _ (zN1 RdyB zAd _ _ _ _ (zAe k a b s hok hk) (zAe k' a' b' s' hok' hk') ?_) (zAa _ 10 (by decide)) (zSM _ _ _ _ _ _ _ _ _ _ _ _ _ (beq_false_of_ne hk) (beq_false_of_ne hk') (rvok hok hs) (rvok hok' hs') (zHw 18 k a b k' a' b' s s' (beq_false_of_ne c)))
  have h1:=zCa k a b s hok c
  by_cases c':k'=4
  ·subst c'
   have h2:=zAt (.string s');rw[zBB hok'];exact fun w _=>zFd 18 _ _ h1 s' true h2 w
  ·exact fun w _=>zFd 18 _ _ h1 E0 false (zCa k' a' b' s' hok' c') w
theorem zYB(k a b k' a' b':Int)(s s':ByteArray)(hok:okV k a b s=true)(hok':okV k' a' b' s'=true)(hs:s.size≤4611686018427387904)(hs':s'.size≤4611686018427387904)(hk:k≠0)(hk':k'≠0):AgB 16 k a b k' a' b' s s':=by
 by_cases c:k=2
 ·subst c
  obtain⟨rfl,rfl⟩:=ok_2 hok
  by_cases c':k'=2
  ·subst c'
   obtain⟨rfl,rfl⟩:=ok_2 hok';have h0:=zYp a a';have p1:=zBW a;have p2:=zBW a';have q1:=zAy a;have q2:=zAy a';generalize zAD a=x at h0 p1 q1;generalize zAD a'=y at h0 p2 q2;cases x
   ·rw[Bool.false_and,if_neg (by decide)] at h0
    refine bag (by decide) (by decide) hok hok' .nilIface 11 _ _ _ _ (zG9 RdyB zAd _ _ _ _ (zAe 2 a 0 E0 hok hk) (zAe 2 a' 0 E0 hok' hk') ?_) (zAa _ 11 (by decide)) (zMd _ _ _ _ _ _ _ _ _ _ _ _ _ (beq_false_of_ne hk) (beq_false_of_ne hk') (rvok hok hs) (rvok hok' hs') (zR3 a 0 a' 0 E0 E0 p1));rw[zAP hok,zAP hok'];exact fun w _=>h0 w
   ·cases y
    ·rw[Bool.and_false,if_neg (by decide)] at h0
     refine bag (by decide) (by decide) hok hok' .nilIface 11 _ _ _ _ (zG9 RdyB zAd _ _ _ _ (zAe 2 a 0 E0 hok hk) (zAe 2 a' 0 E0 hok' hk') ?_) (zAa _ 11 (by decide)) (zMd _ _ _ _ _ _ _ _ _ _ _ _ _ (beq_false_of_ne hk) (beq_false_of_ne hk') (rvok hok hs) (rvok hok' hs') (zR2 a 0 a' 0 E0 E0 p1 p2));rw[zAP hok,zAP hok'];exact fun w _=>h0 w
    ·rw[Bool.and_true,if_pos rfl] at h0
     have r1:=q1.1 rfl;have r2:=q2.1 rfl;refine bag (by decide) (by decide) hok hok' _ 0 _ _ _ _ (zG9 RdyB zAd _ _ _ _ (zAe 2 a 0 E0 hok hk) (zAe 2 a' 0 E0 hok' hk') ?_) (zA9 _ _ a a' (Fl.ofInt a (by omega)) (Fl.ofInt a' (by omega)) (by omega) (by omega)) (zMd _ _ _ _ _ _ _ _ _ _ _ _ _ (beq_false_of_ne hk) (beq_false_of_ne hk') (rvok hok hs) (rvok hok' hs') (zR4 a 0 a' 0 E0 E0 p1 p2));rw[zAP hok,zAP hok'];exact fun w _=>h0 w
  ·refine bag (by decide) (by decide) hok hok' .nilIface 10 _ _ _ _ (zG9 RdyB zAd _ _ _ _ (zAe 2 a 0 E0 hok hk) (zAe k' a' b' s' hok' hk') ?_) (zAa _ 10 (by decide)) (zMd _ _ _ _ _ _ _ _ _ _ _ _ _ (beq_false_of_ne hk) (beq_false_of_ne hk') (rvok hok hs) (rvok hok' hs') (zOz a 0 k' a' b' E0 s' (beq_false_of_ne c')))
   have h2:=zBH k' a' b' s' hok' c';rw[zAP hok];exact fun w _=>zWO a _ h2 w
 ·refine bag (by decide) (by decide) hok hok' .nilIface 10 _ _ _ _ (zG9 RdyB zAd _ _ _ _ (zAe k a b s hok hk) (zAe k' a' b' s' hok' hk') ?_) (zAa _ 10 (by decide)) (zMd _ _ _ _ _ _ _ _ _ _ _ _ _ (beq_false_of_ne hk) (beq_false_of_ne hk') (rvok hok hs) (rvok hok' hs') (zOA k a b k' a' b' s s' (beq_false_of_ne c)))
  have h1:=zBH k a b s hok c
  by_cases c':k'=2
  ·subst c'
   rw[zAP hok'];exact fun w _=>zRs _ _ h1 ⟨_,_,zAr _⟩ w
  ·exact fun w _=>zRs _ _ h1 ⟨_,_,zBH k' a' b' s' hok' c'⟩ w
end
end Go.Proofs.YthmdjhfbhbheeaaGreatDoor
