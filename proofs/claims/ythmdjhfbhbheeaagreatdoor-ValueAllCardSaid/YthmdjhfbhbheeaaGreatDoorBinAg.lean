import Derived.BigQuiet
import Derived.Test.YthmdjhfbhbheeaaGreatDoorShelf2
import Derived.Test.YthmdjhfbhbheeaaGreatDoorRefBin
namespace Go.Proofs.YthmdjhfbhbheeaaGreatDoor
open Go.Proofs.Tryz
set_option maxHeartbeats 1000000
set_option maxRecDepth 100000
section
open Go.RowKit Go.Lib Go.Shelf
def Mx(w:World):Prop:=3<w.heap.size∧∃m,w.cell? ⟨3,0,none⟩=some (.int .i64 m)
theorem Mx.G{w w':World}(h:Mx w)(g:G w w'):Mx w':=⟨Nat.lt_of_lt_of_le h.1 g.size,h.2.imp fun _ hm=>(g.cell h.1).trans hm⟩
theorem hp_any(s p:ByteArray)(w:World):Calls prog 118 #[.string s,.string p] w fun e w'=>e=.returned (.bool (hasPrefix s.data.toList p.data.toList))∧w'=w:=
 Any.strings_HasPrefix Tryz.laysHasPrefix s p w
theorem hs_any(s p:ByteArray)(h:s.size≤4611686018427387903)(w:World):Calls prog 119 #[.string s,.string p] w fun e w'=>e=.returned (.bool (hasSuffix s.data.toList p.data.toList))∧w'=w:=
 Any.strings_HasSuffix Tryz.laysHasSuffix s p w (by omega)
theorem ct_any(s p:ByteArray)(h:s.size≤32)(w:World)(hm:Mx w):Calls prog 120 #[.string s,.string p] w fun e w'=>e=.returned (.bool (contains s.data.toList p.data.toList))∧w'=w:=by
 obtain⟨_,m,hc⟩:=hm
 exact Any.strings_Contains Tryz.laysContains s p m w (by omega) hc
theorem se_no1(op:Int)(x y:Value)(h1:∀w,(Instr.typeAssert x 49 137 true).run prog w=.ok (.tuple #[.string E0,.bool false]) w)(z:ByteArray)(q:Bool)(h2:∀w,(Instr.typeAssert y 49 137 true).run prog w=.ok (.tuple #[.string z,.bool q]) w)(w:World):Calls prog 86 #[.int .i64 op,x,y] w fun e w'=>e=.returned (.tuple #[.nilIface,.int .i64 10])∧G w w':=by
 go_enter func86,ntmps86
 go_wp2
 go_ret2
 exact⟨rfl,G.refl _⟩
theorem se_no2(op:Int)(s:ByteArray)(y:Value)(h2:∀w,(Instr.typeAssert y 49 137 true).run prog w=.ok (.tuple #[.string E0,.bool false]) w)(w:World):Calls prog 86 #[.int .i64 op,.iface 137 (.string s),y] w fun e w'=>e=.returned (.tuple #[.nilIface,.int .i64 10])∧G w w':=by
 have a1:=as_str_str (.string s)
 go_enter func86,ntmps86
 go_wp2
 go_ret2
 exact⟨rfl,G.refl _⟩
theorem se_15(s s':ByteArray)(q:Bool)(w:World)(h:Calls prog 118 #[.string s,.string s'] w fun e w'=>e=.returned (.bool q)∧w'=w):Calls prog 86 #[.int .i64 15,.iface 137 (.string s),.iface 137 (.string s')] w fun e w'=>e=.returned (.tuple #[.iface 111 (.bool q),.int .i64 0])∧G w w':=by
 have a1:=as_str_str (.string s)
 have a2:=as_str_str (.string s')
 have H:Hid _:=h
 clear h
 go_enter func86,ntmps86
 go_wp2_with fail
 refine Calls.mono (Hid.out H) ?_
 rintro e w1 ⟨rfl,rfl⟩
 go_wp2
 go_ret2
 exact⟨rfl,G.refl _⟩
theorem se_17(s s':ByteArray)(q:Bool)(w:World)(h:Calls prog 119 #[.string s,.string s'] w fun e w'=>e=.returned (.bool q)∧w'=w):Calls prog 86 #[.int .i64 17,.iface 137 (.string s),.iface 137 (.string s')] w fun e w'=>e=.returned (.tuple #[.iface 111 (.bool q),.int .i64 0])∧G w w':=by
 have a1:=as_str_str (.string s)
 have a2:=as_str_str (.string s')
 have H:Hid _:=h
 clear h
 go_enter func86,ntmps86
 go_wp2_with fail
 refine Calls.mono (Hid.out H) ?_
 rintro e w1 ⟨rfl,rfl⟩
 go_wp2
 go_ret2
 exact⟨rfl,G.refl _⟩
theorem se_18(s s':ByteArray)(q:Bool)(w:World)(h:Calls prog 120 #[.string s,.string s'] w fun e w'=>e=.returned (.bool q)∧w'=w):Calls prog 86 #[.int .i64 18,.iface 137 (.string s),.iface 137 (.string s')] w fun e w'=>e=.returned (.tuple #[.iface 111 (.bool q),.int .i64 0])∧G w w':=by
 have a1:=as_str_str (.string s)
 have a2:=as_str_str (.string s')
 have H:Hid _:=h
 clear h
 go_enter func86,ntmps86
 go_wp2_with fail
 refine Calls.mono (Hid.out H) ?_
 rintro e w1 ⟨rfl,rfl⟩
 go_wp2
 go_ret2
 exact⟨rfl,G.refl _⟩
theorem rwi_no1(op k a b k' a' b':Int)(s s':ByteArray)(h:(k==4)=false)(w:World):Calls prog 45 #[.int .i64 op,V k a b s,V k' a' b' s'] w fun e w'=>e=.returned (.tuple #[V0,.int .i64 10])∧G w w':=by
 have h':(k != 4)=true:=by rw[bne,h];rfl
 go_enter func45,ntmps45
 go_wp2
 exact bodyPost_ret (v:=.tuple #[V0,.int .i64 10]) (by simp[results,results45,go_sem]) rfl ⟨rfl,by
  repeat(first|exact G.refl _|refine G.alloc ?_ _|refine G.setCell ?_ (by simp;try omega) _)⟩
theorem rwi_no2(op a b k' a' b':Int)(s s':ByteArray)(h:(k'==4)=false)(w:World):Calls prog 45 #[.int .i64 op,V 4 a b s,V k' a' b' s'] w fun e w'=>e=.returned (.tuple #[V0,.int .i64 10])∧G w w':=by
 have h':(k' != 4)=true:=by rw[bne,h];rfl
 go_enter func45,ntmps45
 go_wp2
 exact bodyPost_ret (v:=.tuple #[V0,.int .i64 10]) (by simp[results,results45,go_sem]) rfl ⟨rfl,by
  repeat(first|exact G.refl _|refine G.alloc ?_ _|refine G.setCell ?_ (by simp;try omega) _)⟩
theorem sub_at(s s':ByteArray)(i:Nat):((s.extract i (i+s'.size)).toList==s'.toList)=occAt s.data.toList s'.data.toList i:=by
 rw[ByteArray.toList_eq,ByteArray.toList_eq]
 have e:(s.extract i (i+s'.size)).data.toList=(s.data.toList.drop i).take s'.data.toList.length:=by
  simp[ByteArray.data_extract,List.take_drop]
 rw[e]
 unfold occAt
 generalize s'.data.toList=p
 generalize s.data.toList.drop i=l
 rw[Bool.eq_iff_iff,beq_iff_eq,List.isPrefixOf_iff_prefix,List.prefix_iff_eq_take]
 exact eq_comm
def wq15(s s':ByteArray):Prop:=∃j,j+s'.size≤s.size∧(j=0)∧occAt s.data.toList s'.data.toList j=true
theorem rwi_15(a b a' b':Int)(s s':ByteArray)(hs:s.size≤4611686018427387903)(hs':s'.size≤4611686018427387903)(w:World) :
  Calls prog 45 #[.int .i64 15,V 4 a b s,V 4 a' b' s'] w fun e w'=>(∃q:Bool,e=.returned (.tuple #[V 1 (tI q) 0 E0,.int .i64 0])∧(q=true↔wq15 s s'))∧G w w':=by
 have HS:∀i,Hid (((s.extract i (i+s'.size)).toList==s'.toList)=occAt s.data.toList s'.data.toList i):=fun i=>sub_at s s' i
 go_enter func45,ntmps45
 go_wp2
 go_loopw [9] (fun i W=>∃m:Nat,(m:Int)≤max 0 ((s.size:Int)-s'.size+1)∧i=.int .i64 m∧(∃n,W=(((w.alloc (.cells #[I 4,I a,I b,.string s] 31)).alloc (.cells #[I 4,I a',I b',.string s'] 31)).alloc (.cells #[I 0,I 0,I 0,.string E0] 31)).drewN n)∧Hid (∀j,j<m→(j=0)→occAt s.data.toList s'.data.toList j=false)) (fun i _=>s.size+1-(RowKit.intOf i).toNat)
 case atStart=>exact⟨0,by omega,rfl,⟨0,rfl⟩,fun j hj=>absurd hj (Nat.not_lt_zero j)⟩
 case round=>
  obtain⟨m,hm,rfl,⟨n,rfl⟩,HI⟩:=hrel
  by_cases hr:(m:Int)≤(s.size:Int)-s'.size
  ·have i1:m+s'.size≤s.size:=by omega
   have i2:wrap64 ((m:Int)+(s'.size:Int))=(m:Int)+(s'.size:Int):=by unfold wrap64;omega
   by_cases hz:m=0
   ·have hz':((m:Int)==0)=true:=by simp;omega
    have HZ:Hid _:=hz
    clear hz
    by_cases ho:occAt s.data.toList s'.data.toList m=true
    ·have hq:wq15 s s':=⟨m,i1,HZ.out,ho⟩
     have he:((s.extract m (m+s'.size)).toList==s'.toList)=true:=by rw[(HS m).out];exact ho
     have HQ:Hid _:=hq
     clear hq
     go_wp2
     go_quiet (fail)
     go_wp2_with fail
     refine(rtruth_yes _).mono ?_
     rintro e w1 ⟨rfl,hb1⟩
     have g1:G w w1:=((((((G.refl w).alloc _).alloc _).alloc _).drewK _)).trans hb1
     obtain⟨hc1,hf1⟩:=hb1.rules
     go_wp2
     exact bodyPost_ret (v:=.tuple #[V 1 1 0 E0,.int .i64 0]) (by simp[results,results45,go_sem,hc1]) rfl ⟨⟨true,rfl,fun _=>HQ.out,fun _=>rfl⟩,by
      repeat(first|exact g1|refine G.alloc ?_ _|refine G.setCell ?_ (by simp;try omega) _)⟩
    ·have ho':occAt s.data.toList s'.data.toList m=false:=by simpa using ho
     have he:((s.extract m (m+s'.size)).toList==s'.toList)=false:=by rw[(HS m).out];exact ho'
     have HO:Hid _:=ho'
     clear ho ho'
     go_wp2
     go_quiet (fail)
     go_wp2
     go_roundw
     case rel=>exact⟨m+1,by omega,by go_num,by first|exact⟨_,rfl⟩|exact⟨_,World.drewN_drewN _ _ _⟩,fun j hj hp=>by
      rcases Nat.lt_or_ge j m with c|c
      ·exact HI.out j c hp
      ·have e:j=m:=by omega
       rw[e];exact HO.out⟩
     case measure=>simp[RowKit.intOf];omega
   ·have hz':((m:Int)==0)=false:=by simp;omega
    have HN:Hid (¬m=0):=hz
    clear hz
    go_wp2
    go_quiet (fail)
    go_wp2
    go_roundw
    case rel=>exact⟨m+1,by omega,by go_num,by first|exact⟨_,rfl⟩|exact⟨_,World.drewN_drewN _ _ _⟩,fun j hj hp=>by
     rcases Nat.lt_or_ge j m with c|c
     ·exact HI.out j c hp
     ·have e:j=m:=by omega
      subst e
      exact absurd hp HN.out⟩
    case measure=>simp[RowKit.intOf];omega
  ·have hn:¬wq15 s s':=fun ⟨j,h1,h2,h3⟩=>by
    have:=HI.out j (by omega) h2
    rw[this] at h3
    cases h3
   have HQ:Hid _:=hn
   clear hn
   go_wp2_with fail
   refine(rtruth_no _).mono ?_
   rintro e w1 ⟨rfl,hb1⟩
   have g1:G w w1:=(((((G.refl w).alloc _).alloc _).alloc _).drewK _).trans hb1
   obtain⟨hc1,hf1⟩:=hb1.rules
   go_wp2
   exact bodyPost_ret (v:=.tuple #[V 1 0 0 E0,.int .i64 0]) (by simp[results,results45,go_sem,hc1]) rfl ⟨⟨false,rfl,fun h=>Bool.noConfusion h,fun h=>absurd h HQ.out⟩,by
    repeat(first|exact g1|refine G.alloc ?_ _|refine G.setCell ?_ (by simp;try omega) _)⟩
def wq17(s s':ByteArray):Prop:=∃j,j+s'.size≤s.size∧(j+s'.size=s.size)∧occAt s.data.toList s'.data.toList j=true
theorem rwi_17(a b a' b':Int)(s s':ByteArray)(hs:s.size≤4611686018427387903)(hs':s'.size≤4611686018427387903)(w:World) :
  Calls prog 45 #[.int .i64 17,V 4 a b s,V 4 a' b' s'] w fun e w'=>(∃q:Bool,e=.returned (.tuple #[V 1 (tI q) 0 E0,.int .i64 0])∧(q=true↔wq17 s s'))∧G w w':=by
 have HS:∀i,Hid (((s.extract i (i+s'.size)).toList==s'.toList)=occAt s.data.toList s'.data.toList i):=fun i=>sub_at s s' i
 go_enter func45,ntmps45
 go_wp2
 go_loopw [9] (fun i W=>∃m:Nat,(m:Int)≤max 0 ((s.size:Int)-s'.size+1)∧i=.int .i64 m∧(∃n,W=(((w.alloc (.cells #[I 4,I a,I b,.string s] 31)).alloc (.cells #[I 4,I a',I b',.string s'] 31)).alloc (.cells #[I 0,I 0,I 0,.string E0] 31)).drewN n)∧Hid (∀j,j<m→(j+s'.size=s.size)→occAt s.data.toList s'.data.toList j=false)) (fun i _=>s.size+1-(RowKit.intOf i).toNat)
 case atStart=>exact⟨0,by omega,rfl,⟨0,rfl⟩,fun j hj=>absurd hj (Nat.not_lt_zero j)⟩
 case round=>
  obtain⟨m,hm,rfl,⟨n,rfl⟩,HI⟩:=hrel
  by_cases hr:(m:Int)≤(s.size:Int)-s'.size
  ·have i1:m+s'.size≤s.size:=by omega
   have i2:wrap64 ((m:Int)+(s'.size:Int))=(m:Int)+(s'.size:Int):=by unfold wrap64;omega
   by_cases hz:m+s'.size=s.size
   ·have hz':((m:Int)==(s.size:Int)-(s'.size:Int))=true:=by simp;omega
    have HZ:Hid _:=hz
    clear hz
    by_cases ho:occAt s.data.toList s'.data.toList m=true
    ·have hq:wq17 s s':=⟨m,i1,HZ.out,ho⟩
     have he:((s.extract m (m+s'.size)).toList==s'.toList)=true:=by rw[(HS m).out];exact ho
     have HQ:Hid _:=hq
     clear hq
     go_wp2
     go_quiet (fail)
     go_wp2_with fail
     refine(rtruth_yes _).mono ?_
     rintro e w1 ⟨rfl,hb1⟩
     have g1:G w w1:=((((((G.refl w).alloc _).alloc _).alloc _).drewK _)).trans hb1
     obtain⟨hc1,hf1⟩:=hb1.rules
     go_wp2
     exact bodyPost_ret (v:=.tuple #[V 1 1 0 E0,.int .i64 0]) (by simp[results,results45,go_sem,hc1]) rfl ⟨⟨true,rfl,fun _=>HQ.out,fun _=>rfl⟩,by
      repeat(first|exact g1|refine G.alloc ?_ _|refine G.setCell ?_ (by simp;try omega) _)⟩
    ·have ho':occAt s.data.toList s'.data.toList m=false:=by simpa using ho
     have he:((s.extract m (m+s'.size)).toList==s'.toList)=false:=by rw[(HS m).out];exact ho'
     have HO:Hid _:=ho'
     clear ho ho'
     go_wp2
     go_quiet (fail)
     go_wp2
     go_roundw
     case rel=>exact⟨m+1,by omega,by go_num,by first|exact⟨_,rfl⟩|exact⟨_,World.drewN_drewN _ _ _⟩,fun j hj hp=>by
      rcases Nat.lt_or_ge j m with c|c
      ·exact HI.out j c hp
      ·have e:j=m:=by omega
       rw[e];exact HO.out⟩
     case measure=>simp[RowKit.intOf];omega
   ·have hz':((m:Int)==(s.size:Int)-(s'.size:Int))=false:=by simp;omega
    have HN:Hid (¬m+s'.size=s.size):=hz
    clear hz
    go_wp2
    go_quiet (fail)
    go_wp2
    go_roundw
    case rel=>exact⟨m+1,by omega,by go_num,by first|exact⟨_,rfl⟩|exact⟨_,World.drewN_drewN _ _ _⟩,fun j hj hp=>by
     rcases Nat.lt_or_ge j m with c|c
     ·exact HI.out j c hp
     ·have e:j=m:=by omega
      subst e
      exact absurd hp HN.out⟩
    case measure=>simp[RowKit.intOf];omega
  ·have hn:¬wq17 s s':=fun ⟨j,h1,h2,h3⟩=>by
    have:=HI.out j (by omega) h2
    rw[this] at h3
    cases h3
   have HQ:Hid _:=hn
   clear hn
   go_wp2_with fail
   refine(rtruth_no _).mono ?_
   rintro e w1 ⟨rfl,hb1⟩
   have g1:G w w1:=(((((G.refl w).alloc _).alloc _).alloc _).drewK _).trans hb1
   obtain⟨hc1,hf1⟩:=hb1.rules
   go_wp2
   exact bodyPost_ret (v:=.tuple #[V 1 0 0 E0,.int .i64 0]) (by simp[results,results45,go_sem,hc1]) rfl ⟨⟨false,rfl,fun h=>Bool.noConfusion h,fun h=>absurd h HQ.out⟩,by
    repeat(first|exact g1|refine G.alloc ?_ _|refine G.setCell ?_ (by simp;try omega) _)⟩
def wq18(s s':ByteArray):Prop:=∃j,j+s'.size≤s.size∧(True)∧occAt s.data.toList s'.data.toList j=true
theorem rwi_18(a b a' b':Int)(s s':ByteArray)(hs:s.size≤4611686018427387903)(hs':s'.size≤4611686018427387903)(w:World) :
  Calls prog 45 #[.int .i64 18,V 4 a b s,V 4 a' b' s'] w fun e w'=>(∃q:Bool,e=.returned (.tuple #[V 1 (tI q) 0 E0,.int .i64 0])∧(q=true↔wq18 s s'))∧G w w':=by
 have HS:∀i,Hid (((s.extract i (i+s'.size)).toList==s'.toList)=occAt s.data.toList s'.data.toList i):=fun i=>sub_at s s' i
 go_enter func45,ntmps45
 go_wp2
 go_loopw [9] (fun i W=>∃m:Nat,(m:Int)≤max 0 ((s.size:Int)-s'.size+1)∧i=.int .i64 m∧(∃n,W=(((w.alloc (.cells #[I 4,I a,I b,.string s] 31)).alloc (.cells #[I 4,I a',I b',.string s'] 31)).alloc (.cells #[I 0,I 0,I 0,.string E0] 31)).drewN n)∧Hid (∀j,j<m→(True)→occAt s.data.toList s'.data.toList j=false)) (fun i _=>s.size+1-(RowKit.intOf i).toNat)
 case atStart=>exact⟨0,by omega,rfl,⟨0,rfl⟩,fun j hj=>absurd hj (Nat.not_lt_zero j)⟩
 case round=>
  obtain⟨m,hm,rfl,⟨n,rfl⟩,HI⟩:=hrel
  by_cases hr:(m:Int)≤(s.size:Int)-s'.size
  ·have i1:m+s'.size≤s.size:=by omega
   have i2:wrap64 ((m:Int)+(s'.size:Int))=(m:Int)+(s'.size:Int):=by unfold wrap64;omega
   by_cases ho:occAt s.data.toList s'.data.toList m=true
   ·have hq:wq18 s s':=⟨m,i1,trivial,ho⟩
    have he:((s.extract m (m+s'.size)).toList==s'.toList)=true:=by rw[(HS m).out];exact ho
    have HQ:Hid _:=hq
    clear hq
    go_wp2
    go_quiet (fail)
    go_wp2_with fail
    refine(rtruth_yes _).mono ?_
    rintro e w1 ⟨rfl,hb1⟩
    have g1:G w w1:=((((((G.refl w).alloc _).alloc _).alloc _).drewK _)).trans hb1
    obtain⟨hc1,hf1⟩:=hb1.rules
    go_wp2
    exact bodyPost_ret (v:=.tuple #[V 1 1 0 E0,.int .i64 0]) (by simp[results,results45,go_sem,hc1]) rfl ⟨⟨true,rfl,fun _=>HQ.out,fun _=>rfl⟩,by
     repeat(first|exact g1|refine G.alloc ?_ _|refine G.setCell ?_ (by simp;try omega) _)⟩
   ·have ho':occAt s.data.toList s'.data.toList m=false:=by simpa using ho
    have he:((s.extract m (m+s'.size)).toList==s'.toList)=false:=by rw[(HS m).out];exact ho'
    have HO:Hid _:=ho'
    clear ho ho'
    go_wp2
    go_quiet (fail)
    go_wp2
    go_roundw
    case rel=>exact⟨m+1,by omega,by go_num,by first|exact⟨_,rfl⟩|exact⟨_,World.drewN_drewN _ _ _⟩,fun j hj hp=>by
     rcases Nat.lt_or_ge j m with c|c
     ·exact HI.out j c hp
     ·have e:j=m:=by omega
      rw[e];exact HO.out⟩
    case measure=>simp[RowKit.intOf];omega
  ·have hn:¬wq18 s s':=fun ⟨j,h1,h2,h3⟩=>by
    have:=HI.out j (by omega) h2
    rw[this] at h3
    cases h3
   have HQ:Hid _:=hn
   clear hn
   go_wp2_with fail
   refine(rtruth_no _).mono ?_
   rintro e w1 ⟨rfl,hb1⟩
   have g1:G w w1:=(((((G.refl w).alloc _).alloc _).alloc _).drewK _).trans hb1
   obtain⟨hc1,hf1⟩:=hb1.rules
   go_wp2
   exact bodyPost_ret (v:=.tuple #[V 1 0 0 E0,.int .i64 0]) (by simp[results,results45,go_sem,hc1]) rfl ⟨⟨false,rfl,fun h=>Bool.noConfusion h,fun h=>absurd h HQ.out⟩,by
    repeat(first|exact g1|refine G.alloc ?_ _|refine G.setCell ?_ (by simp;try omega) _)⟩
end
section
open Go.RowKit Go.Lib Go.Shelf
def RdyB(w:World):Prop:=Tabs w∧Rks w∧Mx w
theorem RdyB.G{w w':World}(h:RdyB w)(g:G w w'):RdyB w':=⟨h.1.G g,h.2.1.G g,h.2.2.G g⟩
theorem rdyB_G:∀W W1,RdyB W→G W W1→RdyB W1:=fun _ _ h g=>h.G g
def AgB(op k a b k' a' b':Int)(s s':ByteArray):Prop:=∃(rk ra rb:Int) (rs:ByteArray) (c:Int),(∀w,RdyB w→Calls prog 16 #[.int .i64 op,V k a b s,V k' a' b' s'] w fun e w'=>e=.returned (.tuple #[V rk ra rb rs,.int .i64 c])∧G w w')∧
 (∀w,Calls prog 17 #[.int .i64 op,V k a b s,V k' a' b' s'] w fun e w'=>e=.returned (.tuple #[V rk ra rb rs,.int .i64 c])∧G w w')
theorem bag{op k a b k' a' b':Int}{s s':ByteArray}(ho:1≤op)(ho':op≤18)(hok:okV k a b s=true)(hok':okV k' a' b' s'=true)(rv:Value)(c rk ra rb:Int)(rs:ByteArray)
  (h3:∀w,RdyB w→Calls prog 41 #[.int .i64 op,itemV k a b s,itemV k' a' b' s'] w fun e w'=>e=.returned (.tuple #[rv,.int .i64 c])∧G w w')
  (h4:∀w,Calls prog 35 #[rv,.int .i64 c] w fun e w'=>e=.returned (.tuple #[V rk ra rb rs,.int .i64 c])∧G w w')
  (h5:∀w,Calls prog 17 #[.int .i64 op,V k a b s,V k' a' b' s'] w fun e w'=>e=.returned (.tuple #[V rk ra rb rs,.int .i64 c])∧G w w'):AgB op k a b k' a' b' s s':=
 ⟨rk,ra,rb,rs,c,fun w hR=>Binary_of2 RdyB rdyB_G op k a b k' a' b' s s' ho ho' hok hok' _ _ rv c c rk ra rb rs rfl rfl h3 h4 w hR.1 hR,h5⟩
theorem rvok{k a b:Int}{s:ByteArray}(hok:okV k a b s=true)(hs:s.size≤4611686018427387904):∀w,Calls prog 26 #[V k a b s] w fun e w'=>e=.returned (.bool true)∧G w w':=rv_nz true hs hok
theorem ok_ff:okV 1 0 0 E0=true:=by
 have h:E0.toList=[]:=by rw[ByteArray.toList_eq]
 simp[okV,h]
theorem ok_tt:okV 1 1 0 E0=true:=by
 have h:E0.toList=[]:=by rw[ByteArray.toList_eq]
 simp[okV,h]
theorem it_ff:itemV 1 0 0 E0=.iface 111 (.bool false):=by rw[itV_1 (a:=0) ok_ff];rfl
theorem it_tt:itemV 1 1 0 E0=.iface 111 (.bool true):=by rw[itV_1 (a:=1) ok_tt];rfl
theorem it_nl:itemV 0 0 0 E0=.iface 110 (.agg #[]):=itV_0 ok_null
theorem bl_12_00:AgB 12 1 0 0 1 0 0 E0 E0:=by
 refine bag (by decide) (by decide) ok_ff ok_ff (.iface 111 (.bool false)) 0 _ _ _ _ ?_ answer_ff (rB_12 _ _ _ _ _ _ _ _ _ _ _ _ _ (rvok ok_ff (by decide)) (rvok ok_ff (by decide)) rlog_12_00)
 rw[it_ff]
 exact bin_12 RdyB rdyB_G _ _ _ _ (fun w _=>log_12_00 w)
theorem bl_12_01:AgB 12 1 0 0 1 1 0 E0 E0:=by
 refine bag (by decide) (by decide) ok_ff ok_tt (.iface 111 (.bool false)) 0 _ _ _ _ ?_ answer_ff (rB_12 _ _ _ _ _ _ _ _ _ _ _ _ _ (rvok ok_ff (by decide)) (rvok ok_tt (by decide)) rlog_12_01)
 rw[it_ff,it_tt]
 exact bin_12 RdyB rdyB_G _ _ _ _ (fun w _=>log_12_01 w)
theorem bl_12_02:AgB 12 1 0 0 0 0 0 E0 E0:=by
 refine bag (by decide) (by decide) ok_ff ok_null (.iface 111 (.bool false)) 0 _ _ _ _ ?_ answer_ff (rB_12 _ _ _ _ _ _ _ _ _ _ _ _ _ (rvok ok_ff (by decide)) (rvok ok_null (by decide)) rlog_12_02)
 rw[it_ff,it_nl]
 exact bin_12 RdyB rdyB_G _ _ _ _ (fun w _=>log_12_02 w)
theorem bl_12_10:AgB 12 1 1 0 1 0 0 E0 E0:=by
 refine bag (by decide) (by decide) ok_tt ok_ff (.iface 111 (.bool false)) 0 _ _ _ _ ?_ answer_ff (rB_12 _ _ _ _ _ _ _ _ _ _ _ _ _ (rvok ok_tt (by decide)) (rvok ok_ff (by decide)) rlog_12_10)
 rw[it_tt,it_ff]
 exact bin_12 RdyB rdyB_G _ _ _ _ (fun w _=>log_12_10 w)
theorem bl_12_11:AgB 12 1 1 0 1 1 0 E0 E0:=by
 refine bag (by decide) (by decide) ok_tt ok_tt (.iface 111 (.bool true)) 0 _ _ _ _ ?_ answer_tt (rB_12 _ _ _ _ _ _ _ _ _ _ _ _ _ (rvok ok_tt (by decide)) (rvok ok_tt (by decide)) rlog_12_11)
 rw[it_tt]
 exact bin_12 RdyB rdyB_G _ _ _ _ (fun w _=>log_12_11 w)
theorem bl_12_12:AgB 12 1 1 0 0 0 0 E0 E0:=by
 refine bag (by decide) (by decide) ok_tt ok_null (.iface 110 (.agg #[])) 0 _ _ _ _ ?_ answer_null (rB_12 _ _ _ _ _ _ _ _ _ _ _ _ _ (rvok ok_tt (by decide)) (rvok ok_null (by decide)) rlog_12_12)
 rw[it_tt,it_nl]
 exact bin_12 RdyB rdyB_G _ _ _ _ (fun w _=>log_12_12 w)
theorem bl_12_20:AgB 12 0 0 0 1 0 0 E0 E0:=by
 refine bag (by decide) (by decide) ok_null ok_ff (.iface 111 (.bool false)) 0 _ _ _ _ ?_ answer_ff (rB_12 _ _ _ _ _ _ _ _ _ _ _ _ _ (rvok ok_null (by decide)) (rvok ok_ff (by decide)) rlog_12_20)
 rw[it_nl,it_ff]
 exact bin_12 RdyB rdyB_G _ _ _ _ (fun w _=>log_12_20 w)
theorem bl_12_21:AgB 12 0 0 0 1 1 0 E0 E0:=by
 refine bag (by decide) (by decide) ok_null ok_tt (.iface 110 (.agg #[])) 0 _ _ _ _ ?_ answer_null (rB_12 _ _ _ _ _ _ _ _ _ _ _ _ _ (rvok ok_null (by decide)) (rvok ok_tt (by decide)) rlog_12_21)
 rw[it_nl,it_tt]
 exact bin_12 RdyB rdyB_G _ _ _ _ (fun w _=>log_12_21 w)
theorem bl_12_22:AgB 12 0 0 0 0 0 0 E0 E0:=by
 refine bag (by decide) (by decide) ok_null ok_null (.iface 110 (.agg #[])) 0 _ _ _ _ ?_ answer_null (rB_12 _ _ _ _ _ _ _ _ _ _ _ _ _ (rvok ok_null (by decide)) (rvok ok_null (by decide)) rlog_12_22)
 rw[it_nl]
 exact bin_12 RdyB rdyB_G _ _ _ _ (fun w _=>log_12_22 w)
theorem bl_13_00:AgB 13 1 0 0 1 0 0 E0 E0:=by
 refine bag (by decide) (by decide) ok_ff ok_ff (.iface 111 (.bool false)) 0 _ _ _ _ ?_ answer_ff (rB_13 _ _ _ _ _ _ _ _ _ _ _ _ _ (rvok ok_ff (by decide)) (rvok ok_ff (by decide)) rlog_13_00)
 rw[it_ff]
 exact bin_13 RdyB rdyB_G _ _ _ _ (fun w _=>log_13_00 w)
theorem bl_13_01:AgB 13 1 0 0 1 1 0 E0 E0:=by
 refine bag (by decide) (by decide) ok_ff ok_tt (.iface 111 (.bool true)) 0 _ _ _ _ ?_ answer_tt (rB_13 _ _ _ _ _ _ _ _ _ _ _ _ _ (rvok ok_ff (by decide)) (rvok ok_tt (by decide)) rlog_13_01)
 rw[it_ff,it_tt]
 exact bin_13 RdyB rdyB_G _ _ _ _ (fun w _=>log_13_01 w)
theorem bl_13_02:AgB 13 1 0 0 0 0 0 E0 E0:=by
 refine bag (by decide) (by decide) ok_ff ok_null (.iface 110 (.agg #[])) 0 _ _ _ _ ?_ answer_null (rB_13 _ _ _ _ _ _ _ _ _ _ _ _ _ (rvok ok_ff (by decide)) (rvok ok_null (by decide)) rlog_13_02)
 rw[it_ff,it_nl]
 exact bin_13 RdyB rdyB_G _ _ _ _ (fun w _=>log_13_02 w)
theorem bl_13_10:AgB 13 1 1 0 1 0 0 E0 E0:=by
 refine bag (by decide) (by decide) ok_tt ok_ff (.iface 111 (.bool true)) 0 _ _ _ _ ?_ answer_tt (rB_13 _ _ _ _ _ _ _ _ _ _ _ _ _ (rvok ok_tt (by decide)) (rvok ok_ff (by decide)) rlog_13_10)
 rw[it_tt,it_ff]
 exact bin_13 RdyB rdyB_G _ _ _ _ (fun w _=>log_13_10 w)
theorem bl_13_11:AgB 13 1 1 0 1 1 0 E0 E0:=by
 refine bag (by decide) (by decide) ok_tt ok_tt (.iface 111 (.bool true)) 0 _ _ _ _ ?_ answer_tt (rB_13 _ _ _ _ _ _ _ _ _ _ _ _ _ (rvok ok_tt (by decide)) (rvok ok_tt (by decide)) rlog_13_11)
 rw[it_tt]
 exact bin_13 RdyB rdyB_G _ _ _ _ (fun w _=>log_13_11 w)
theorem bl_13_12:AgB 13 1 1 0 0 0 0 E0 E0:=by
 refine bag (by decide) (by decide) ok_tt ok_null (.iface 111 (.bool true)) 0 _ _ _ _ ?_ answer_tt (rB_13 _ _ _ _ _ _ _ _ _ _ _ _ _ (rvok ok_tt (by decide)) (rvok ok_null (by decide)) rlog_13_12)
 rw[it_tt,it_nl]
 exact bin_13 RdyB rdyB_G _ _ _ _ (fun w _=>log_13_12 w)
theorem bl_13_20:AgB 13 0 0 0 1 0 0 E0 E0:=by
 refine bag (by decide) (by decide) ok_null ok_ff (.iface 110 (.agg #[])) 0 _ _ _ _ ?_ answer_null (rB_13 _ _ _ _ _ _ _ _ _ _ _ _ _ (rvok ok_null (by decide)) (rvok ok_ff (by decide)) rlog_13_20)
 rw[it_nl,it_ff]
 exact bin_13 RdyB rdyB_G _ _ _ _ (fun w _=>log_13_20 w)
theorem bl_13_21:AgB 13 0 0 0 1 1 0 E0 E0:=by
 refine bag (by decide) (by decide) ok_null ok_tt (.iface 111 (.bool true)) 0 _ _ _ _ ?_ answer_tt (rB_13 _ _ _ _ _ _ _ _ _ _ _ _ _ (rvok ok_null (by decide)) (rvok ok_tt (by decide)) rlog_13_21)
 rw[it_nl,it_tt]
 exact bin_13 RdyB rdyB_G _ _ _ _ (fun w _=>log_13_21 w)
theorem bl_13_22:AgB 13 0 0 0 0 0 0 E0 E0:=by
 refine bag (by decide) (by decide) ok_null ok_null (.iface 110 (.agg #[])) 0 _ _ _ _ ?_ answer_null (rB_13 _ _ _ _ _ _ _ _ _ _ _ _ _ (rvok ok_null (by decide)) (rvok ok_null (by decide)) rlog_13_22)
 rw[it_nl]
 exact bin_13 RdyB rdyB_G _ _ _ _ (fun w _=>log_13_22 w)
theorem bl_14_00:AgB 14 1 0 0 1 0 0 E0 E0:=by
 refine bag (by decide) (by decide) ok_ff ok_ff (.iface 111 (.bool false)) 0 _ _ _ _ ?_ answer_ff (rB_14 _ _ _ _ _ _ _ _ _ _ _ _ _ (rvok ok_ff (by decide)) (rvok ok_ff (by decide)) rlog_14_00)
 rw[it_ff]
 exact bin_14 RdyB rdyB_G _ _ _ _ (fun w _=>log_14_00 w)
theorem bl_14_01:AgB 14 1 0 0 1 1 0 E0 E0:=by
 refine bag (by decide) (by decide) ok_ff ok_tt (.iface 111 (.bool true)) 0 _ _ _ _ ?_ answer_tt (rB_14 _ _ _ _ _ _ _ _ _ _ _ _ _ (rvok ok_ff (by decide)) (rvok ok_tt (by decide)) rlog_14_01)
 rw[it_ff,it_tt]
 exact bin_14 RdyB rdyB_G _ _ _ _ (fun w _=>log_14_01 w)
theorem bl_14_02:AgB 14 1 0 0 0 0 0 E0 E0:=by
 refine bag (by decide) (by decide) ok_ff ok_null (.iface 110 (.agg #[])) 0 _ _ _ _ ?_ answer_null (rB_14 _ _ _ _ _ _ _ _ _ _ _ _ _ (rvok ok_ff (by decide)) (rvok ok_null (by decide)) rlog_14_02)
 rw[it_ff,it_nl]
 exact bin_14 RdyB rdyB_G _ _ _ _ (fun w _=>log_14_02 w)
theorem bl_14_10:AgB 14 1 1 0 1 0 0 E0 E0:=by
 refine bag (by decide) (by decide) ok_tt ok_ff (.iface 111 (.bool true)) 0 _ _ _ _ ?_ answer_tt (rB_14 _ _ _ _ _ _ _ _ _ _ _ _ _ (rvok ok_tt (by decide)) (rvok ok_ff (by decide)) rlog_14_10)
 rw[it_tt,it_ff]
 exact bin_14 RdyB rdyB_G _ _ _ _ (fun w _=>log_14_10 w)
theorem bl_14_11:AgB 14 1 1 0 1 1 0 E0 E0:=by
 refine bag (by decide) (by decide) ok_tt ok_tt (.iface 111 (.bool false)) 0 _ _ _ _ ?_ answer_ff (rB_14 _ _ _ _ _ _ _ _ _ _ _ _ _ (rvok ok_tt (by decide)) (rvok ok_tt (by decide)) rlog_14_11)
 rw[it_tt]
 exact bin_14 RdyB rdyB_G _ _ _ _ (fun w _=>log_14_11 w)
theorem bl_14_12:AgB 14 1 1 0 0 0 0 E0 E0:=by
 refine bag (by decide) (by decide) ok_tt ok_null (.iface 110 (.agg #[])) 0 _ _ _ _ ?_ answer_null (rB_14 _ _ _ _ _ _ _ _ _ _ _ _ _ (rvok ok_tt (by decide)) (rvok ok_null (by decide)) rlog_14_12)
 rw[it_tt,it_nl]
 exact bin_14 RdyB rdyB_G _ _ _ _ (fun w _=>log_14_12 w)
theorem bl_14_20:AgB 14 0 0 0 1 0 0 E0 E0:=by
 refine bag (by decide) (by decide) ok_null ok_ff (.iface 110 (.agg #[])) 0 _ _ _ _ ?_ answer_null (rB_14 _ _ _ _ _ _ _ _ _ _ _ _ _ (rvok ok_null (by decide)) (rvok ok_ff (by decide)) rlog_14_20)
 rw[it_nl,it_ff]
 exact bin_14 RdyB rdyB_G _ _ _ _ (fun w _=>log_14_20 w)
theorem bl_14_21:AgB 14 0 0 0 1 1 0 E0 E0:=by
 refine bag (by decide) (by decide) ok_null ok_tt (.iface 110 (.agg #[])) 0 _ _ _ _ ?_ answer_null (rB_14 _ _ _ _ _ _ _ _ _ _ _ _ _ (rvok ok_null (by decide)) (rvok ok_tt (by decide)) rlog_14_21)
 rw[it_nl,it_tt]
 exact bin_14 RdyB rdyB_G _ _ _ _ (fun w _=>log_14_21 w)
theorem bl_14_22:AgB 14 0 0 0 0 0 0 E0 E0:=by
 refine bag (by decide) (by decide) ok_null ok_null (.iface 110 (.agg #[])) 0 _ _ _ _ ?_ answer_null (rB_14 _ _ _ _ _ _ _ _ _ _ _ _ _ (rvok ok_null (by decide)) (rvok ok_null (by decide)) rlog_14_22)
 rw[it_nl]
 exact bin_14 RdyB rdyB_G _ _ _ _ (fun w _=>log_14_22 w)
theorem sure_any(k a b:Int)(s:ByteArray)(hok:okV k a b s=true):∃(n:Int) (q:Bool),(q=decide (k≤1))∧∀w,Calls prog 114 #[itemV k a b s] w fun e w'=>e=.returned (.tuple #[.int .i64 n,.bool q])∧G w w':=by
 by_cases h:2≤k
 ·exact⟨0,false,by simp;omega,sure_no k a b s hok h⟩
 ·have hk:=okV_kind k a b s hok
  have:k=0∨k=1:=by omega
  rcases this with rfl|rfl
  ·exact⟨0,true,by simp,by rw[itV_0 hok];exact sure_2⟩
  ·obtain⟨h01,rfl,rfl⟩:=ok_1 hok
   rcases h01 with rfl|rfl
   ·exact⟨-1,true,by simp,by rw[it_ff];exact sure_0⟩
   ·exact⟨1,true,by simp,by rw[it_tt];exact sure_1⟩
theorem bl_12(k a b k' a' b':Int)(s s':ByteArray)(hok:okV k a b s=true)(hok':okV k' a' b' s'=true)(hs:s.size≤4611686018427387904)(hs':s'.size≤4611686018427387904):AgB 12 k a b k' a' b' s s':=by
 obtain⟨m,q,hq,h1⟩:=sure_any k a b s hok
 obtain⟨n,p,hp,h2⟩:=sure_any k' a' b' s' hok'
 by_cases c1:2≤k
 ·have:q=false:=by rw[hq];simp;omega
  subst this
  exact bag (by decide) (by decide) hok hok' .nilIface 10 _ _ _ _ (bin_12 RdyB rdyB_G _ _ _ _ (fun w _=>lno1 12 _ _ m n p h1 h2 w)) (answer_err _ 10 (by decide)) (rB_12 _ _ _ _ _ _ _ _ _ _ _ _ _ (rvok hok hs) (rvok hok' hs') (rlog_no1 12 _ _ _ _ _ _ _ _ (by omega)))
 ·have:q=true:=by rw[hq];simp;omega
  subst this
  by_cases c2:2≤k'
  ·have:p=false:=by rw[hp];simp;omega
   subst this
   exact bag (by decide) (by decide) hok hok' .nilIface 10 _ _ _ _ (bin_12 RdyB rdyB_G _ _ _ _ (fun w _=>lno2 12 _ _ m n h1 h2 w)) (answer_err _ 10 (by decide)) (rB_12 _ _ _ _ _ _ _ _ _ _ _ _ _ (rvok hok hs) (rvok hok' hs') (rlog_no2 12 _ _ _ _ _ _ _ _ (by omega) (by omega)))
  ·have hk:=okV_kind k a b s hok
   have hk':=okV_kind k' a' b' s' hok'
   have d1:k=0∨k=1:=by omega
   have d2:k'=0∨k'=1:=by omega
   clear h1 h2 hq hp c1 c2 hk hk'
   rcases d1 with rfl|rfl
   ·obtain⟨rfl,rfl,rfl⟩:=ok_0 hok
    rcases d2 with rfl|rfl
    ·obtain⟨rfl,rfl,rfl⟩:=ok_0 hok'
     exact bl_12_22
    ·obtain⟨h01,rfl,rfl⟩:=ok_1 hok'
     rcases h01 with rfl|rfl
     ·exact bl_12_20
     ·exact bl_12_21
   ·obtain⟨h01,rfl,rfl⟩:=ok_1 hok
    rcases d2 with rfl|rfl
    ·obtain⟨rfl,rfl,rfl⟩:=ok_0 hok'
     rcases h01 with rfl|rfl
     ·exact bl_12_02
     ·exact bl_12_12
    ·obtain⟨h02,rfl,rfl⟩:=ok_1 hok'
     rcases h01 with rfl|rfl<;>rcases h02 with rfl|rfl
     ·exact bl_12_00
     ·exact bl_12_01
     ·exact bl_12_10
     ·exact bl_12_11
theorem bl_13(k a b k' a' b':Int)(s s':ByteArray)(hok:okV k a b s=true)(hok':okV k' a' b' s'=true)(hs:s.size≤4611686018427387904)(hs':s'.size≤4611686018427387904):AgB 13 k a b k' a' b' s s':=by
 obtain⟨m,q,hq,h1⟩:=sure_any k a b s hok
 obtain⟨n,p,hp,h2⟩:=sure_any k' a' b' s' hok'
 by_cases c1:2≤k
 ·have:q=false:=by rw[hq];simp;omega
  subst this
  exact bag (by decide) (by decide) hok hok' .nilIface 10 _ _ _ _ (bin_13 RdyB rdyB_G _ _ _ _ (fun w _=>lno1 13 _ _ m n p h1 h2 w)) (answer_err _ 10 (by decide)) (rB_13 _ _ _ _ _ _ _ _ _ _ _ _ _ (rvok hok hs) (rvok hok' hs') (rlog_no1 13 _ _ _ _ _ _ _ _ (by omega)))
 ·have:q=true:=by rw[hq];simp;omega
  subst this
  by_cases c2:2≤k'
  ·have:p=false:=by rw[hp];simp;omega
   subst this
   exact bag (by decide) (by decide) hok hok' .nilIface 10 _ _ _ _ (bin_13 RdyB rdyB_G _ _ _ _ (fun w _=>lno2 13 _ _ m n h1 h2 w)) (answer_err _ 10 (by decide)) (rB_13 _ _ _ _ _ _ _ _ _ _ _ _ _ (rvok hok hs) (rvok hok' hs') (rlog_no2 13 _ _ _ _ _ _ _ _ (by omega) (by omega)))
  ·have hk:=okV_kind k a b s hok
   have hk':=okV_kind k' a' b' s' hok'
   have d1:k=0∨k=1:=by omega
   have d2:k'=0∨k'=1:=by omega
   clear h1 h2 hq hp c1 c2 hk hk'
   rcases d1 with rfl|rfl
   ·obtain⟨rfl,rfl,rfl⟩:=ok_0 hok
    rcases d2 with rfl|rfl
    ·obtain⟨rfl,rfl,rfl⟩:=ok_0 hok'
     exact bl_13_22
    ·obtain⟨h01,rfl,rfl⟩:=ok_1 hok'
     rcases h01 with rfl|rfl
     ·exact bl_13_20
     ·exact bl_13_21
   ·obtain⟨h01,rfl,rfl⟩:=ok_1 hok
    rcases d2 with rfl|rfl
    ·obtain⟨rfl,rfl,rfl⟩:=ok_0 hok'
     rcases h01 with rfl|rfl
     ·exact bl_13_02
     ·exact bl_13_12
    ·obtain⟨h02,rfl,rfl⟩:=ok_1 hok'
     rcases h01 with rfl|rfl<;>rcases h02 with rfl|rfl
     ·exact bl_13_00
     ·exact bl_13_01
     ·exact bl_13_10
     ·exact bl_13_11
theorem bl_14(k a b k' a' b':Int)(s s':ByteArray)(hok:okV k a b s=true)(hok':okV k' a' b' s'=true)(hs:s.size≤4611686018427387904)(hs':s'.size≤4611686018427387904):AgB 14 k a b k' a' b' s s':=by
 obtain⟨m,q,hq,h1⟩:=sure_any k a b s hok
 obtain⟨n,p,hp,h2⟩:=sure_any k' a' b' s' hok'
 by_cases c1:2≤k
 ·have:q=false:=by rw[hq];simp;omega
  subst this
  exact bag (by decide) (by decide) hok hok' .nilIface 10 _ _ _ _ (bin_14 RdyB rdyB_G _ _ _ _ (fun w _=>lno1 14 _ _ m n p h1 h2 w)) (answer_err _ 10 (by decide)) (rB_14 _ _ _ _ _ _ _ _ _ _ _ _ _ (rvok hok hs) (rvok hok' hs') (rlog_no1 14 _ _ _ _ _ _ _ _ (by omega)))
 ·have:q=true:=by rw[hq];simp;omega
  subst this
  by_cases c2:2≤k'
  ·have:p=false:=by rw[hp];simp;omega
   subst this
   exact bag (by decide) (by decide) hok hok' .nilIface 10 _ _ _ _ (bin_14 RdyB rdyB_G _ _ _ _ (fun w _=>lno2 14 _ _ m n h1 h2 w)) (answer_err _ 10 (by decide)) (rB_14 _ _ _ _ _ _ _ _ _ _ _ _ _ (rvok hok hs) (rvok hok' hs') (rlog_no2 14 _ _ _ _ _ _ _ _ (by omega) (by omega)))
  ·have hk:=okV_kind k a b s hok
   have hk':=okV_kind k' a' b' s' hok'
   have d1:k=0∨k=1:=by omega
   have d2:k'=0∨k'=1:=by omega
   clear h1 h2 hq hp c1 c2 hk hk'
   rcases d1 with rfl|rfl
   ·obtain⟨rfl,rfl,rfl⟩:=ok_0 hok
    rcases d2 with rfl|rfl
    ·obtain⟨rfl,rfl,rfl⟩:=ok_0 hok'
     exact bl_14_22
    ·obtain⟨h01,rfl,rfl⟩:=ok_1 hok'
     rcases h01 with rfl|rfl
     ·exact bl_14_20
     ·exact bl_14_21
   ·obtain⟨h01,rfl,rfl⟩:=ok_1 hok
    rcases d2 with rfl|rfl
    ·obtain⟨rfl,rfl,rfl⟩:=ok_0 hok'
     rcases h01 with rfl|rfl
     ·exact bl_14_02
     ·exact bl_14_12
    ·obtain⟨h02,rfl,rfl⟩:=ok_1 hok'
     rcases h01 with rfl|rfl<;>rcases h02 with rfl|rfl
     ·exact bl_14_00
     ·exact bl_14_01
     ·exact bl_14_10
     ·exact bl_14_11
theorem bn_1(op:Int)(ho:1≤op)(ho':op≤18)(n12:op≠12)(n13:op≠13)(n14:op≠14)(k a b k' a' b':Int)(s s':ByteArray)(hok:okV k a b s=true)(hok':okV k' a' b' s'=true)(hs:s.size≤4611686018427387904)(hs':s'.size≤4611686018427387904)(hk:k=0):AgB op k a b k' a' b' s s':=by
 subst hk
 obtain⟨rfl,rfl,rfl⟩:=ok_0 hok
 refine bag ho ho' hok hok' (.iface 110 (.agg #[])) 0 _ _ _ _ ?_ answer_null (rB_null1 op ho ho' (beq_false_of_ne n12) (beq_false_of_ne n13) (beq_false_of_ne n14) _ _ _ _ _ _ _ (rvok hok hs) (rvok hok' hs'))
 rw[it_nl]
 exact fun w _=>bin_null1 op _ _ (beq_false_of_ne n12) (beq_false_of_ne n13) (beq_false_of_ne n14) isn_yes w
theorem bn_2(op:Int)(ho:1≤op)(ho':op≤18)(n12:op≠12)(n13:op≠13)(n14:op≠14)(k a b k' a' b':Int)(s s':ByteArray)(hok:okV k a b s=true)(hok':okV k' a' b' s'=true)(hs:s.size≤4611686018427387904)(hs':s'.size≤4611686018427387904)(hk:k≠0)(hk':k'=0):AgB op k a b k' a' b' s s':=by
 subst hk'
 obtain⟨rfl,rfl,rfl⟩:=ok_0 hok'
 refine bag ho ho' hok hok' (.iface 110 (.agg #[])) 0 _ _ _ _ ?_ answer_null (rB_null2 op ho ho' (beq_false_of_ne n12) (beq_false_of_ne n13) (beq_false_of_ne n14) _ _ _ _ _ _ _ (beq_false_of_ne hk) (rvok hok hs) (rvok hok' hs'))
 rw[it_nl]
 exact fun w _=>bin_null2 op _ _ (beq_false_of_ne n12) (beq_false_of_ne n13) (beq_false_of_ne n14) (isn_no k a b s hok hk) isn_yes w
theorem requal_any(k a b k' a' b':Int)(s s':ByteArray)(hok:okV k a b s=true)(hok':okV k' a' b' s'=true)(w:World):Calls prog 43 #[V k a b s,V k' a' b' s'] w fun e w'=>e=.returned (Value.bool (eqP k a b k' a' b' s s'))∧G w w':=by
 unfold eqP
 by_cases e:k=k'
 ·rw[if_neg (by omega),if_neg (by omega)]
  have:=requal_same k a b k' a' b' s s' e w
  have e1:(k==k')=true:=by simpa using e
  rw[e1,Bool.true_and]
  exact this
 have e':(k==k')=false:=beq_false_of_ne e
 by_cases c2:k=2
 ·by_cases c3:k'=3
  ·subst c2;subst c3
   rw[if_pos ⟨rfl,rfl⟩]
   obtain⟨rfl,_⟩:=ok_2 hok
   have:=requal_wc a 0 a' b' s s' w
   have h1:((0:Int)==0)=true:=rfl
   have h2:(a==a')=(a'==a):=Bool.beq_comm
   rw[h1,Bool.and_true,h2] at this
   exact this
  ·rw[if_neg (by omega),if_neg (by omega),e',Bool.false_and,Bool.false_and,Bool.false_and]
   exact requal_n2 k a b k' a' b' s s' e' c2 (beq_false_of_ne c3) w
 by_cases c3:k=3
 ·by_cases c4:k'=2
  ·subst c3;subst c4
   rw[if_neg (by omega),if_pos ⟨rfl,rfl⟩]
   obtain⟨rfl,_⟩:=ok_2 hok'
   have:=requal_cw a b a' 0 s s' w
   have h1:((0:Int)==0)=true:=rfl
   rw[h1,Bool.and_true] at this
   exact this
  ·rw[if_neg (by omega),if_neg (by omega),e',Bool.false_and,Bool.false_and,Bool.false_and]
   exact requal_n3 k a b k' a' b' s s' e' c3 (beq_false_of_ne c4) w
 rw[if_neg (by omega),if_neg (by omega),e',Bool.false_and,Bool.false_and,Bool.false_and]
 exact requal_n1 k a b k' a' b' s s' e' (beq_false_of_ne c2) (beq_false_of_ne c3) w
theorem be_6(k a b k' a' b':Int)(s s':ByteArray)(hok:okV k a b s=true)(hok':okV k' a' b' s'=true)(hs:s.size≤4611686018427387904)(hs':s'.size≤4611686018427387904)(hk:k≠0)(hk':k'≠0):AgB 6 k a b k' a' b' s s':=by
 have h1:=equal_any k a b k' a' b' s s' hok hok'
 have h2:=requal_any k a b k' a' b' s s' hok hok'
 generalize eqP k a b k' a' b' s s'=q at h1 h2
 exact bag (by decide) (by decide) hok hok' _ 0 _ _ _ _ (bin_6 RdyB rdyB_G q _ _ (isn_no k a b s hok hk) (isn_no k' a' b' s' hok' hk') (fun w _=>h1 w)) (answer_truth q) (rB_6 q k a b k' a' b' s s' (beq_false_of_ne hk) (beq_false_of_ne hk') (rvok hok hs) (rvok hok' hs') h2)
theorem be_7(k a b k' a' b':Int)(s s':ByteArray)(hok:okV k a b s=true)(hok':okV k' a' b' s'=true)(hs:s.size≤4611686018427387904)(hs':s'.size≤4611686018427387904)(hk:k≠0)(hk':k'≠0):AgB 7 k a b k' a' b' s s':=by
 have h1:=equal_any k a b k' a' b' s s' hok hok'
 have h2:=requal_any k a b k' a' b' s s' hok hok'
 generalize eqP k a b k' a' b' s s'=q at h1 h2
 exact bag (by decide) (by decide) hok hok' _ 0 _ _ _ _ (bin_7 RdyB rdyB_G q _ _ (isn_no k a b s hok hk) (isn_no k' a' b' s' hok' hk') (fun w _=>h1 w)) (answer_truth (!q)) (rB_7 q k a b k' a' b' s s' (beq_false_of_ne hk) (beq_false_of_ne hk') (rvok hok hs) (rvok hok' hs') h2)
theorem cmp_num{n:Nat}{a b a' b':Int}{s s':ByteArray}(hn:n=1∨n=2)(ok:okV n a b s=true)(ok':okV n a' b' s'=true):cmpP n n a b a' b' s s'=cI a a':=by
 have z:cI (rkP n) (rkP n)=0:=cI_zero.2 rfl
 have z2:cI (n:Int) n=0:=cI_zero.2 rfl
 have hb:b=0∧s=E0∧b'=0∧s'=E0:=by
  rcases hn with rfl|rfl
  ·exact⟨(ok_1 ok).2.1,(ok_1 ok).2.2,(ok_1 ok').2.1,(ok_1 ok').2.2⟩
  ·exact⟨(ok_2 ok).1,(ok_2 ok).2,(ok_2 ok').1,(ok_2 ok').2⟩
 obtain⟨rfl,rfl,rfl,rfl⟩:=hb
 have z3:cI 0 0=0:=rfl
 have z4:compareBytes E0.data.toList E0.data.toList=0:=rfl
 unfold cmpP or5
 rw[z,z2,z3,z4]
 by_cases c:cI a a'=0
 iterate 2
  ·simp[c]
theorem cmp_st{a b a' b':Int}{s s':ByteArray}(ok:okV 4 a b s=true)(ok':okV 4 a' b' s'=true):cmpP 4 4 a b a' b' s s'=compareBytes s.data.toList s'.data.toList:=by
 have z:cI (rkP 4) (rkP 4)=0:=rfl
 have z2:cI ((4:Nat):Int) (4:Nat)=0:=rfl
 obtain⟨rfl,rfl,_,_⟩:=ok_4 ok
 obtain⟨rfl,rfl,_,_⟩:=ok_4 ok'
 have z3:cI 0 0=0:=rfl
 unfold cmpP or5
 rw[z,z2,z3]
 simp
theorem hoP_no{k k':Int}(h:k≠k'):hoP k k'=false:=by
 unfold hoP
 split
 ·simpa using h
 ·rfl
theorem br_8(k a b k' a' b':Int)(s s':ByteArray)(hok:okV k a b s=true)(hok':okV k' a' b' s'=true)(hs:s.size≤4611686018427387904)(hs':s'.size≤4611686018427387904)(hk:k≠0)(hk':k'≠0):AgB 8 k a b k' a' b' s s':=by
 have h1:=ho_any k a b k' a' b' s s' hok hok'
 by_cases e:k=k'
 ·have hx:=ival_any k a b s hok
  have hy:=ival_any k' a' b' s' hok'
  subst e
  by_cases c4:k=4
  ·subst c4
   rw[show hoP 4 4=true from rfl] at h1
   have h2:∀w,RdyB w→Calls prog 48 #[itemV 4 a b s,itemV 4 a' b' s'] w fun e w'=>e=.returned (.int .i64 (compareBytes s.data.toList s'.data.toList))∧G w w':=fun w hR=>by
    have:=compare_any _ _ 4 4 a b a' b' s s' hx hy (by decide) (by decide) w hR.2.1
    rw[←cmp_st hok hok']
    exact this
   exact bag (by decide) (by decide) hok hok' _ 0 _ _ _ _ (bin_8 RdyB rdyB_G _ _ _ (isn_no 4 a b s hok hk) (isn_no 4 a' b' s' hok' hk') (rel_8 RdyB rdyB_G _ _ _ h1 h2)) (answer_truth _) (rB_8 _ _ _ _ _ _ _ _ _ _ _ _ _ (beq_false_of_ne hk) (beq_false_of_ne hk') (rvok hok hs) (rvok hok' hs') (rord_8_4 _ a b a' b' s s' (rtexts s s' hs hs')))
  by_cases c12:k=1∨k=2
  ·have hh:hoP k k=true:=by unfold hoP;rw[if_pos (by omega)];simp
   rw[hh] at h1
   obtain⟨n,rfl,hn⟩:∃n:Nat,k=n∧(n=1∨n=2):=⟨k.toNat,by omega,by omega⟩
   have h2:∀w,RdyB w→Calls prog 48 #[itemV n a b s,itemV n a' b' s'] w fun e w'=>e=.returned (Value.int .i64 (cI a a'))∧G w w':=fun w hR=>by
    have:=compare_any _ _ n n a b a' b' s s' hx hy (by omega) (by omega) w hR.2.1
    rw[←cmp_num hn hok hok']
    exact this
   have h3:=bin_8 RdyB rdyB_G _ _ _ (isn_no n a b s hok hk) (isn_no n a' b' s' hok' hk') (rel_8 RdyB rdyB_G _ _ _ h1 h2)
   rcases hn with rfl|rfl
   ·exact bag (by decide) (by decide) hok hok' _ 0 _ _ _ _ h3 (answer_truth _) (rB_8 _ _ _ _ _ _ _ _ _ _ _ _ _ (beq_false_of_ne hk) (beq_false_of_ne hk') (rvok hok hs) (rvok hok' hs') (rord_8_1 _ a b a' b' s s' (rnum a a')))
   ·exact bag (by decide) (by decide) hok hok' _ 0 _ _ _ _ h3 (answer_truth _) (rB_8 _ _ _ _ _ _ _ _ _ _ _ _ _ (beq_false_of_ne hk) (beq_false_of_ne hk') (rvok hok hs) (rvok hok' hs') (rord_8_2 _ a b a' b' s s' (rnum a a')))
  ·have hh:hoP k k=false:=by unfold hoP;rw[if_neg (by omega)]
   rw[hh] at h1
   exact bag (by decide) (by decide) hok hok' _ 0 _ _ _ _ (bin_8 RdyB rdyB_G _ _ _ (isn_no k a b s hok hk) (isn_no k a' b' s' hok' hk') (fun w _=>rel_no 8 _ _ h1 w)) answer_null (rB_8 _ _ _ _ _ _ _ _ _ _ _ _ _ (beq_false_of_ne hk) (beq_false_of_ne hk') (rvok hok hs) (rvok hok' hs') (rord_no2 8 k a b a' b' s s' (by simp;omega) (by simp;omega) (by simp;omega)))
 ·rw[hoP_no e] at h1
  exact bag (by decide) (by decide) hok hok' _ 0 _ _ _ _ (bin_8 RdyB rdyB_G _ _ _ (isn_no k a b s hok hk) (isn_no k' a' b' s' hok' hk') (fun w _=>rel_no 8 _ _ h1 w)) answer_null (rB_8 _ _ _ _ _ _ _ _ _ _ _ _ _ (beq_false_of_ne hk) (beq_false_of_ne hk') (rvok hok hs) (rvok hok' hs') (rord_no 8 k a b k' a' b' s s' (beq_false_of_ne e)))
theorem br_9(k a b k' a' b':Int)(s s':ByteArray)(hok:okV k a b s=true)(hok':okV k' a' b' s'=true)(hs:s.size≤4611686018427387904)(hs':s'.size≤4611686018427387904)(hk:k≠0)(hk':k'≠0):AgB 9 k a b k' a' b' s s':=by
 have h1:=ho_any k a b k' a' b' s s' hok hok'
 by_cases e:k=k'
 ·have hx:=ival_any k a b s hok
  have hy:=ival_any k' a' b' s' hok'
  subst e
  by_cases c4:k=4
  ·subst c4
   rw[show hoP 4 4=true from rfl] at h1
   have h2:∀w,RdyB w→Calls prog 48 #[itemV 4 a b s,itemV 4 a' b' s'] w fun e w'=>e=.returned (.int .i64 (compareBytes s.data.toList s'.data.toList))∧G w w':=fun w hR=>by
    have:=compare_any _ _ 4 4 a b a' b' s s' hx hy (by decide) (by decide) w hR.2.1
    rw[←cmp_st hok hok']
    exact this
   exact bag (by decide) (by decide) hok hok' _ 0 _ _ _ _ (bin_9 RdyB rdyB_G _ _ _ (isn_no 4 a b s hok hk) (isn_no 4 a' b' s' hok' hk') (rel_9 RdyB rdyB_G _ _ _ h1 h2)) (answer_truth _) (rB_9 _ _ _ _ _ _ _ _ _ _ _ _ _ (beq_false_of_ne hk) (beq_false_of_ne hk') (rvok hok hs) (rvok hok' hs') (rord_9_4 _ a b a' b' s s' (rtexts s s' hs hs')))
  by_cases c12:k=1∨k=2
  ·have hh:hoP k k=true:=by unfold hoP;rw[if_pos (by omega)];simp
   rw[hh] at h1
   obtain⟨n,rfl,hn⟩:∃n:Nat,k=n∧(n=1∨n=2):=⟨k.toNat,by omega,by omega⟩
   have h2:∀w,RdyB w→Calls prog 48 #[itemV n a b s,itemV n a' b' s'] w fun e w'=>e=.returned (Value.int .i64 (cI a a'))∧G w w':=fun w hR=>by
    have:=compare_any _ _ n n a b a' b' s s' hx hy (by omega) (by omega) w hR.2.1
    rw[←cmp_num hn hok hok']
    exact this
   have h3:=bin_9 RdyB rdyB_G _ _ _ (isn_no n a b s hok hk) (isn_no n a' b' s' hok' hk') (rel_9 RdyB rdyB_G _ _ _ h1 h2)
   rcases hn with rfl|rfl
   ·exact bag (by decide) (by decide) hok hok' _ 0 _ _ _ _ h3 (answer_truth _) (rB_9 _ _ _ _ _ _ _ _ _ _ _ _ _ (beq_false_of_ne hk) (beq_false_of_ne hk') (rvok hok hs) (rvok hok' hs') (rord_9_1 _ a b a' b' s s' (rnum a a')))
   ·exact bag (by decide) (by decide) hok hok' _ 0 _ _ _ _ h3 (answer_truth _) (rB_9 _ _ _ _ _ _ _ _ _ _ _ _ _ (beq_false_of_ne hk) (beq_false_of_ne hk') (rvok hok hs) (rvok hok' hs') (rord_9_2 _ a b a' b' s s' (rnum a a')))
  ·have hh:hoP k k=false:=by unfold hoP;rw[if_neg (by omega)]
   rw[hh] at h1
   exact bag (by decide) (by decide) hok hok' _ 0 _ _ _ _ (bin_9 RdyB rdyB_G _ _ _ (isn_no k a b s hok hk) (isn_no k a' b' s' hok' hk') (fun w _=>rel_no 9 _ _ h1 w)) answer_null (rB_9 _ _ _ _ _ _ _ _ _ _ _ _ _ (beq_false_of_ne hk) (beq_false_of_ne hk') (rvok hok hs) (rvok hok' hs') (rord_no2 9 k a b a' b' s s' (by simp;omega) (by simp;omega) (by simp;omega)))
 ·rw[hoP_no e] at h1
  exact bag (by decide) (by decide) hok hok' _ 0 _ _ _ _ (bin_9 RdyB rdyB_G _ _ _ (isn_no k a b s hok hk) (isn_no k' a' b' s' hok' hk') (fun w _=>rel_no 9 _ _ h1 w)) answer_null (rB_9 _ _ _ _ _ _ _ _ _ _ _ _ _ (beq_false_of_ne hk) (beq_false_of_ne hk') (rvok hok hs) (rvok hok' hs') (rord_no 9 k a b k' a' b' s s' (beq_false_of_ne e)))
theorem br_10(k a b k' a' b':Int)(s s':ByteArray)(hok:okV k a b s=true)(hok':okV k' a' b' s'=true)(hs:s.size≤4611686018427387904)(hs':s'.size≤4611686018427387904)(hk:k≠0)(hk':k'≠0):AgB 10 k a b k' a' b' s s':=by
 have h1:=ho_any k a b k' a' b' s s' hok hok'
 by_cases e:k=k'
 ·have hx:=ival_any k a b s hok
  have hy:=ival_any k' a' b' s' hok'
  subst e
  by_cases c4:k=4
  ·subst c4
   rw[show hoP 4 4=true from rfl] at h1
   have h2:∀w,RdyB w→Calls prog 48 #[itemV 4 a b s,itemV 4 a' b' s'] w fun e w'=>e=.returned (.int .i64 (compareBytes s.data.toList s'.data.toList))∧G w w':=fun w hR=>by
    have:=compare_any _ _ 4 4 a b a' b' s s' hx hy (by decide) (by decide) w hR.2.1
    rw[←cmp_st hok hok']
    exact this
   exact bag (by decide) (by decide) hok hok' _ 0 _ _ _ _ (bin_10 RdyB rdyB_G _ _ _ (isn_no 4 a b s hok hk) (isn_no 4 a' b' s' hok' hk') (rel_10 RdyB rdyB_G _ _ _ h1 h2)) (answer_truth _) (rB_10 _ _ _ _ _ _ _ _ _ _ _ _ _ (beq_false_of_ne hk) (beq_false_of_ne hk') (rvok hok hs) (rvok hok' hs') (rord_10_4 _ a b a' b' s s' (rtexts s s' hs hs')))
  by_cases c12:k=1∨k=2
  ·have hh:hoP k k=true:=by unfold hoP;rw[if_pos (by omega)];simp
   rw[hh] at h1
   obtain⟨n,rfl,hn⟩:∃n:Nat,k=n∧(n=1∨n=2):=⟨k.toNat,by omega,by omega⟩
   have h2:∀w,RdyB w→Calls prog 48 #[itemV n a b s,itemV n a' b' s'] w fun e w'=>e=.returned (Value.int .i64 (cI a a'))∧G w w':=fun w hR=>by
    have:=compare_any _ _ n n a b a' b' s s' hx hy (by omega) (by omega) w hR.2.1
    rw[←cmp_num hn hok hok']
    exact this
   have h3:=bin_10 RdyB rdyB_G _ _ _ (isn_no n a b s hok hk) (isn_no n a' b' s' hok' hk') (rel_10 RdyB rdyB_G _ _ _ h1 h2)
   rcases hn with rfl|rfl
   ·exact bag (by decide) (by decide) hok hok' _ 0 _ _ _ _ h3 (answer_truth _) (rB_10 _ _ _ _ _ _ _ _ _ _ _ _ _ (beq_false_of_ne hk) (beq_false_of_ne hk') (rvok hok hs) (rvok hok' hs') (rord_10_1 _ a b a' b' s s' (rnum a a')))
   ·exact bag (by decide) (by decide) hok hok' _ 0 _ _ _ _ h3 (answer_truth _) (rB_10 _ _ _ _ _ _ _ _ _ _ _ _ _ (beq_false_of_ne hk) (beq_false_of_ne hk') (rvok hok hs) (rvok hok' hs') (rord_10_2 _ a b a' b' s s' (rnum a a')))
  ·have hh:hoP k k=false:=by unfold hoP;rw[if_neg (by omega)]
   rw[hh] at h1
   exact bag (by decide) (by decide) hok hok' _ 0 _ _ _ _ (bin_10 RdyB rdyB_G _ _ _ (isn_no k a b s hok hk) (isn_no k a' b' s' hok' hk') (fun w _=>rel_no 10 _ _ h1 w)) answer_null (rB_10 _ _ _ _ _ _ _ _ _ _ _ _ _ (beq_false_of_ne hk) (beq_false_of_ne hk') (rvok hok hs) (rvok hok' hs') (rord_no2 10 k a b a' b' s s' (by simp;omega) (by simp;omega) (by simp;omega)))
 ·rw[hoP_no e] at h1
  exact bag (by decide) (by decide) hok hok' _ 0 _ _ _ _ (bin_10 RdyB rdyB_G _ _ _ (isn_no k a b s hok hk) (isn_no k' a' b' s' hok' hk') (fun w _=>rel_no 10 _ _ h1 w)) answer_null (rB_10 _ _ _ _ _ _ _ _ _ _ _ _ _ (beq_false_of_ne hk) (beq_false_of_ne hk') (rvok hok hs) (rvok hok' hs') (rord_no 10 k a b k' a' b' s s' (beq_false_of_ne e)))
theorem br_11(k a b k' a' b':Int)(s s':ByteArray)(hok:okV k a b s=true)(hok':okV k' a' b' s'=true)(hs:s.size≤4611686018427387904)(hs':s'.size≤4611686018427387904)(hk:k≠0)(hk':k'≠0):AgB 11 k a b k' a' b' s s':=by
 have h1:=ho_any k a b k' a' b' s s' hok hok'
 by_cases e:k=k'
 ·have hx:=ival_any k a b s hok
  have hy:=ival_any k' a' b' s' hok'
  subst e
  by_cases c4:k=4
  ·subst c4
   rw[show hoP 4 4=true from rfl] at h1
   have h2:∀w,RdyB w→Calls prog 48 #[itemV 4 a b s,itemV 4 a' b' s'] w fun e w'=>e=.returned (.int .i64 (compareBytes s.data.toList s'.data.toList))∧G w w':=fun w hR=>by
    have:=compare_any _ _ 4 4 a b a' b' s s' hx hy (by decide) (by decide) w hR.2.1
    rw[←cmp_st hok hok']
    exact this
   exact bag (by decide) (by decide) hok hok' _ 0 _ _ _ _ (bin_11 RdyB rdyB_G _ _ _ (isn_no 4 a b s hok hk) (isn_no 4 a' b' s' hok' hk') (rel_11 RdyB rdyB_G _ _ _ h1 h2)) (answer_truth _) (rB_11 _ _ _ _ _ _ _ _ _ _ _ _ _ (beq_false_of_ne hk) (beq_false_of_ne hk') (rvok hok hs) (rvok hok' hs') (rord_11_4 _ a b a' b' s s' (rtexts s s' hs hs')))
  by_cases c12:k=1∨k=2
  ·have hh:hoP k k=true:=by unfold hoP;rw[if_pos (by omega)];simp
   rw[hh] at h1
   obtain⟨n,rfl,hn⟩:∃n:Nat,k=n∧(n=1∨n=2):=⟨k.toNat,by omega,by omega⟩
   have h2:∀w,RdyB w→Calls prog 48 #[itemV n a b s,itemV n a' b' s'] w fun e w'=>e=.returned (Value.int .i64 (cI a a'))∧G w w':=fun w hR=>by
    have:=compare_any _ _ n n a b a' b' s s' hx hy (by omega) (by omega) w hR.2.1
    rw[←cmp_num hn hok hok']
    exact this
   have h3:=bin_11 RdyB rdyB_G _ _ _ (isn_no n a b s hok hk) (isn_no n a' b' s' hok' hk') (rel_11 RdyB rdyB_G _ _ _ h1 h2)
   rcases hn with rfl|rfl
   ·exact bag (by decide) (by decide) hok hok' _ 0 _ _ _ _ h3 (answer_truth _) (rB_11 _ _ _ _ _ _ _ _ _ _ _ _ _ (beq_false_of_ne hk) (beq_false_of_ne hk') (rvok hok hs) (rvok hok' hs') (rord_11_1 _ a b a' b' s s' (rnum a a')))
   ·exact bag (by decide) (by decide) hok hok' _ 0 _ _ _ _ h3 (answer_truth _) (rB_11 _ _ _ _ _ _ _ _ _ _ _ _ _ (beq_false_of_ne hk) (beq_false_of_ne hk') (rvok hok hs) (rvok hok' hs') (rord_11_2 _ a b a' b' s s' (rnum a a')))
  ·have hh:hoP k k=false:=by unfold hoP;rw[if_neg (by omega)]
   rw[hh] at h1
   exact bag (by decide) (by decide) hok hok' _ 0 _ _ _ _ (bin_11 RdyB rdyB_G _ _ _ (isn_no k a b s hok hk) (isn_no k a' b' s' hok' hk') (fun w _=>rel_no 11 _ _ h1 w)) answer_null (rB_11 _ _ _ _ _ _ _ _ _ _ _ _ _ (beq_false_of_ne hk) (beq_false_of_ne hk') (rvok hok hs) (rvok hok' hs') (rord_no2 11 k a b a' b' s s' (by simp;omega) (by simp;omega) (by simp;omega)))
 ·rw[hoP_no e] at h1
  exact bag (by decide) (by decide) hok hok' _ 0 _ _ _ _ (bin_11 RdyB rdyB_G _ _ _ (isn_no k a b s hok hk) (isn_no k' a' b' s' hok' hk') (fun w _=>rel_no 11 _ _ h1 w)) answer_null (rB_11 _ _ _ _ _ _ _ _ _ _ _ _ _ (beq_false_of_ne hk) (beq_false_of_ne hk') (rvok hok hs) (rvok hok' hs') (rord_no 11 k a b k' a' b' s s' (beq_false_of_ne e)))
theorem wq15_iff(s s':ByteArray):hasPrefix s.data.toList s'.data.toList=true↔wq15 s s':=by
 unfold hasPrefix wq15
 constructor
 ·intro h
  have hl:=(List.isPrefixOf_iff_prefix.1 h).length_le
  exact⟨0,by simpa using hl,rfl,by simpa [occAt] using h⟩
 ·rintro⟨j,_,rfl,h⟩
  simpa [occAt] using h
theorem wq17_iff(s s':ByteArray):hasSuffix s.data.toList s'.data.toList=true↔wq17 s s':=by
 unfold hasSuffix wq17
 constructor
 ·intro h
  have hs:=List.isSuffixOf_iff_suffix.1 h
  have hl:s'.data.toList.length≤s.data.toList.length:=hs.length_le
  have hl':s'.size≤s.size:=by simpa using hl
  refine⟨s.size-s'.size,by omega,by omega,?_⟩
  unfold occAt
  rw[List.isPrefixOf_iff_prefix]
  have e:=List.suffix_iff_eq_drop.1 hs
  have e2:s.data.toList.length-s'.data.toList.length=s.size-s'.size:=by simp
  rw[e2] at e
  rw[←e]
  exact List.prefix_refl _
 ·rintro⟨j,_,h2,h⟩
  unfold occAt at h
  have hp:=List.isPrefixOf_iff_prefix.1 h
  have hl:(s.data.toList.drop j).length=s'.data.toList.length:=by simp;omega
  have e:=hp.eq_of_length hl.symm
  rw[List.isSuffixOf_iff_suffix,e]
  exact List.drop_suffix _ _
theorem wq18_iff(s s':ByteArray):contains s.data.toList s'.data.toList=true↔wq18 s s':=by
 unfold contains wq18
 rw[decide_eq_true_iff]
 rcases index_spec s.data.toList s'.data.toList with ⟨h1,h2⟩|⟨i,h1,h2,h3,h4⟩
 ·rw[h1]
  constructor
  ·intro h;omega
  ·rintro⟨j,hj,_,ho⟩
   have:=h2 j (by simp;omega)
   rw[this] at ho
   cases ho
 ·rw[h1]
  constructor
  ·intro _
   have hp:=(List.isPrefixOf_iff_prefix.1 h3).length_le
   exact⟨i,by simp at hp h2;omega,trivial,h3⟩
  ·intro _;omega
theorem bs_15(k a b k' a' b':Int)(s s':ByteArray)(hok:okV k a b s=true)(hok':okV k' a' b' s'=true)(hs:s.size≤4611686018427387904)(hs':s'.size≤4611686018427387904)(hk:k≠0)(hk':k'≠0):AgB 15 k a b k' a' b' s s':=by
 by_cases c:k=4
 ·subst c
  by_cases c':k'=4
  ·subst c'
   have hl:=(ok_4 hok).2.2.1
   have hl':=(ok_4 hok').2.2.1
   have h3:∀w,Calls prog 45 #[.int .i64 15,V 4 a b s,V 4 a' b' s'] w fun e w'=>e=.returned (.tuple #[V 1 (tI (hasPrefix s.data.toList s'.data.toList)) 0 E0,.int .i64 0])∧G w w':=fun w=>by
    refine(rwi_15 a b a' b' s s' (by omega) (by omega) w).mono ?_
    rintro e w1 ⟨⟨q,rfl,hq⟩,hb⟩
    have:q=hasPrefix s.data.toList s'.data.toList:=by
     rw[Bool.eq_iff_iff,hq,wq15_iff]
    rw[this]
    exact⟨rfl,hb⟩
   refine bag (by decide) (by decide) hok hok' _ 0 _ _ _ _ (bin_15 RdyB rdyB_G _ _ _ _ (isn_no 4 a b s hok hk) (isn_no 4 a' b' s' hok' hk') ?_) (answer_truth (hasPrefix s.data.toList s'.data.toList)) (rB_15 _ _ _ _ _ _ _ _ _ _ _ _ _ (beq_false_of_ne hk) (beq_false_of_ne hk') (rvok hok hs) (rvok hok' hs') h3)
   rw[itV_4 hok,itV_4 hok']
   exact fun w hR=>se_15 s s' _ w (hp_any s s' w)
  ·refine bag (by decide) (by decide) hok hok' .nilIface 10 _ _ _ _ (bin_15 RdyB rdyB_G _ _ _ _ (isn_no 4 a b s hok hk) (isn_no k' a' b' s' hok' hk') ?_) (answer_err _ 10 (by decide)) (rB_15 _ _ _ _ _ _ _ _ _ _ _ _ _ (beq_false_of_ne hk) (beq_false_of_ne hk') (rvok hok hs) (rvok hok' hs') (rwi_no2 15 a b k' a' b' s s' (beq_false_of_ne c')))
   have h2:=an_str k' a' b' s' hok' c'
   rw[itV_4 hok]
   exact fun w _=>se_no2 15 s _ h2 w
 ·refine bag (by decide) (by decide) hok hok' .nilIface 10 _ _ _ _ (bin_15 RdyB rdyB_G _ _ _ _ (isn_no k a b s hok hk) (isn_no k' a' b' s' hok' hk') ?_) (answer_err _ 10 (by decide)) (rB_15 _ _ _ _ _ _ _ _ _ _ _ _ _ (beq_false_of_ne hk) (beq_false_of_ne hk') (rvok hok hs) (rvok hok' hs') (rwi_no1 15 k a b k' a' b' s s' (beq_false_of_ne c)))
  have h1:=an_str k a b s hok c
  by_cases c':k'=4
  ·subst c'
   have h2:=as_str_str (.string s')
   rw[itV_4 hok']
   exact fun w _=>se_no1 15 _ _ h1 s' true h2 w
  ·exact fun w _=>se_no1 15 _ _ h1 E0 false (an_str k' a' b' s' hok' c') w
theorem bs_17(k a b k' a' b':Int)(s s':ByteArray)(hok:okV k a b s=true)(hok':okV k' a' b' s'=true)(hs:s.size≤4611686018427387904)(hs':s'.size≤4611686018427387904)(hk:k≠0)(hk':k'≠0):AgB 17 k a b k' a' b' s s':=by
 by_cases c:k=4
 ·subst c
  by_cases c':k'=4
  ·subst c'
   have hl:=(ok_4 hok).2.2.1
   have hl':=(ok_4 hok').2.2.1
   have h3:∀w,Calls prog 45 #[.int .i64 17,V 4 a b s,V 4 a' b' s'] w fun e w'=>e=.returned (.tuple #[V 1 (tI (hasSuffix s.data.toList s'.data.toList)) 0 E0,.int .i64 0])∧G w w':=fun w=>by
    refine(rwi_17 a b a' b' s s' (by omega) (by omega) w).mono ?_
    rintro e w1 ⟨⟨q,rfl,hq⟩,hb⟩
    have:q=hasSuffix s.data.toList s'.data.toList:=by
     rw[Bool.eq_iff_iff,hq,wq17_iff]
    rw[this]
    exact⟨rfl,hb⟩
   refine bag (by decide) (by decide) hok hok' _ 0 _ _ _ _ (bin_17 RdyB rdyB_G _ _ _ _ (isn_no 4 a b s hok hk) (isn_no 4 a' b' s' hok' hk') ?_) (answer_truth (hasSuffix s.data.toList s'.data.toList)) (rB_17 _ _ _ _ _ _ _ _ _ _ _ _ _ (beq_false_of_ne hk) (beq_false_of_ne hk') (rvok hok hs) (rvok hok' hs') h3)
   rw[itV_4 hok,itV_4 hok']
   exact fun w hR=>se_17 s s' _ w (hs_any s s' (by omega) w)
  ·refine bag (by decide) (by decide) hok hok' .nilIface 10 _ _ _ _ (bin_17 RdyB rdyB_G _ _ _ _ (isn_no 4 a b s hok hk) (isn_no k' a' b' s' hok' hk') ?_) (answer_err _ 10 (by decide)) (rB_17 _ _ _ _ _ _ _ _ _ _ _ _ _ (beq_false_of_ne hk) (beq_false_of_ne hk') (rvok hok hs) (rvok hok' hs') (rwi_no2 17 a b k' a' b' s s' (beq_false_of_ne c')))
   have h2:=an_str k' a' b' s' hok' c'
   rw[itV_4 hok]
   exact fun w _=>se_no2 17 s _ h2 w
 ·refine bag (by decide) (by decide) hok hok' .nilIface 10 _ _ _ _ (bin_17 RdyB rdyB_G _ _ _ _ (isn_no k a b s hok hk) (isn_no k' a' b' s' hok' hk') ?_) (answer_err _ 10 (by decide)) (rB_17 _ _ _ _ _ _ _ _ _ _ _ _ _ (beq_false_of_ne hk) (beq_false_of_ne hk') (rvok hok hs) (rvok hok' hs') (rwi_no1 17 k a b k' a' b' s s' (beq_false_of_ne c)))
  have h1:=an_str k a b s hok c
  by_cases c':k'=4
  ·subst c'
   have h2:=as_str_str (.string s')
   rw[itV_4 hok']
   exact fun w _=>se_no1 17 _ _ h1 s' true h2 w
  ·exact fun w _=>se_no1 17 _ _ h1 E0 false (an_str k' a' b' s' hok' c') w
theorem bs_18(k a b k' a' b':Int)(s s':ByteArray)(hok:okV k a b s=true)(hok':okV k' a' b' s'=true)(hs:s.size≤4611686018427387904)(hs':s'.size≤4611686018427387904)(hk:k≠0)(hk':k'≠0):AgB 18 k a b k' a' b' s s':=by
 by_cases c:k=4
 ·subst c
  by_cases c':k'=4
  ·subst c'
   have hl:=(ok_4 hok).2.2.1
   have hl':=(ok_4 hok').2.2.1
   have h3:∀w,Calls prog 45 #[.int .i64 18,V 4 a b s,V 4 a' b' s'] w fun e w'=>e=.returned (.tuple #[V 1 (tI (contains s.data.toList s'.data.toList)) 0 E0,.int .i64 0])∧G w w':=fun w=>by
    refine(rwi_18 a b a' b' s s' (by omega) (by omega) w).mono ?_
    rintro e w1 ⟨⟨q,rfl,hq⟩,hb⟩
    have:q=contains s.data.toList s'.data.toList:=by
     rw[Bool.eq_iff_iff,hq,wq18_iff]
    rw[this]
    exact⟨rfl,hb⟩
   refine bag (by decide) (by decide) hok hok' _ 0 _ _ _ _ (bin_18 RdyB rdyB_G _ _ _ _ (isn_no 4 a b s hok hk) (isn_no 4 a' b' s' hok' hk') ?_) (answer_truth (contains s.data.toList s'.data.toList)) (rB_18 _ _ _ _ _ _ _ _ _ _ _ _ _ (beq_false_of_ne hk) (beq_false_of_ne hk') (rvok hok hs) (rvok hok' hs') h3)
   rw[itV_4 hok,itV_4 hok']
   exact fun w hR=>se_18 s s' _ w (ct_any s s' hl w hR.2.2)
  ·refine bag (by decide) (by decide) hok hok' .nilIface 10 _ _ _ _ (bin_18 RdyB rdyB_G _ _ _ _ (isn_no 4 a b s hok hk) (isn_no k' a' b' s' hok' hk') ?_) (answer_err _ 10 (by decide)) (rB_18 _ _ _ _ _ _ _ _ _ _ _ _ _ (beq_false_of_ne hk) (beq_false_of_ne hk') (rvok hok hs) (rvok hok' hs') (rwi_no2 18 a b k' a' b' s s' (beq_false_of_ne c')))
   have h2:=an_str k' a' b' s' hok' c'
   rw[itV_4 hok]
   exact fun w _=>se_no2 18 s _ h2 w
 ·refine bag (by decide) (by decide) hok hok' .nilIface 10 _ _ _ _ (bin_18 RdyB rdyB_G _ _ _ _ (isn_no k a b s hok hk) (isn_no k' a' b' s' hok' hk') ?_) (answer_err _ 10 (by decide)) (rB_18 _ _ _ _ _ _ _ _ _ _ _ _ _ (beq_false_of_ne hk) (beq_false_of_ne hk') (rvok hok hs) (rvok hok' hs') (rwi_no1 18 k a b k' a' b' s s' (beq_false_of_ne c)))
  have h1:=an_str k a b s hok c
  by_cases c':k'=4
  ·subst c'
   have h2:=as_str_str (.string s')
   rw[itV_4 hok']
   exact fun w _=>se_no1 18 _ _ h1 s' true h2 w
  ·exact fun w _=>se_no1 18 _ _ h1 E0 false (an_str k' a' b' s' hok' c') w
theorem bc_16(k a b k' a' b':Int)(s s':ByteArray)(hok:okV k a b s=true)(hok':okV k' a' b' s'=true)(hs:s.size≤4611686018427387904)(hs':s'.size≤4611686018427387904)(hk:k≠0)(hk':k'≠0):AgB 16 k a b k' a' b' s s':=by
 by_cases c:k=2
 ·subst c
  obtain⟨rfl,rfl⟩:=ok_2 hok
  by_cases c':k'=2
  ·subst c'
   obtain⟨rfl,rfl⟩:=ok_2 hok'
   have h0:=co_ww a a'
   have p1:=part_any a
   have p2:=part_any a'
   have q1:=partB_iff a
   have q2:=partB_iff a'
   generalize partB a=x at h0 p1 q1
   generalize partB a'=y at h0 p2 q2
   cases x
   ·rw[Bool.false_and,if_neg (by decide)] at h0
    refine bag (by decide) (by decide) hok hok' .nilIface 11 _ _ _ _ (bin_16 RdyB rdyB_G _ _ _ _ (isn_no 2 a 0 E0 hok hk) (isn_no 2 a' 0 E0 hok' hk') ?_) (answer_err _ 11 (by decide)) (rB_16 _ _ _ _ _ _ _ _ _ _ _ _ _ (beq_false_of_ne hk) (beq_false_of_ne hk') (rvok hok hs) (rvok hok' hs') (rtog_r1 a 0 a' 0 E0 E0 p1))
    rw[itV_2 hok,itV_2 hok']
    exact fun w _=>h0 w
   ·cases y
    ·rw[Bool.and_false,if_neg (by decide)] at h0
     refine bag (by decide) (by decide) hok hok' .nilIface 11 _ _ _ _ (bin_16 RdyB rdyB_G _ _ _ _ (isn_no 2 a 0 E0 hok hk) (isn_no 2 a' 0 E0 hok' hk') ?_) (answer_err _ 11 (by decide)) (rB_16 _ _ _ _ _ _ _ _ _ _ _ _ _ (beq_false_of_ne hk) (beq_false_of_ne hk') (rvok hok hs) (rvok hok' hs') (rtog_r2 a 0 a' 0 E0 E0 p1 p2))
     rw[itV_2 hok,itV_2 hok']
     exact fun w _=>h0 w
    ·rw[Bool.and_true,if_pos rfl] at h0
     have r1:=q1.1 rfl
     have r2:=q2.1 rfl
     refine bag (by decide) (by decide) hok hok' _ 0 _ _ _ _ (bin_16 RdyB rdyB_G _ _ _ _ (isn_no 2 a 0 E0 hok hk) (isn_no 2 a' 0 E0 hok' hk') ?_) (answer_cpx _ _ a a' (Fl.ofInt a (by omega)) (Fl.ofInt a' (by omega)) (by omega) (by omega)) (rB_16 _ _ _ _ _ _ _ _ _ _ _ _ _ (beq_false_of_ne hk) (beq_false_of_ne hk') (rvok hok hs) (rvok hok' hs') (rtog_ok a 0 a' 0 E0 E0 p1 p2))
     rw[itV_2 hok,itV_2 hok']
     exact fun w _=>h0 w
  ·refine bag (by decide) (by decide) hok hok' .nilIface 10 _ _ _ _ (bin_16 RdyB rdyB_G _ _ _ _ (isn_no 2 a 0 E0 hok hk) (isn_no k' a' b' s' hok' hk') ?_) (answer_err _ 10 (by decide)) (rB_16 _ _ _ _ _ _ _ _ _ _ _ _ _ (beq_false_of_ne hk) (beq_false_of_ne hk') (rvok hok hs) (rvok hok' hs') (rtog_no2 a 0 k' a' b' E0 s' (beq_false_of_ne c')))
   have h2:=an_whole k' a' b' s' hok' c'
   rw[itV_2 hok]
   exact fun w _=>co_no2 a _ h2 w
 ·refine bag (by decide) (by decide) hok hok' .nilIface 10 _ _ _ _ (bin_16 RdyB rdyB_G _ _ _ _ (isn_no k a b s hok hk) (isn_no k' a' b' s' hok' hk') ?_) (answer_err _ 10 (by decide)) (rB_16 _ _ _ _ _ _ _ _ _ _ _ _ _ (beq_false_of_ne hk) (beq_false_of_ne hk') (rvok hok hs) (rvok hok' hs') (rtog_no1 k a b k' a' b' s s' (beq_false_of_ne c)))
  have h1:=an_whole k a b s hok c
  by_cases c':k'=2
  ·subst c'
   rw[itV_2 hok']
   exact fun w _=>co_no1 _ _ h1 ⟨_,_,as_whole_whole _⟩ w
  ·exact fun w _=>co_no1 _ _ h1 ⟨_,_,an_whole k' a' b' s' hok' c'⟩ w
end
end Go.Proofs.YthmdjhfbhbheeaaGreatDoor
