import Derived.BigQuiet
import Derived.Test.YthmdjhfbhbheeaaGreatDoorShelf2
namespace Go.Proofs.YthmdjhfbhbheeaaGreatDoor
open Go.Proofs.Tryz
set_option maxHeartbeats 1000000
set_option maxRecDepth 100000
section
open Go.RowKit Go.Lib Go.Shelf
def Mx(w:World):Prop:=3<w.heap.size∧∃m,w.cell? ⟨3,0,none⟩=some (.int .i64 m)
theorem Mx.G{w w':World}(h:Mx w)(g:G w w'):Mx w':=⟨Nat.lt_of_lt_of_le h.1 g.size,h.2.imp fun _ hm=>(g.cell h.1).trans hm⟩
theorem hp_any(s p:ByteArray)(w:World):Calls prog 118 #[.string s,.string p] w fun e w'=>e=.returned (.bool (hasPrefix s.data.toList p.data.toList))∧w'=w:=
 Any.strings_HasPrefix Tryz.laysHasPrefix s p w
theorem hs_any(s p:ByteArray)(h:s.size≤4611686018427387903)(w:World):Calls prog 119 #[.string s,.string p] w fun e w'=>e=.returned (.bool (hasSuffix s.data.toList p.data.toList))∧w'=w:=
 Any.strings_HasSuffix Tryz.laysHasSuffix s p w (by omega)
theorem ct_any(s p:ByteArray)(h:s.size≤32)(w:World)(hm:Mx w):Calls prog 120 #[.string s,.string p] w fun e w'=>e=.returned (.bool (contains s.data.toList p.data.toList))∧w'=w:=by
 obtain⟨_,m,hc⟩:=hm
 exact Any.strings_Contains Tryz.laysContains s p m w (by omega) hc
theorem se_no1(op:Int)(x y:Value)(h1:∀w,(Instr.typeAssert x 49 137 true).run prog w=.ok (.tuple #[.string E0,.bool false]) w)(z:ByteArray)(q:Bool)(h2:∀w,(Instr.typeAssert y 49 137 true).run prog w=.ok (.tuple #[.string z,.bool q]) w)(w:World):Calls prog 86 #[.int .i64 op,x,y] w fun e w'=>e=.returned (.tuple #[.nilIface,.int .i64 10])∧G w w':=by
 go_enter func86,ntmps86
 go_wp2
 go_ret2
 exact⟨rfl,G.refl _⟩
theorem se_no2(op:Int)(s:ByteArray)(y:Value)(h2:∀w,(Instr.typeAssert y 49 137 true).run prog w=.ok (.tuple #[.string E0,.bool false]) w)(w:World):Calls prog 86 #[.int .i64 op,.iface 137 (.string s),y] w fun e w'=>e=.returned (.tuple #[.nilIface,.int .i64 10])∧G w w':=by
 have a1:=as_str_str (.string s)
 go_enter func86,ntmps86
 go_wp2
 go_ret2
 exact⟨rfl,G.refl _⟩
theorem se_15(s s':ByteArray)(q:Bool)(w:World)(h:Calls prog 118 #[.string s,.string s'] w fun e w'=>e=.returned (.bool q)∧w'=w):Calls prog 86 #[.int .i64 15,.iface 137 (.string s),.iface 137 (.string s')] w fun e w'=>e=.returned (.tuple #[.iface 111 (.bool q),.int .i64 0])∧G w w':=by
 have a1:=as_str_str (.string s)
 have a2:=as_str_str (.string s')
 have H:Hid _:=h
 clear h
 go_enter func86,ntmps86
 go_wp2_with fail
 refine Calls.mono (Hid.out H) ?_
 rintro e w1 ⟨rfl,rfl⟩
 go_wp2
 go_ret2
 exact⟨rfl,G.refl _⟩
theorem se_17(s s':ByteArray)(q:Bool)(w:World)(h:Calls prog 119 #[.string s,.string s'] w fun e w'=>e=.returned (.bool q)∧w'=w):Calls prog 86 #[.int .i64 17,.iface 137 (.string s),.iface 137 (.string s')] w fun e w'=>e=.returned (.tuple #[.iface 111 (.bool q),.int .i64 0])∧G w w':=by
 have a1:=as_str_str (.string s)
 have a2:=as_str_str (.string s')
 have H:Hid _:=h
 clear h
 go_enter func86,ntmps86
 go_wp2_with fail
 refine Calls.mono (Hid.out H) ?_
 rintro e w1 ⟨rfl,rfl⟩
 go_wp2
 go_ret2
 exact⟨rfl,G.refl _⟩
theorem se_18(s s':ByteArray)(q:Bool)(w:World)(h:Calls prog 120 #[.string s,.string s'] w fun e w'=>e=.returned (.bool q)∧w'=w):Calls prog 86 #[.int .i64 18,.iface 137 (.string s),.iface 137 (.string s')] w fun e w'=>e=.returned (.tuple #[.iface 111 (.bool q),.int .i64 0])∧G w w':=by
 have a1:=as_str_str (.string s)
 have a2:=as_str_str (.string s')
 have H:Hid _:=h
 clear h
 go_enter func86,ntmps86
 go_wp2_with fail
 refine Calls.mono (Hid.out H) ?_
 rintro e w1 ⟨rfl,rfl⟩
 go_wp2
 go_ret2
 exact⟨rfl,G.refl _⟩
theorem rwi_no1(op k a b k' a' b':Int)(s s':ByteArray)(h:(k==4)=false)(w:World):Calls prog 45 #[.int .i64 op,V k a b s,V k' a' b' s'] w fun e w'=>e=.returned (.tuple #[V0,.int .i64 10])∧G w w':=by
 have h':(k != 4)=true:=by rw[bne,h];rfl
 go_enter func45,ntmps45
 go_wp2
 exact bodyPost_ret (v:=.tuple #[V0,.int .i64 10]) (by simp[results,results45,go_sem]) rfl ⟨rfl,by
  repeat(first|exact G.refl _|refine G.alloc ?_ _|refine G.setCell ?_ (by simp;try omega) _)⟩
theorem rwi_no2(op a b k' a' b':Int)(s s':ByteArray)(h:(k'==4)=false)(w:World):Calls prog 45 #[.int .i64 op,V 4 a b s,V k' a' b' s'] w fun e w'=>e=.returned (.tuple #[V0,.int .i64 10])∧G w w':=by
 have h':(k' != 4)=true:=by rw[bne,h];rfl
 go_enter func45,ntmps45
 go_wp2
 exact bodyPost_ret (v:=.tuple #[V0,.int .i64 10]) (by simp[results,results45,go_sem]) rfl ⟨rfl,by
  repeat(first|exact G.refl _|refine G.alloc ?_ _|refine G.setCell ?_ (by simp;try omega) _)⟩
theorem sub_at(s s':ByteArray)(i:Nat):((s.extract i (i+s'.size)).toList==s'.toList)=occAt s.data.toList s'.data.toList i:=by
 rw[ByteArray.toList_eq,ByteArray.toList_eq]
 have e:(s.extract i (i+s'.size)).data.toList=(s.data.toList.drop i).take s'.data.toList.length:=by
  simp[ByteArray.data_extract,List.take_drop]
 rw[e]
 unfold occAt
 generalize s'.data.toList=p
 generalize s.data.toList.drop i=l
 rw[Bool.eq_iff_iff,beq_iff_eq,List.isPrefixOf_iff_prefix,List.prefix_iff_eq_take]
 exact eq_comm
def wq15(s s':ByteArray):Prop:=∃j,j+s'.size≤s.size∧(j=0)∧occAt s.data.toList s'.data.toList j=true
theorem rwi_15(a b a' b':Int)(s s':ByteArray)(hs:s.size≤4611686018427387903)(hs':s'.size≤4611686018427387903)(w:World) :
  Calls prog 45 #[.int .i64 15,V 4 a b s,V 4 a' b' s'] w fun e w'=>(∃q:Bool,e=.returned (.tuple #[V 1 (tI q) 0 E0,.int .i64 0])∧(q=true↔wq15 s s'))∧G w w':=by
 have HS:∀i,Hid (((s.extract i (i+s'.size)).toList==s'.toList)=occAt s.data.toList s'.data.toList i):=fun i=>sub_at s s' i
 go_enter func45,ntmps45
 go_wp2
 go_loopw [9] (fun i W=>∃m:Nat,(m:Int)≤max 0 ((s.size:Int)-s'.size+1)∧i=.int .i64 m∧(∃n,W=(((w.alloc (.cells #[I 4,I a,I b,.string s] 31)).alloc (.cells #[I 4,I a',I b',.string s'] 31)).alloc (.cells #[I 0,I 0,I 0,.string E0] 31)).drewN n)∧Hid (∀j,j<m→(j=0)→occAt s.data.toList s'.data.toList j=false)) (fun i _=>s.size+1-(RowKit.intOf i).toNat)
 case atStart=>exact⟨0,by omega,rfl,⟨0,rfl⟩,fun j hj=>absurd hj (Nat.not_lt_zero j)⟩
 case round=>
  obtain⟨m,hm,rfl,⟨n,rfl⟩,HI⟩:=hrel
  by_cases hr:(m:Int)≤(s.size:Int)-s'.size
  ·have i1:m+s'.size≤s.size:=by omega
   have i2:wrap64 ((m:Int)+(s'.size:Int))=(m:Int)+(s'.size:Int):=by unfold wrap64;omega
   by_cases hz:m=0
   ·have hz':((m:Int)==0)=true:=by simp;omega
    have HZ:Hid _:=hz
    clear hz
    by_cases ho:occAt s.data.toList s'.data.toList m=true
    ·have hq:wq15 s s':=⟨m,i1,HZ.out,ho⟩
     have he:((s.extract m (m+s'.size)).toList==s'.toList)=true:=by rw[(HS m).out];exact ho
     have HQ:Hid _:=hq
     clear hq
     go_wp2
     go_quiet (fail)
     go_wp2_with fail
     refine(rtruth_yes _).mono ?_
     rintro e w1 ⟨rfl,hb1⟩
     have g1:G w w1:=((((((G.refl w).alloc _).alloc _).alloc _).drewK _)).trans hb1
     obtain⟨hc1,hf1⟩:=hb1.rules
     go_wp2
     exact bodyPost_ret (v:=.tuple #[V 1 1 0 E0,.int .i64 0]) (by simp[results,results45,go_sem,hc1]) rfl ⟨⟨true,rfl,fun _=>HQ.out,fun _=>rfl⟩,by
      repeat(first|exact g1|refine G.alloc ?_ _|refine G.setCell ?_ (by simp;try omega) _)⟩
    ·have ho':occAt s.data.toList s'.data.toList m=false:=by simpa using ho
     have he:((s.extract m (m+s'.size)).toList==s'.toList)=false:=by rw[(HS m).out];exact ho'
     have HO:Hid _:=ho'
     clear ho ho'
     go_wp2
     go_quiet (fail)
     go_wp2
     go_roundw
     case rel=>exact⟨m+1,by omega,by go_num,by first|exact⟨_,rfl⟩|exact⟨_,World.drewN_drewN _ _ _⟩,fun j hj hp=>by
      rcases Nat.lt_or_ge j m with c|c
      ·exact HI.out j c hp
      ·have e:j=m:=by omega
       rw[e];exact HO.out⟩
     case measure=>simp[RowKit.intOf];omega
   ·have hz':((m:Int)==0)=false:=by simp;omega
    have HN:Hid (¬m=0):=hz
    clear hz
    go_wp2
    go_quiet (fail)
    go_wp2
    go_roundw
    case rel=>exact⟨m+1,by omega,by go_num,by first|exact⟨_,rfl⟩|exact⟨_,World.drewN_drewN _ _ _⟩,fun j hj hp=>by
     rcases Nat.lt_or_ge j m with c|c
     ·exact HI.out j c hp
     ·have e:j=m:=by omega
      subst e
      exact absurd hp HN.out⟩
    case measure=>simp[RowKit.intOf];omega
  ·have hn:¬wq15 s s':=fun ⟨j,h1,h2,h3⟩=>by
    have:=HI.out j (by omega) h2
    rw[this] at h3
    cases h3
   have HQ:Hid _:=hn
   clear hn
   go_wp2_with fail
   refine(rtruth_no _).mono ?_
   rintro e w1 ⟨rfl,hb1⟩
   have g1:G w w1:=(((((G.refl w).alloc _).alloc _).alloc _).drewK _).trans hb1
   obtain⟨hc1,hf1⟩:=hb1.rules
   go_wp2
   exact bodyPost_ret (v:=.tuple #[V 1 0 0 E0,.int .i64 0]) (by simp[results,results45,go_sem,hc1]) rfl ⟨⟨false,rfl,fun h=>Bool.noConfusion h,fun h=>absurd h HQ.out⟩,by
    repeat(first|exact g1|refine G.alloc ?_ _|refine G.setCell ?_ (by simp;try omega) _)⟩
def wq17(s s':ByteArray):Prop:=∃j,j+s'.size≤s.size∧(j+s'.size=s.size)∧occAt s.data.toList s'.data.toList j=true
theorem rwi_17(a b a' b':Int)(s s':ByteArray)(hs:s.size≤4611686018427387903)(hs':s'.size≤4611686018427387903)(w:World) :
  Calls prog 45 #[.int .i64 17,V 4 a b s,V 4 a' b' s'] w fun e w'=>(∃q:Bool,e=.returned (.tuple #[V 1 (tI q) 0 E0,.int .i64 0])∧(q=true↔wq17 s s'))∧G w w':=by
 have HS:∀i,Hid (((s.extract i (i+s'.size)).toList==s'.toList)=occAt s.data.toList s'.data.toList i):=fun i=>sub_at s s' i
 go_enter func45,ntmps45
 go_wp2
 go_loopw [9] (fun i W=>∃m:Nat,(m:Int)≤max 0 ((s.size:Int)-s'.size+1)∧i=.int .i64 m∧(∃n,W=(((w.alloc (.cells #[I 4,I a,I b,.string s] 31)).alloc (.cells #[I 4,I a',I b',.string s'] 31)).alloc (.cells #[I 0,I 0,I 0,.string E0] 31)).drewN n)∧Hid (∀j,j<m→(j+s'.size=s.size)→occAt s.data.toList s'.data.toList j=false)) (fun i _=>s.size+1-(RowKit.intOf i).toNat)
 case atStart=>exact⟨0,by omega,rfl,⟨0,rfl⟩,fun j hj=>absurd hj (Nat.not_lt_zero j)⟩
 case round=>
  obtain⟨m,hm,rfl,⟨n,rfl⟩,HI⟩:=hrel
  by_cases hr:(m:Int)≤(s.size:Int)-s'.size
  ·have i1:m+s'.size≤s.size:=by omega
   have i2:wrap64 ((m:Int)+(s'.size:Int))=(m:Int)+(s'.size:Int):=by unfold wrap64;omega
   by_cases hz:m+s'.size=s.size
   ·have hz':((m:Int)==(s.size:Int)-(s'.size:Int))=true:=by simp;omega
    have HZ:Hid _:=hz
    clear hz
    by_cases ho:occAt s.data.toList s'.data.toList m=true
    ·have hq:wq17 s s':=⟨m,i1,HZ.out,ho⟩
     have he:((s.extract m (m+s'.size)).toList==s'.toList)=true:=by rw[(HS m).out];exact ho
     have HQ:Hid _:=hq
     clear hq
     go_wp2
     go_quiet (fail)
     go_wp2_with fail
     refine(rtruth_yes _).mono ?_
     rintro e w1 ⟨rfl,hb1⟩
     have g1:G w w1:=((((((G.refl w).alloc _).alloc _).alloc _).drewK _)).trans hb1
     obtain⟨hc1,hf1⟩:=hb1.rules
     go_wp2
     exact bodyPost_ret (v:=.tuple #[V 1 1 0 E0,.int .i64 0]) (by simp[results,results45,go_sem,hc1]) rfl ⟨⟨true,rfl,fun _=>HQ.out,fun _=>rfl⟩,by
      repeat(first|exact g1|refine G.alloc ?_ _|refine G.setCell ?_ (by simp;try omega) _)⟩
    ·have ho':occAt s.data.toList s'.data.toList m=false:=by simpa using ho
     have he:((s.extract m (m+s'.size)).toList==s'.toList)=false:=by rw[(HS m).out];exact ho'
     have HO:Hid _:=ho'
     clear ho ho'
     go_wp2
     go_quiet (fail)
     go_wp2
     go_roundw
     case rel=>exact⟨m+1,by omega,by go_num,by first|exact⟨_,rfl⟩|exact⟨_,World.drewN_drewN _ _ _⟩,fun j hj hp=>by
      rcases Nat.lt_or_ge j m with c|c
      ·exact HI.out j c hp
      ·have e:j=m:=by omega
       rw[e];exact HO.out⟩
     case measure=>simp[RowKit.intOf];omega
   ·have hz':((m:Int)==(s.size:Int)-(s'.size:Int))=false:=by simp;omega
    have HN:Hid (¬m+s'.size=s.size):=hz
    clear hz
    go_wp2
    go_quiet (fail)
    go_wp2
    go_roundw
    case rel=>exact⟨m+1,by omega,by go_num,by first|exact⟨_,rfl⟩|exact⟨_,World.drewN_drewN _ _ _⟩,fun j hj hp=>by
     rcases Nat.lt_or_ge j m with c|c
     ·exact HI.out j c hp
     ·have e:j=m:=by omega
      subst e
      exact absurd hp HN.out⟩
    case measure=>simp[RowKit.intOf];omega
  ·have hn:¬wq17 s s':=fun ⟨j,h1,h2,h3⟩=>by
    have:=HI.out j (by omega) h2
    rw[this] at h3
    cases h3
   have HQ:Hid _:=hn
   clear hn
   go_wp2_with fail
   refine(rtruth_no _).mono ?_
   rintro e w1 ⟨rfl,hb1⟩
   have g1:G w w1:=(((((G.refl w).alloc _).alloc _).alloc _).drewK _).trans hb1
   obtain⟨hc1,hf1⟩:=hb1.rules
   go_wp2
   exact bodyPost_ret (v:=.tuple #[V 1 0 0 E0,.int .i64 0]) (by simp[results,results45,go_sem,hc1]) rfl ⟨⟨false,rfl,fun h=>Bool.noConfusion h,fun h=>absurd h HQ.out⟩,by
    repeat(first|exact g1|refine G.alloc ?_ _|refine G.setCell ?_ (by simp;try omega) _)⟩
def wq18(s s':ByteArray):Prop:=∃j,j+s'.size≤s.size∧(True)∧occAt s.data.toList s'.data.toList j=true
theorem rwi_18(a b a' b':Int)(s s':ByteArray)(hs:s.size≤4611686018427387903)(hs':s'.size≤4611686018427387903)(w:World) :
  Calls prog 45 #[.int .i64 18,V 4 a b s,V 4 a' b' s'] w fun e w'=>(∃q:Bool,e=.returned (.tuple #[V 1 (tI q) 0 E0,.int .i64 0])∧(q=true↔wq18 s s'))∧G w w':=by
 have HS:∀i,Hid (((s.extract i (i+s'.size)).toList==s'.toList)=occAt s.data.toList s'.data.toList i):=fun i=>sub_at s s' i
 go_enter func45,ntmps45
 go_wp2
 go_loopw [9] (fun i W=>∃m:Nat,(m:Int)≤max 0 ((s.size:Int)-s'.size+1)∧i=.int .i64 m∧(∃n,W=(((w.alloc (.cells #[I 4,I a,I b,.string s] 31)).alloc (.cells #[I 4,I a',I b',.string s'] 31)).alloc (.cells #[I 0,I 0,I 0,.string E0] 31)).drewN n)∧Hid (∀j,j<m→(True)→occAt s.data.toList s'.data.toList j=false)) (fun i _=>s.size+1-(RowKit.intOf i).toNat)
 case atStart=>exact⟨0,by omega,rfl,⟨0,rfl⟩,fun j hj=>absurd hj (Nat.not_lt_zero j)⟩
 case round=>
  obtain⟨m,hm,rfl,⟨n,rfl⟩,HI⟩:=hrel
  by_cases hr:(m:Int)≤(s.size:Int)-s'.size
  ·have i1:m+s'.size≤s.size:=by omega
   have i2:wrap64 ((m:Int)+(s'.size:Int))=(m:Int)+(s'.size:Int):=by unfold wrap64;omega
   by_cases ho:occAt s.data.toList s'.data.toList m=true
   ·have hq:wq18 s s':=⟨m,i1,trivial,ho⟩
    have he:((s.extract m (m+s'.size)).toList==s'.toList)=true:=by rw[(HS m).out];exact ho
    have HQ:Hid _:=hq
    clear hq
    go_wp2
    go_quiet (fail)
    go_wp2_with fail
    refine(rtruth_yes _).mono ?_
    rintro e w1 ⟨rfl,hb1⟩
    have g1:G w w1:=((((((G.refl w).alloc _).alloc _).alloc _).drewK _)).trans hb1
    obtain⟨hc1,hf1⟩:=hb1.rules
    go_wp2
    exact bodyPost_ret (v:=.tuple #[V 1 1 0 E0,.int .i64 0]) (by simp[results,results45,go_sem,hc1]) rfl ⟨⟨true,rfl,fun _=>HQ.out,fun _=>rfl⟩,by
     repeat(first|exact g1|refine G.alloc ?_ _|refine G.setCell ?_ (by simp;try omega) _)⟩
   ·have ho':occAt s.data.toList s'.data.toList m=false:=by simpa using ho
    have he:((s.extract m (m+s'.size)).toList==s'.toList)=false:=by rw[(HS m).out];exact ho'
    have HO:Hid _:=ho'
    clear ho ho'
    go_wp2
    go_quiet (fail)
    go_wp2
    go_roundw
    case rel=>exact⟨m+1,by omega,by go_num,by first|exact⟨_,rfl⟩|exact⟨_,World.drewN_drewN _ _ _⟩,fun j hj hp=>by
     rcases Nat.lt_or_ge j m with c|c
     ·exact HI.out j c hp
     ·have e:j=m:=by omega
      rw[e];exact HO.out⟩
    case measure=>simp[RowKit.intOf];omega
  ·have hn:¬wq18 s s':=fun ⟨j,h1,h2,h3⟩=>by
    have:=HI.out j (by omega) h2
    rw[this] at h3
    cases h3
   have HQ:Hid _:=hn
   clear hn
   go_wp2_with fail
   refine(rtruth_no _).mono ?_
   rintro e w1 ⟨rfl,hb1⟩
   have g1:G w w1:=(((((G.refl w).alloc _).alloc _).alloc _).drewK _).trans hb1
   obtain⟨hc1,hf1⟩:=hb1.rules
   go_wp2
   exact bodyPost_ret (v:=.tuple #[V 1 0 0 E0,.int .i64 0]) (by simp[results,results45,go_sem,hc1]) rfl ⟨⟨false,rfl,fun h=>Bool.noConfusion h,fun h=>absurd h HQ.out⟩,by
    repeat(first|exact g1|refine G.alloc ?_ _|refine G.setCell ?_ (by simp;try omega) _)⟩
end
end Go.Proofs.YthmdjhfbhbheeaaGreatDoor
