import Derived.Shelf.Small.Strs
import Derived.Sort.Grow
import Derived.Deep.RegionHeld3
import Derived.Test.YtadfaiciolfgjaaGreatDoorLk37
import Derived.Test.YtadfaiciolfgjaaGreatDoorShSc
namespace Go.Proofs.YtadfaiciolfgjaaGreatDoor
open Go.Proofs.Tryz
set_option maxHeartbeats 1000000
set_option maxRecDepth 100000
section
open Go.RowKit Go.Sort
def cI(x y:Int):Int:=if x<y then -1 else if y<x then 1 else 0
def io(a b:Rs):Int:=if cI a.lv b.lv≠0 then cI a.lv b.lv else if Lib.compareBytes a.lb.data.toList b.lb.data.toList≠0 then Lib.compareBytes a.lb.data.toList b.lb.data.toList else cI a.id b.id
theorem nci(x:Int)(w:World):Calls prog 120 #[I x] w fun e w'=>e=.returned (.bool false)∧w'=w:=by
 go_enter func120,ntmps120
 go_wp2
 go_ret
 exact⟨by simp,rfl⟩
theorem ci_any(x y:Int)(w:World):Calls prog 97 #[I x,I y] w fun e w'=>e=.returned (I (cI x y))∧w'=w:=by
 have K:=hide (fun z=>nci z w)
 by_cases h1:x<y
 ·have e:cI x y = -1:=by unfold cI;rw[if_pos h1]
  rw[e]
  clear e
  go_enter func97,ntmps97
  go_wp2_with (first|(go_at_call 120;with_reducible refine(K.out _).mono ?_;rintro e w' ⟨rfl,rfl⟩)|fail)
  go_ret
  exact⟨rfl,rfl⟩
 ·by_cases h2:y<x
  ·have e:cI x y=1:=by unfold cI;rw[if_neg h1,if_pos h2]
   rw[e]
   clear e
   go_enter func97,ntmps97
   go_wp2_with (first|(go_at_call 120;with_reducible refine(K.out _).mono ?_;rintro e w' ⟨rfl,rfl⟩)|fail)
   go_ret
   exact⟨rfl,rfl⟩
  ·have e:cI x y=0:=by unfold cI;rw[if_neg h1,if_neg h2]
   rw[e]
   clear e
   go_enter func97,ntmps97
   go_wp2_with (first|(go_at_call 120;with_reducible refine(K.out _).mono ?_;rintro e w' ⟨rfl,rfl⟩)|fail)
   go_ret
   exact⟨rfl,rfl⟩
theorem ncl(x:Int)(w:World):Calls prog 122 #[I x] w fun e w'=>e=.returned (.bool false)∧w'=w:=by
 go_enter func122,ntmps122
 go_wp2
 go_ret
 exact⟨by simp,rfl⟩
theorem cl_any(x y:Int)(w:World):Calls prog 99 #[I x,I y] w fun e w'=>e=.returned (I (cI x y))∧w'=w:=by
 have K:=hide (fun z=>ncl z w)
 by_cases h1:x<y
 ·have e:cI x y = -1:=by unfold cI;rw[if_pos h1]
  rw[e]
  clear e
  go_enter func99,ntmps99
  go_wp2_with (first|(go_at_call 122;with_reducible refine(K.out _).mono ?_;rintro e w' ⟨rfl,rfl⟩)|fail)
  go_ret
  exact⟨rfl,rfl⟩
 ·by_cases h2:y<x
  ·have e:cI x y=1:=by unfold cI;rw[if_neg h1,if_pos h2]
   rw[e]
   clear e
   go_enter func99,ntmps99
   go_wp2_with (first|(go_at_call 122;with_reducible refine(K.out _).mono ?_;rintro e w' ⟨rfl,rfl⟩)|fail)
   go_ret
   exact⟨rfl,rfl⟩
  ·have e:cI x y=0:=by unfold cI;rw[if_neg h1,if_neg h2]
   rw[e]
   clear e
   go_enter func99,ntmps99
   go_wp2_with (first|(go_at_call 122;with_reducible refine(K.out _).mono ?_;rintro e w' ⟨rfl,rfl⟩)|fail)
   go_ret
   exact⟨rfl,rfl⟩
theorem cs_any(a b:ByteArray)(w:World):Calls prog 98 #[.string a,.string b] w fun e w'=>e=.returned (I (Lib.compareBytes a.data.toList b.data.toList))∧w'=w:=Any.strings_Compare Tryz.laysStrCmp a b w
theorem or_any(b:Nat)(x y z:Int)(w:World)(hb:Blk w b 3 [I x,I y,I z]):Calls prog 96 #[.slice (some ⟨b,0,none⟩) 3 3] w fun e w'=>e=.returned (I (if x≠0 then x else if y≠0 then y else z))∧w'=w:=by
 have h0:w.cell? ⟨b,0,none⟩=some (I x):=hb.cell 0
 have h1:w.cell? ⟨b,1,none⟩=some (I y):=hb.cell 1
 have h2:w.cell? ⟨b,2,none⟩=some (I z):=hb.cell 2
 clear hb
 by_cases e0:x=0
 ·have b0:(x != 0)=false:=by simp[e0]
  rw[if_neg (by simp[e0])]
  by_cases e1:y=0
  ·have b1:(y != 0)=false:=by simp[e1]
   rw[if_neg (by simp[e1])]
   by_cases e2:z=0
   ·subst e0 e1 e2
    clear b0 b1
    go_enter func96,ntmps96
    go_wp2
    refine wp_loop_rounds 4 ?_
    rw[rounds_succ]
    go_wp2
    rw[rounds_succ]
    go_wp2
    rw[rounds_succ]
    go_wp2
    rw[rounds_succ]
    go_wp2
    go_ret
    exact⟨rfl,rfl⟩
   ·have b2:(z != 0)=true:=by simp[e2]
    subst e0 e1
    clear b0 b1
    go_enter func96,ntmps96
    go_wp2
    refine wp_loop_rounds 3 ?_
    rw[rounds_succ]
    go_wp2
    rw[rounds_succ]
    go_wp2
    rw[rounds_succ]
    go_wp2
    go_ret
    exact⟨rfl,rfl⟩
  ·rw[if_pos e1]
   subst e0
   clear b0
   go_enter func96,ntmps96
   go_wp2
   refine wp_loop_rounds 2 ?_
   rw[rounds_succ]
   go_wp2
   rw[rounds_succ]
   go_wp2
   go_ret
   exact⟨rfl,rfl⟩
 ·rw[if_pos e0]
  go_enter func96,ntmps96
  go_wp2
  refine wp_loop_rounds 1 ?_
  rw[rounds_succ]
  go_wp2
  go_ret
  exact⟨rfl,rfl⟩
end
section
open Go.RowKit Go.Sort
theorem in_order(a b:Rs)(w:World):Calls prog 66 #[a.v,b.v] w fun e w'=>e=.returned (I (io a b))∧∃q os,w'=grow (w.drewN q) os:=by
 have ka:=(Blk.new w [I a.lv,.string a.lb,I a.id] 33).G ((G.refl _).alloc (.cells #[I b.lv,.string b.lb,I b.id] 33))
 have kb:=Blk.new (w.alloc (.cells #[I a.lv,.string a.lb,I a.id] 33)) [I b.lv,.string b.lb,I b.id] 33
 rw[World.size_alloc] at kb
 have hS:(fun W:World=>(∀o,W.cell? ⟨w.heap.size,o,none⟩=([I a.lv,.string a.lb,I a.id]:List Value)[o]?)∧(∀o,W.cell? ⟨w.heap.size+1,o,none⟩=([I b.lv,.string b.lb,I b.id]:List Value)[o]?)) (((w.alloc (.cells #[I a.lv,.string a.lb,I a.id] 33)).alloc (.cells #[I b.lv,.string b.lb,I b.id] 33))).drew:=⟨ka.drew.cell,kb.drew.cell⟩
 have HS:=hide hS
 have HA:=hide ka
 have HB:=hide kb
 have HW:Hid (∃q os,(((w.alloc (.cells #[I a.lv,.string a.lb,I a.id] 33)).alloc (.cells #[I b.lv,.string b.lb,I b.id] 33))).drew=grow (w.drewN q) os):=⟨1,#[.cells #[I a.lv,.string a.lb,I a.id] 33,.cells #[I b.lv,.string b.lb,I b.id] 33],by
  rw[alloc_eq_grow,alloc_eq_grow,grow_grow];rfl⟩
 obtain⟨c1,h1⟩:∃c,c=cI a.lv b.lv:=⟨_,rfl⟩
 obtain⟨c2,h2⟩:∃c,c=Lib.compareBytes a.lb.data.toList b.lb.data.toList:=⟨_,rfl⟩
 obtain⟨c3,h3⟩:∃c,c=cI a.id b.id:=⟨_,rfl⟩
 have K1:Hid (∀W,Calls prog 97 #[I a.lv,I b.lv] W fun e w'=>e=.returned (I c1)∧w'=W):=fun W=>by rw[h1];exact ci_any _ _ W
 have K2:Hid (∀W,Calls prog 98 #[.string a.lb,.string b.lb] W fun e w'=>e=.returned (I c2)∧w'=W):=fun W=>by rw[h2];exact cs_any _ _ W
 have K3:Hid (∀W,Calls prog 99 #[I a.id,I b.id] W fun e w'=>e=.returned (I c3)∧w'=W):=fun W=>by rw[h3];exact cl_any _ _ W
 have hio:io a b=(if c1≠0 then c1 else if c2≠0 then c2 else c3):=by unfold io;rw[h1,h2,h3]
 rw[hio]
 obtain⟨R,hR⟩:∃R,R=(if c1≠0 then c1 else if c2≠0 then c2 else c3):=⟨_,rfl⟩
 have K4:Hid (∀W:World,Calls prog 96 #[.slice (some ⟨W.heap.size,0,none⟩) 3 3] ((W.alloc (.cells #[I c1,I c2,I c3] 3)).drew) fun e w'=>e=.returned (I R)∧w'=(W.alloc (.cells #[I c1,I c2,I c3] 3)).drew):=fun W=>by rw[hR];exact or_any _ _ _ _ _ (Blk.new W [I c1,I c2,I c3] 3).drew
 rw[←hR]
 clear h1 h2 h3 hio hR ka kb hS
 simp only[Rs.v]
 go_enter func66,ntmps66
 go_wp2
 generalize ((w.alloc (.cells #[I a.lv,.string a.lb,I a.id] 33)).alloc (.cells #[I b.lv,.string b.lb,I b.id] 33))=V at HS HW HA HB⊢
 obtain⟨hx,hy⟩:=HS.out
 go_region_held3 (fun W:World=>(∀o,W.cell? ⟨w.heap.size,o,none⟩=([I a.lv,.string a.lb,I a.id]:List Value)[o]?)∧(∀o,W.cell? ⟨w.heap.size+1,o,none⟩=([I b.lv,.string b.lb,I b.id]:List Value)[o]?)) (first|exact HS.out|exact⟨(HA.out.G ((G.refl V).alloc _)).drew.cell,(HB.out.G ((G.refl V).alloc _)).drew.cell⟩) (first|(go_at_call 97;with_reducible refine(K1.out _).mono ?_;rintro e w5 ⟨rfl,rfl⟩)|(go_at_call 98;with_reducible refine(K2.out _).mono ?_;rintro e w5 ⟨rfl,rfl⟩)|(go_at_call 99;with_reducible refine(K3.out _).mono ?_;rintro e w5 ⟨rfl,rfl⟩)|(go_at_call 96;with_reducible refine(K4.out _).mono ?_;rintro e w5 ⟨rfl,rfl⟩)|fail)
 all_goals (go_wp2;go_ret)
 all_goals (obtain⟨q,os,hw⟩:=HW.out;refine⟨rfl,q,os++#[.cells #[I c1,I c2,I c3] 3],?_⟩;show V.drew.alloc _=_;rw[hw,alloc_eq_grow,grow_grow])
end
end Go.Proofs.YtadfaiciolfgjaaGreatDoor
