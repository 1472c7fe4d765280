import Derived.Laws.AppendOwnNone
import Derived.Test.YthmdjhfbhbheeaaGreatDoorDec6
namespace Go.Proofs.YthmdjhfbhbheeaaGreatDoor
open Go.Proofs.Tryz
set_option maxHeartbeats 100000000
set_option maxRecDepth 100000
section
open Go.RowKit Go.Shelf Go.PlainAid Go.Lib
theorem ren_no(k a b:Int)(s:ByteArray)(hs:s.size≤4611686018427387904)(h:okV k a b s=false)(w:World):Calls prog 9 #[V k a b s] w fun e w'=>e=.returned (.tuple #[.slice none 0 0,.int .i64 16])∧G w w':=by
 have HV:Hid (∀w,Calls prog 26 #[V k a b s] w fun e w'=>e=.returned (.bool (okV k a b s))∧G w w'):=rv_any k a b s hs
 rw[h] at HV
 clear h
 go_enter func9,ntmps9
 go_wp2_with fail
 refine(HV.out _).mono ?_
 rintro e w1 ⟨rfl,hb1⟩
 have hc1:∀o,w1.cell? {block:=w.heap.size,off:=o}=[I k,I a,I b,.string s][o]?:=G.cells hb1 (by simp) (by simp)
 have hz1':w.heap.size<w1.heap.size:=by have:=hb1.size;simp at this;omega
 have hG1:G w w1:=((G.refl w).alloc _).trans hb1
 have HG:Hid _:=hG1
 clear hb1 HV hG1
 go_wp2
 go_ret2
 exact⟨rfl,HG.out⟩
theorem ren_0(a b:Int)(s:ByteArray)(hs:s.size≤4611686018427387904)(h:okV 0 a b s=true)(w:World):Calls prog 9 #[V 0 a b s] w fun e w'=>∃x',e=.returned (.tuple #[x',.int .i64 0])∧Bw w w' x' ([80]):=by
 have HV:Hid (∀w,Calls prog 26 #[V 0 a b s] w fun e w'=>e=.returned (.bool (okV 0 a b s))∧G w w'):=rv_any 0 a b s hs
 rw[h] at HV
 clear h
 go_enter func9,ntmps9
 go_wp2_with fail
 refine(HV.out _).mono ?_
 rintro e w1 ⟨rfl,hb1⟩
 have hc1:∀o,w1.cell? {block:=w.heap.size,off:=o}=[I 0,I a,I b,.string s][o]?:=G.cells hb1 (by simp) (by simp)
 have hz1':w.heap.size<w1.heap.size:=by have:=hb1.size;simp at this;omega
 have hG1:G w w1:=((G.refl w).alloc _).trans hb1
 have HG:Hid _:=hG1
 clear hb1 HV hG1
 go_wp2
 go_ret2
 exact⟨_,rfl,by simpa using Bw.fresh HG.out [80] #[.int .u8 80] rfl (by decide)⟩
theorem ren_1_0(b:Int)(s:ByteArray)(hs:s.size≤4611686018427387904)(h:okV 1 0 b s=true)(w:World):Calls prog 9 #[V 1 0 b s] w fun e w'=>∃x',e=.returned (.tuple #[x',.int .i64 0])∧Bw w w' x' ([48,0]):=by
 have HV:Hid (∀w,Calls prog 26 #[V 1 0 b s] w fun e w'=>e=.returned (.bool (okV 1 0 b s))∧G w w'):=rv_any 1 0 b s hs
 rw[h] at HV
 clear h
 go_enter func9,ntmps9
 go_wp2_with fail
 refine(HV.out _).mono ?_
 rintro e w1 ⟨rfl,hb1⟩
 have hc1:∀o,w1.cell? {block:=w.heap.size,off:=o}=[I 1,I 0,I b,.string s][o]?:=G.cells hb1 (by simp) (by simp)
 have hz1':w.heap.size<w1.heap.size:=by have:=hb1.size;simp at this;omega
 have hG1:G w w1:=((G.refl w).alloc _).trans hb1
 have HG:Hid _:=hG1
 clear hb1 HV hG1
 go_wp2
 go_ret2
 exact⟨_,rfl,by simpa using Bw.fresh HG.out [48,0] #[.int .u8 48,.int .u8 0] rfl (by decide)⟩
theorem ren_1_1(b:Int)(s:ByteArray)(hs:s.size≤4611686018427387904)(h:okV 1 1 b s=true)(w:World):Calls prog 9 #[V 1 1 b s] w fun e w'=>∃x',e=.returned (.tuple #[x',.int .i64 0])∧Bw w w' x' ([48,1]):=by
 have HV:Hid (∀w,Calls prog 26 #[V 1 1 b s] w fun e w'=>e=.returned (.bool (okV 1 1 b s))∧G w w'):=rv_any 1 1 b s hs
 rw[h] at HV
 clear h
 go_enter func9,ntmps9
 go_wp2_with fail
 refine(HV.out _).mono ?_
 rintro e w1 ⟨rfl,hb1⟩
 have hc1:∀o,w1.cell? {block:=w.heap.size,off:=o}=[I 1,I 1,I b,.string s][o]?:=G.cells hb1 (by simp) (by simp)
 have hz1':w.heap.size<w1.heap.size:=by have:=hb1.size;simp at this;omega
 have hG1:G w w1:=((G.refl w).alloc _).trans hb1
 have HG:Hid _:=hG1
 clear hb1 HV hG1
 go_wp2
 go_ret2
 exact⟨_,rfl,by simpa using Bw.fresh HG.out [48,1] #[.int .u8 48,.int .u8 1] rfl (by decide)⟩
theorem ren_2(a b:Int)(s:ByteArray)(h1:-9223372036854775808≤a)(h2:a≤9223372036854775807)(hs:s.size≤4611686018427387904)(h:okV 2 a b s=true)(w:World):Calls prog 9 #[V 2 a b s] w fun e w'=>∃x',e=.returned (.tuple #[x',.int .i64 0])∧Bw w w' x' (encW a++[0]):=by
 obtain⟨i0,hi,hz0,hz1,hz2⟩:=info_parts info_u8
 have hl:=encW_len a h1 h2
 have HA:Hid _:=rby_any a h1 h2
 clear h1 h2
 have HV:Hid (∀w,Calls prog 26 #[V 2 a b s] w fun e w'=>e=.returned (.bool (okV 2 a b s))∧G w w'):=rv_any 2 a b s hs
 rw[h] at HV
 clear h
 go_enter func9,ntmps9
 go_wp2_with fail
 refine(HV.out _).mono ?_
 rintro e w1 ⟨rfl,hb1⟩
 have hc1:∀o,w1.cell? {block:=w.heap.size,off:=o}=[I 2,I a,I b,.string s][o]?:=G.cells hb1 (by simp) (by simp)
 have hz1':w.heap.size<w1.heap.size:=by have:=hb1.size;simp at this;omega
 have hG1:G w w1:=((G.refl w).alloc _).trans hb1
 have HG:Hid _:=hG1
 clear hb1 HV hG1
 go_wp2_with fail
 refine(HA.out _).mono ?_
 rintro e w2 ⟨x2,rfl,hB⟩
 have HB:Hid (Bw w w2 x2 (encW a)):=hB.down HG.out
 have hs2:=HB.out.g.size
 clear hB
 go_wp2_with (at_builtin;refine wpList_append_own _ rfl _ _ 33 rfl w.heap.size 5 i0 (.int .u8 0) 1 1 underlying33 hi hz0 hz1 hz2 rfl (by decide) _ _ _ rfl (World.ownsRow.alloc HB.out.own _) ⟨w2.heap.size,0,none⟩ 1 1 [bv 0] rfl ?c0 ?c1 ?c2 ?c3 ?c4 ?c5 ?_)
 case c0=>rfl
 case c1=>
  intro j u hj
  match j,hj with
  | 0,hj=>simp at hj;subst hj;simp[Addr.add]
 case c2=>first|rfl|(intro u hu;simp at hu;subst hu;rfl)
 case c3=>unfold maxLen;(first|omega|(simp;omega))
 case c4=>(first|omega|(simp;omega))
 case c5=>(first|omega|(simp;omega))
 intro x3 w3 hown hgrow _
 have HB3:Hid (Bw w w3 x3 (encW a++[0])):=(HB.out.keep ((G.refl _).alloc _)).app [0] 1 rfl hown hgrow
 clear hown hgrow HB
 go_wp2
 go_ret2
 exact⟨_,rfl,HB3.out⟩
theorem ren_5(a b:Int)(s:ByteArray)(h1:-9223372036854775808≤a)(h2:a≤9223372036854775807)(hs:s.size≤4611686018427387904)(h:okV 5 a b s=true)(w:World):Calls prog 9 #[V 5 a b s] w fun e w'=>∃x',e=.returned (.tuple #[x',.int .i64 0])∧Bw w w' x' (16::encW a):=by
 have hl:=encW_len a h1 h2
 have HA:Hid _:=rby_any a h1 h2
 clear h1 h2
 have HV:Hid (∀w,Calls prog 26 #[V 5 a b s] w fun e w'=>e=.returned (.bool (okV 5 a b s))∧G w w'):=rv_any 5 a b s hs
 rw[h] at HV
 clear h
 go_enter func9,ntmps9
 go_wp2_with fail
 refine(HV.out _).mono ?_
 rintro e w1 ⟨rfl,hb1⟩
 have hc1:∀o,w1.cell? {block:=w.heap.size,off:=o}=[I 5,I a,I b,.string s][o]?:=G.cells hb1 (by simp) (by simp)
 have hz1':w.heap.size<w1.heap.size:=by have:=hb1.size;simp at this;omega
 have hG1:G w w1:=((G.refl w).alloc _).trans hb1
 have HG:Hid _:=hG1
 clear hb1 HV hG1
 have hL:RowB (w1.alloc (.cells #[.int .u8 16] 5)) (.slice (some ⟨w1.heap.size,0,none⟩) 1 1) [16]:=by
  have:=(Bw.fresh (G.refl w1) [16] #[.int .u8 16] rfl (by decide)).row
  simpa using this
 have HL:Hid (RowB (w1.alloc (.cells #[.int .u8 16] 5)) (.slice (some ⟨w1.heap.size,0,none⟩) 1 1) [16]):=hL
 clear hL
 go_wp2_with fail
 refine(HA.out _).mono ?_
 rintro e w2 ⟨x2,rfl,hB⟩
 have HJ:Hid _:=joined_any _ _ [16] (encW a) w2 (RowB.G HL.out hB.g) hB.row (by simp) (by omega)
 have HG2:Hid (G w w2):=G.trans (G.alloc HG.out _) hB.g
 clear hB HL
 go_wp2_with fail
 refine Calls.mono HJ.out ?_
 rintro e w3 ⟨x3,rfl,hB⟩
 have HB3:Hid (Bw w w3 x3 (16::encW a)):=hB.down HG2.out
 clear hB HJ
 go_wp2
 go_ret2
 exact⟨_,rfl,HB3.out⟩
theorem ren_6(a b:Int)(s:ByteArray)(h1:-9223372036854775808≤a)(h2:a≤9223372036854775807)(hs:s.size≤4611686018427387904)(h:okV 6 a b s=true)(w:World):Calls prog 9 #[V 6 a b s] w fun e w'=>∃x',e=.returned (.tuple #[x',.int .i64 0])∧Bw w w' x' (17::encW a):=by
 have hl:=encW_len a h1 h2
 have HA:Hid _:=rby_any a h1 h2
 clear h1 h2
 have HV:Hid (∀w,Calls prog 26 #[V 6 a b s] w fun e w'=>e=.returned (.bool (okV 6 a b s))∧G w w'):=rv_any 6 a b s hs
 rw[h] at HV
 clear h
 go_enter func9,ntmps9
 go_wp2_with fail
 refine(HV.out _).mono ?_
 rintro e w1 ⟨rfl,hb1⟩
 have hc1:∀o,w1.cell? {block:=w.heap.size,off:=o}=[I 6,I a,I b,.string s][o]?:=G.cells hb1 (by simp) (by simp)
 have hz1':w.heap.size<w1.heap.size:=by have:=hb1.size;simp at this;omega
 have hG1:G w w1:=((G.refl w).alloc _).trans hb1
 have HG:Hid _:=hG1
 clear hb1 HV hG1
 have hL:RowB (w1.alloc (.cells #[.int .u8 17] 5)) (.slice (some ⟨w1.heap.size,0,none⟩) 1 1) [17]:=by
  have:=(Bw.fresh (G.refl w1) [17] #[.int .u8 17] rfl (by decide)).row
  simpa using this
 have HL:Hid (RowB (w1.alloc (.cells #[.int .u8 17] 5)) (.slice (some ⟨w1.heap.size,0,none⟩) 1 1) [17]):=hL
 clear hL
 go_wp2_with fail
 refine(HA.out _).mono ?_
 rintro e w2 ⟨x2,rfl,hB⟩
 have HJ:Hid _:=joined_any _ _ [17] (encW a) w2 (RowB.G HL.out hB.g) hB.row (by simp) (by omega)
 have HG2:Hid (G w w2):=G.trans (G.alloc HG.out _) hB.g
 clear hB HL
 go_wp2_with fail
 refine Calls.mono HJ.out ?_
 rintro e w3 ⟨x3,rfl,hB⟩
 have HB3:Hid (Bw w w3 x3 (17::encW a)):=hB.down HG2.out
 clear hB HJ
 go_wp2
 go_ret2
 exact⟨_,rfl,HB3.out⟩
theorem ren_4(a b:Int)(s:ByteArray)(hs:s.size≤4611686018427387904)(h:okV 4 a b s=true)(w:World):Calls prog 9 #[V 4 a b s] w fun e w'=>∃x',e=.returned (.tuple #[x',.int .i64 0])∧Bw w w' x' ((32::strB s s.size)++[0,0]):=by
 obtain⟨i0,hi,hz0,hz1,hz2⟩:=info_parts info_u8
 have hb:=get_bt s
 have hs32:s.size≤32:=by simp[okV,Bool.and_eq_true] at h;exact h.1.2
 have hsi:(s.size:Int)≤32:=by omega
 have HV:Hid (∀w,Calls prog 26 #[V 4 a b s] w fun e w'=>e=.returned (.bool (okV 4 a b s))∧G w w'):=rv_any 4 a b s hs
 rw[h] at HV
 clear h
 go_enter func9,ntmps9
 go_wp2_with fail
 refine(HV.out _).mono ?_
 rintro e w1 ⟨rfl,hb1⟩
 have hc1:∀o,w1.cell? {block:=w.heap.size,off:=o}=[I 4,I a,I b,.string s][o]?:=G.cells hb1 (by simp) (by simp)
 have hz1':w.heap.size<w1.heap.size:=by have:=hb1.size;simp at this;omega
 have hG1:G w w1:=((G.refl w).alloc _).trans hb1
 have HG:Hid _:=hG1
 clear hb1 HV hG1
 go_wp2
 go_loopw [4,5] (fun x i W=>∃m:Nat,m≤s.size∧i=.int .i64 m∧Bw w1 W x (32::strB s m)) (fun _ i _=>s.size-(RowKit.intOf i).toNat)
 case atStart=>exact⟨0,Nat.zero_le _,rfl,by have:=Bw.fresh (G.refl w1) [32] #[.int .u8 32] rfl (by decide);simpa [strB,encS] using this⟩
 case round=>
  obtain⟨m,hm,rfl,hB⟩:=hrel
  have hsz:=hB.g.size
  have hcr:∀o,wr.cell? {block:=w.heap.size,off:=o}=[I 4,I a,I b,.string s][o]?:=G.cells hB.g hc1 hz1'
  have HB:Hid _:=hB
  clear hB
  have hlen:=strB_len s m
  by_cases hlt:m<s.size
  ·have hI:(m:Int)<(s.size:Int):=by omega
   have x0:=bt_nonneg s m
   have x1:=bt_le s m
   by_cases hz:bt s m=0
   ·have E1:Hid _:=strB_zero s m hz
    go_wp2_with (at_builtin;refine wpList_append_own _ rfl _ _ 33 rfl w1.heap.size 5 i0 (.int .u8 0) 1 1 underlying33 hi hz0 hz1 hz2 rfl (by decide) _ _ _ rfl (World.ownsRow.alloc HB.out.own _) ⟨wr.heap.size,0,none⟩ 1 1 [bv 0] rfl ?c0 ?c1 ?c2 ?c3 ?c4 ?c5 ?_)
    case c0=>rfl
    case c1=>
     intro j u hj
     match j,hj with
     | 0,hj=>simp at hj;subst hj;simp[Addr.add]
    case c2=>first|rfl|(intro u hu;simp at hu;subst hu;rfl)
    case c3=>unfold maxLen;(first|omega|(simp;omega))
    case c4=>(first|omega|(simp;omega))
    case c5=>(first|omega|(simp;omega))
    intro x2 w2 hown hgrow _
    have HB2:Hid (Bw w1 w2 x2 ((32::strB s m)++[0])):=(HB.out.keep ((G.refl _).alloc _)).app [0] 1 rfl (by simpa using hown) hgrow
    have hs2:=HB2.out.g.size
    have hcr2:∀o,w2.cell? {block:=w.heap.size,off:=o}=[I 4,I a,I b,.string s][o]?:=G.cells HB2.out.g hc1 hz1'
    clear hown hgrow HB
    go_wp2_with (at_builtin;refine wpList_append_own _ rfl _ _ 33 rfl w1.heap.size 5 i0 (.int .u8 0) 1 1 underlying33 hi hz0 hz1 hz2 rfl (by decide) _ _ _ rfl (World.ownsRow.alloc HB2.out.own _) ⟨w2.heap.size,0,none⟩ 1 1 [bv 255] rfl ?d0 ?d1 ?d2 ?d3 ?d4 ?d5 ?_)
    case d0=>rfl
    case d1=>
     intro j u hj
     match j,hj with
     | 0,hj=>simp at hj;subst hj;simp[Addr.add]
    case d2=>first|rfl|(intro u hu;simp at hu;subst hu;rfl)
    case d3=>unfold maxLen;(first|omega|(simp;omega))
    case d4=>(first|omega|(simp;omega))
    case d5=>(first|omega|(simp;omega))
    intro x3 w3 hown hgrow _
    have HB3:Hid (Bw w1 w3 x3 (((32::strB s m)++[0])++[255])):=(HB2.out.keep ((G.refl _).alloc _)).app [255] 1 rfl (by simpa using hown) hgrow
    clear hown hgrow HB2
    go_wp2
    go_roundw
    case rel=>exact⟨m+1,by omega,by go_num,by have:=HB3.out;rw[E1.out];simpa using this⟩
    case measure=>simp[RowKit.intOf];omega
   ·have E1:Hid _:=strB_other s m hz
    have hz':(bt s m==0)=false:=beq_false_of_ne hz
    have eb:Value.int .u8 (bt s m)=bv (bt s m).toNat:=by show Value.int .u8 _=Value.int .u8 _;congr 1;omega
    have EB:Hid _:=eb
    clear eb
    go_wp2_with (at_builtin;refine wpList_append_own _ rfl _ _ 33 rfl w1.heap.size 5 i0 (.int .u8 0) 1 1 underlying33 hi hz0 hz1 hz2 rfl (by decide) _ _ _ rfl (World.ownsRow.alloc HB.out.own _) ⟨wr.heap.size,0,none⟩ 1 1 [.int .u8 (bt s m)] rfl ?c0 ?c1 ?c2 ?c3 ?c4 ?c5 ?_)
    case c0=>rfl
    case c1=>
     intro j u hj
     match j,hj with
     | 0,hj=>simp at hj;subst hj;simp[Addr.add]
    case c2=>first|rfl|(intro u hu;simp at hu;subst hu;rfl)
    case c3=>unfold maxLen;(first|omega|(simp;omega))
    case c4=>(first|omega|(simp;omega))
    case c5=>(first|omega|(simp;omega))
    intro x2 w2 hown hgrow _
    have HB2:Hid (Bw w1 w2 x2 ((32::strB s m)++[(bt s m).toNat])):=(HB.out.keep ((G.refl _).alloc _)).app [(bt s m).toNat] 1 rfl (by rw[EB.out] at hown;simpa using hown) hgrow
    have hcr2:∀o,w2.cell? {block:=w.heap.size,off:=o}=[I 4,I a,I b,.string s][o]?:=G.cells HB2.out.g hc1 hz1'
    clear hown hgrow HB
    go_wp2
    go_roundw
    case rel=>exact⟨m+1,by omega,by go_num,by have:=HB2.out;rw[E1.out];simpa using this⟩
    case measure=>simp[RowKit.intOf];omega
  ·have e:m=s.size:=by omega
   subst e
   have hI:¬(s.size:Int)<(s.size:Int):=by omega
   go_wp2_with (at_builtin;refine wpList_append_own _ rfl _ _ 33 rfl w1.heap.size 5 i0 (.int .u8 0) 1 1 underlying33 hi hz0 hz1 hz2 rfl (by decide) _ _ _ rfl (World.ownsRow.alloc HB.out.own _) ⟨wr.heap.size,0,none⟩ 2 2 [bv 0,bv 0] rfl ?c0 ?c1 ?c2 ?c3 ?c4 ?c5 ?_)
   case c1=>
    intro j u hj
    match j,hj with
    | 0,hj=>simp at hj;subst hj;simp
    | 1,hj=>simp at hj;subst hj;simp
   case c2=>first|rfl|(intro u hu;simp at hu;rcases hu with rfl|rfl<;>rfl)
   case c3=>unfold maxLen;(first|omega|(simp;omega))
   case c4=>(first|omega|(simp;omega))
   case c5=>(first|omega|(simp;omega))
   intro x2 w2 hown hgrow _
   have HB2:Hid (Bw w1 w2 x2 ((32::strB s s.size)++[0,0])):=(HB.out.keep ((G.refl _).alloc _)).app [0,0] 2 rfl (by simpa using hown) hgrow
   clear hown hgrow HB
   go_wp2
   go_ret2
   exact⟨_,rfl,by simpa using HB2.out.down HG.out⟩
end
section
open Go.RowKit Go.Shelf Go.PlainAid Go.Lib
theorem one_cell{Y:World}{ad:Addr}{v:Value}(h:Y.cell? ad=some v):∀(j:Nat) (u:Value),[v][j]?=some u→Y.cell? (ad.add j)=some u:=by
 intro j u hj
 match j,hj with
 | 0,hj=>simp at hj;subst hj;exact h
def PR(n:Int):Prop:=-33554432≤n∧n≤33554432
theorem ren_3(a b:Int)(s:ByteArray)(h1:-33554432≤a)(h2:a≤33554432)(h3:-33554432≤b)(h4:b≤33554432)(hs:s.size≤4611686018427387904)(h:okV 3 a b s=true)(w:World) :
  Calls prog 9 #[V 3 a b s] w fun e w'=>∃x',e=.returned (.tuple #[x',.int .i64 0])∧Bw w w' x' ((encW a++[1])++encW b):=by
 obtain⟨i0,hi,hz0,hz1,hz2⟩:=info_parts info_u8
 have hla:=encW_len a (by omega) (by omega)
 have hlb:=encW_len b (by omega) (by omega)
 have HX:Hid (∀n,PR n→∀w,Calls prog 28 #[.int .i64 n] w fun e w'=>∃x',e=.returned x'∧Bw w w' x' (encW n)):=fun n hn w=>rby_any n (by have:=hn.1;omega) (by have:=hn.2;omega) w
 have HJ:Hid (∀a b xs ys w,RowB w a xs→RowB w b ys→xs.length≤1000→ys.length≤1000→Calls prog 27 #[a,b] w fun e w'=>∃x',e=.returned x'∧Bw w w' x' (xs++ys)):=joined_any
 have pa:PR a:=⟨h1,h2⟩
 have pb:PR b:=⟨h3,h4⟩
 have HV:Hid (∀w,Calls prog 26 #[V 3 a b s] w fun e w'=>e=.returned (.bool (okV 3 a b s))∧G w w'):=rv_any 3 a b s hs
 rw[h] at HV
 clear h h1 h2 h3 h4
 go_enter func9,ntmps9
 go_wp2_with fail
 refine(HV.out _).mono ?_
 rintro e w1 ⟨rfl,hb1⟩
 have hc1:∀o,w1.cell? {block:=w.heap.size,off:=o}=[I 3,I a,I b,.string s][o]?:=G.cells hb1 (by simp) (by simp)
 have hz1':w.heap.size<w1.heap.size:=by have:=hb1.size;simp at this;omega
 have hG1:G w w1:=((G.refl w).alloc _).trans hb1
 have HG:Hid _:=hG1
 clear hb1 HV hG1
 go_wp2
 have HK:Hid (∀W,G w1 W→(∀(o:Nat),W.cell? {block:=w.heap.size,off:=o}=[I 3,I a,I b,.string s][o]?)∧G w1 W):=fun W g=>⟨G.cells g hc1 hz1',g⟩
 have hS:(∀(o:Nat),w1.cell? {block:=w.heap.size,off:=o}=[I 3,I a,I b,.string s][o]?)∧G w1 w1:=⟨hc1,G.refl w1⟩
 clear hc1 hz1'
 go_region_held3 (fun W=>(∀(o:Nat),W.cell? {block:=w.heap.size,off:=o}=[I 3,I a,I b,.string s][o]?)∧G w1 W) ((first|assumption|exact HK.out _ hB7.g|exact HK.out _ hB6.g|exact HK.out _ (G.drew (And.right (by assumption)))|exact HK.out _ (G.alloc (And.right (by assumption)) _)|exact HK.out _ (G.trans (And.right (by assumption)) hb5.g)))
  (first|(go_at_call 28;refine(HX.out _ (by assumption) _).mono ?_;rintro e w5 ⟨x5,rfl,hb5⟩)|(have hBY:=Bw.down (w0:=w1) hb5 (by repeat(first|exact G.refl _|refine G.alloc ?_ _|refine G.drew ?_));refine(if_pos rfl).mpr ?_;refine wp_append_own _ _ _ 33 rfl w1.heap.size 5 i0 (.int .u8 0) 1 1 underlying33 hi hz0 hz1 hz2 rfl (by decide) _ _ _ rfl (hBY.keep (by repeat(first|exact G.refl _|refine G.alloc ?_ _|refine G.drew ?_))).own _ 1 1 [bv 1] rfl rfl (one_cell (by first|(simp;done)|exact(G.cell hb5.g (by simp)).trans (by simp))) (fun u hu=>by simp at hu;subst hu;rfl) (by unfold maxLen;omega) (by omega) (hBY.keep (by repeat(first|exact G.refl _|refine G.alloc ?_ _|refine G.drew ?_))).g.size ?_;intro x6 w6 hown6 hgrow6 _;have hB6:=(hBY.keep (by repeat(first|exact G.refl _|refine G.alloc ?_ _|refine G.drew ?_))).app [1] 1 rfl hown6 hgrow6;clear hown6 hgrow6 hBY)|(go_at_call 27;refine(HJ.out _ _ (encW a++[1]) (encW b) _ (RowB.G hB6.row (G.trans (by repeat(first|exact G.refl _|refine G.alloc ?_ _|refine G.drew ?_)) hb5.g)) hb5.row (by simp;omega) (by omega)).mono ?_;rintro e w7 ⟨x7,rfl,hb7⟩;have hB7:=Bw.down (w0:=w1) hb7 (hB6.g.trans (G.trans (by repeat(first|exact G.refl _|refine G.alloc ?_ _|refine G.drew ?_)) hb5.g)))|fail)
 all_goals
  have HB7:Hid _:=hB7
  clear hB7 hb7 hb5 hB6
  go_wp2
  go_ret2
  exact⟨_,rfl,HB7.out.down HG.out⟩
theorem ren_yes(k a b:Int)(s:ByteArray)(hs:s.size≤4611686018427387904)(h:okV k a b s=true)(ha:R64 a)(w:World):Calls prog 9 #[V k a b s] w fun e w'=>∃x',e=.returned (.tuple #[x',.int .i64 0])∧Bw w w' x' (encV k a b s):=by
 have hk:=okV_kind k a b s h
 have:k=0∨k=1∨k=2∨k=3∨k=4∨k=5∨k=6:=by omega
 rcases this with rfl|rfl|rfl|rfl|rfl|rfl|rfl
 ·exact ren_0 a b s hs h w
 ·have ha':a=0∨a=1:=by simp[okV,Bool.and_eq_true] at h;exact h.1.1
  rcases ha' with rfl|rfl
  ·exact ren_1_0 b s hs h w
  ·exact ren_1_1 b s hs h w
 ·exact ren_2 a b s ha.1 ha.2 hs h w
 ·have hpp:partB a=true∧partB b=true:=by simp[okV,Bool.and_eq_true] at h;exact h.1
  have pa:=(partB_iff a).1 hpp.1;have pb:=(partB_iff b).1 hpp.2
  exact ren_3 a b s pa.1 pa.2 pb.1 pb.2 hs h w
 ·exact ren_4 a b s hs h w
 ·exact ren_5 a b s ha.1 ha.2 hs h w
 ·exact ren_6 a b s ha.1 ha.2 hs h w
end
section
open Go.RowKit Go.Shelf Go.PlainAid Go.Lib
theorem strN_inj(xs ys:List Nat)(hx:∀d∈xs,d<256)(hy:∀d∈ys,d<256)(h:(strN xs).toList=(strN ys).toList):xs=ys:=by
 have e:∀l:List Nat,(strN l).toList=l.map UInt8.ofNat:=fun l=>by
  rw[show(strN l).toList=bytesOf (l.map fun d:Nat=>(d:Int))from strOfNums_toList _]
  simp[bytesOf]
 rw[e,e] at h
 induction xs generalizing ys with
 | nil=>cases ys with
  | nil=>rfl
  | cons y ys=>cases h
 | cons x xs ih=>
  cases ys with
  | nil=>cases h
  | cons y ys=>
   simp only[List.map_cons,List.cons.injEq] at h
   have h1:x=y:=by
    have:=congrArg UInt8.toNat h.1
    have h2:=hx x (by simp);have h3:=hy y (by simp)
    simp at this
    omega
   rw[h1,ih ys (fun d hd=>hx d (by simp[hd])) (fun d hd=>hy d (by simp[hd])) h.2]
theorem addr_add0(a:Addr):a.add 0=a:=rfl
theorem slice_front(p:Option Addr)(n cap L:Nat)(h:L≤cap)(w:World):(Instr.slice 33 (.slice p n cap) none (some (.int .i64 (L:Int))) none).run prog w=.ok (.slice p L cap) w:=by
 have h1:(L:Int)≤(cap:Int):=by omega
 obtain⟨i0,hi,hz0,hz1,hz2⟩:=info_parts info_u8
 cases p<;>simp[hi,Instr.slice,Instr.sliceBounds,Instr.sliceBound,run_underlying underlying33,asIntOf,sizeOf,typeInfo,h,addr_add0]
theorem take_pfx{ys bs:List Nat}(h:ys.isPrefixOf bs=true):bs.take ys.length=ys:=by
 obtain⟨r,rfl⟩:=List.isPrefixOf_iff_prefix.1 h
 simp
theorem pfx_take{ys bs:List Nat}(h:bs.take ys.length=ys):ys.isPrefixOf bs=true:=List.isPrefixOf_iff_prefix.2 (h▸List.take_prefix _ _)
theorem pfx_len{ys bs:List Nat}(h:ys.isPrefixOf bs=true):ys.length≤bs.length:=(List.isPrefixOf_iff_prefix.1 h).length_le
theorem rde_nil(p:Option Addr)(cap:Nat)(bs:List Nat)(w:World)(h0:bs.length=0):Calls prog 60 #[.slice p bs.length cap] w (DecA bs w):=by
 have HN:Hid (DAns bs 0 0 0 E0 0 15):=.inr ⟨fun k0 a0 b0 s0 rest g1 g2 _ g4=>by
  obtain⟨c,t,h1,_⟩:=enc_head k0 a0 b0 s0 g1 g2
  rw[g4,h1] at h0
  simp at h0,rfl,rfl,rfl,rfl,rfl,rfl⟩
 rw[h0]
 go_enter func60,ntmps60
 go_wp2
 exact bodyPost_ret (v:=.tuple #[V0,.int .i64 0,.int .i64 15]) (by simp[results,results60,go_sem]) rfl ⟨0,0,0,E0,0,15,rfl,HN.out,by repeat(first|exact G.refl _|assumption|refine G.alloc ?_ _|refine G.drewNE ?_ _|refine G.drew ?_|refine G.setCell ?_ (by simp) _)⟩
theorem rde_some(p:Option Addr)(cap:Nat)(bs:List Nat)(w:World)(hx:RowB w (.slice p bs.length cap) bs)(hb:∀d∈bs,d<256)(hl:bs.length≤140737488355328)(hcap:bs.length≤cap)(h0:0<bs.length):Calls prog 60 #[.slice p bs.length cap] w (DecA bs w):=by
 have H1:Hid (∀W,G w W→Calls prog 105 #[.slice p bs.length cap] W (GBA bs W)):=fun W g=>rd_any _ bs W (hx.G g) hb hl h0
 have HX:Hid (RowB w (.slice p bs.length cap) bs):=hx
 have HB:Hid _:=hb
 have hne:((bs.length:Int)==0)=false:=beq_false_of_ne (by omega)
 clear hb hx
 go_enter func60,ntmps60
 go_wp2_with fail
 refine(H1.out _ ((G.refl w).alloc _)).mono ?_
 rintro e w1 ⟨k,a,b,s,rfl,ha,hb',hs,hp,hb1⟩
 have hc1:∀o,w1.cell? {block:=w.heap.size,off:=o}=[I 0,I 0,I 0,.string E0][o]?:=G.cells hb1 (by simp) (by simp)
 have hf1:∀o,w1.frozen? {block:=w.heap.size,off:=o}=false:=G.frozens hb1 (by simp) (by simp)
 have hz1:w.heap.size<w1.heap.size:=by have:=hb1.size;simp at this;omega
 have HG1:Hid (G w w1):=((G.refl w).alloc _).trans hb1
 have HP:Hid (GuessP bs k a b s):=hp
 clear hb1 H1 hp
 cases hok:okV k a b s
 ·have HN:Hid (DAns bs 0 0 0 E0 0 15):=dans_no HP.out (.inl hok)
  have HE:Hid _:=ren_no k a b s hs hok
  clear hok
  go_wp2_with fail
  refine(HE.out _).mono ?_
  rintro e w2 ⟨rfl,hb2⟩
  have g2:G w1 w2:=((G.refl w1).alloc _).trans hb2
  have hc2:∀o,w2.cell? {block:=w.heap.size,off:=o}=[I 0,I 0,I 0,.string E0][o]?:=G.cells g2 hc1 hz1
  have hf2:∀o,w2.frozen? {block:=w.heap.size,off:=o}=false:=G.frozens g2 hf1 hz1
  have HG:Hid (G w w2):=HG1.out.trans g2
  clear g2 hb2 HE
  go_wp2
  go_quiet (fail)
  go_wp2
  exact bodyPost_ret (v:=.tuple #[V0,.int .i64 0,.int .i64 15]) (by simp[results,results60,go_sem,hc2]) rfl ⟨0,0,0,E0,0,15,rfl,HN.out,by repeat(first|exact G.refl _|assumption|exact HG.out|refine G.alloc ?_ _|refine G.drewNE ?_ _|refine G.drew ?_|refine G.setCell ?_ (by simp) _)⟩
 ·have HE:Hid _:=ren_yes k a b s hs hok ha
  have HL:Hid _:=enc_lt k a b s hok ha hb'
  generalize hys:encV k a b s=ys at HE HL
  go_wp2_with fail
  refine(HE.out _).mono ?_
  rintro e w2 ⟨x2,rfl,hB2⟩
  have g2:G w1 w2:=((G.refl w1).alloc _).trans hB2.g
  have hc5:∀o,w2.cell? {block:=w1.heap.size,off:=o}=[I k,I a,I b,.string s][o]?:=G.cells hB2.g (by simp) (by simp)
  have hz5:w1.heap.size<w2.heap.size:=by have:=hB2.g.size;simp at this;omega
  have hc2:∀o,w2.cell? {block:=w.heap.size,off:=o}=[I 0,I 0,I 0,.string E0][o]?:=G.cells g2 hc1 hz1
  have hf2:∀o,w2.frozen? {block:=w.heap.size,off:=o}=false:=G.frozens g2 hf1 hz1
  have HG:Hid (G w w2):=HG1.out.trans g2
  have hcv:∀n,(convert 33 9 x2).run prog (w2.drewN n)=.ok (.string (strN ys)) (w2.drewN n):=fun n=>row_str (hB2.row.G ((G.refl w2).drewNE n))
  have hrow2:=hB2.row
  obtain⟨p2,c2,e2,hcap2,_⟩:=hB2.row
  subst e2
  have HR:Hid (RowB w2 (.slice p bs.length cap) bs):=HX.out.G (HG1.out.trans g2)
  clear g2 hB2 HE hrow2 hc1 hf1
  by_cases hlen:bs.length<ys.length
  ·have hleni:(bs.length:Int)<(ys.length:Int):=by omega
   have HN:Hid (DAns bs 0 0 0 E0 0 15):=dans_no HP.out (.inr (by
    rw[hys]
    cases h:ys.isPrefixOf bs
    ·rfl
    ·have:=pfx_len h;omega))
   clear hys HR hcv
   go_wp2
   go_quiet (fail)
   go_wp2
   exact bodyPost_ret (v:=.tuple #[V0,.int .i64 0,.int .i64 15]) (by simp[results,results60,go_sem,hc2]) rfl ⟨0,0,0,E0,0,15,rfl,HN.out,by repeat(first|exact G.refl _|assumption|exact HG.out|refine G.alloc ?_ _|refine G.drewNE ?_ _|refine G.drew ?_|refine G.setCell ?_ (by simp) _)⟩
  ·have hleni:¬(bs.length:Int)<(ys.length:Int):=by omega
   have hsl:=slice_front p bs.length cap ys.length (by omega)
   have hcv2:∀n,(convert 33 9 (.slice p ys.length cap)).run prog (w2.drewN n)=.ok (.string (strN (bs.take ys.length))) (w2.drewN n):=fun n=>by
    refine row_str ?_
    obtain⟨p',cap',he,h1,h2⟩:=RowB.G HR.out ((G.refl w2).drewNE n)
    cases he
    refine⟨p,cap,by rw[List.length_take];congr 1;omega,by rw[List.length_take];omega,fun i d hi=>?_⟩
    rw[List.getElem?_take] at hi
    split at hi
    ·exact h2 i d hi
    ·cases hi
   cases hpf:ys.isPrefixOf bs
   ·have HN:Hid (DAns bs 0 0 0 E0 0 15):=dans_no HP.out (.inr (by rw[hys];exact hpf))
    have hsne:((strN (bs.take ys.length)).toList==(strN ys).toList)=false:=by
     refine beq_false_of_ne fun he=>?_
     have:=strN_inj _ _ (fun d hd=>HB.out d (List.mem_of_mem_take hd)) HL.out he
     have:=pfx_take this
     rw[this] at hpf;cases hpf
    clear hys hpf HR HL
    go_wp2
    go_quiet (fail)
    go_wp2
    exact bodyPost_ret (v:=.tuple #[V0,.int .i64 0,.int .i64 15]) (by simp[results,results60,go_sem,hc2]) rfl ⟨0,0,0,E0,0,15,rfl,HN.out,by repeat(first|exact G.refl _|assumption|exact HG.out|refine G.alloc ?_ _|refine G.drewNE ?_ _|refine G.drew ?_|refine G.setCell ?_ (by simp) _)⟩
   ·have HN:Hid (DAns bs k a b s (ys.length:Int) 0):=by
     have:=dans_yes hok ha hb' HP.out (by rw[hys];exact hpf)
     rwa [hys] at this
    have htk:=take_pfx hpf
    rw[htk] at hcv2
    clear htk
    clear hys hpf HR HL
    go_wp2
    go_quiet (fail)
    go_wp2
    exact bodyPost_ret (v:=.tuple #[V k a b s,.int .i64 (ys.length:Int),.int .i64 0]) (by simp[results,results60,go_sem,hc2]) rfl ⟨k,a,b,s,_,0,rfl,HN.out,by repeat(first|exact G.refl _|assumption|exact HG.out|refine G.alloc ?_ _|refine G.drewNE ?_ _|refine G.drew ?_|refine G.setCell ?_ (by simp) _)⟩
end
section
open Go.RowKit Go.Shelf Go.PlainAid Go.Lib
theorem bs_list{w:World}{x:Value}(h:BsOk w x):∃(p:Option Addr) (cap:Nat) (bs:List Nat),x=.slice p bs.length cap∧RowB w x bs∧(∀d∈bs,d<256)∧bs.length≤140737488351232∧bs.length≤cap∧
  ((p=none∧bs=[]∧cap=0)∨∃ad,p=some ad∧∀j u,(bs.map bv)[j]?=some u→w.cell? (ad.add j)=some u):=by
 rcases h with rfl|⟨ad,len,cap,f,rfl,hlc,hb,hf⟩
 ·exact⟨none,0,[],rfl,row_nil w,by simp,by simp,Nat.le_refl _,.inl ⟨rfl,rfl,rfl⟩⟩
 ·have hl:((List.range len).map fun i=>(f i).toNat).length=len:=by simp
  have hat:∀i d,((List.range len).map fun i=>(f i).toNat)[i]?=some d→i<len∧d=(f i).toNat:=fun i d hi=>by
   obtain⟨h1,h2⟩:=List.getElem?_eq_some_iff.1 hi
   rw[hl] at h1
   exact⟨h1,by simpa using h2.symm⟩
  have hc:∀i d,((List.range len).map fun i=>(f i).toNat)[i]?=some d→w.cell? (ad.add i)=some (bv d):=fun i d hi=>by
   obtain⟨h1,rfl⟩:=hat i d hi
   obtain⟨h2,h3,h4⟩:=hf i (by omega)
   rw[h2]
   show some (Value.int .u8 (f i))=some (Value.int .u8 _)
   congr 2;omega
  refine⟨some ad,cap,_,by rw[hl],⟨some ad,cap,by rw[hl],by rw[hl];exact hlc,fun i d hi=>?_⟩,fun d hd=>?_,by rw[hl];unfold reachBytes at hb;omega,by rw[hl];exact hlc,.inr ⟨ad,rfl,fun j u hj=>?_⟩⟩
  ·obtain⟨h1,h2⟩:=hat i d hi
   have hsp:ad.spot=none:=by
    have:=World.cell?_spot (hf 0 (by omega)).1
    simpa [Addr.add] using this
   have:=hc i d hi
   obtain⟨b,o,sp⟩:=ad
   simp only at hsp
   subst hsp
   refine⟨b,o,rfl,?_⟩
   rwa [Go.WideShapes.add_plain] at this
  ·obtain⟨i,hi,rfl⟩:=List.mem_map.1 hd
   obtain⟨_,h3,h4⟩:=hf i (by have:=List.mem_range.1 hi;omega)
   omega
  ·rw[List.getElem?_map] at hj
   obtain⟨d,hd,rfl⟩:=Option.map_eq_some_iff.1 hj
   exact hc j d hd
theorem rde_any(p:Option Addr)(cap:Nat)(bs:List Nat)(w:World)(hx:RowB w (.slice p bs.length cap) bs)(hb:∀d∈bs,d<256)(hl:bs.length≤140737488355328)(hcap:bs.length≤cap):Calls prog 60 #[.slice p bs.length cap] w (DecA bs w):=by
 by_cases h0:bs.length=0
 ·exact rde_nil p cap bs w h0
 ·exact rde_some p cap bs w hx hb hl hcap (by omega)
theorem same_wide(a b:Value)(xs:List Nat)(w:World)(ha:RowB w a xs)(hb:RowB w b xs)(hx:xs.length≤140737488355328):Calls prog 10 #[a,b] w fun e w'=>e=.returned (.bool true)∧G w w':=by
 obtain⟨pa,ca,rfl,hca,ha⟩:=ha
 obtain⟨pb,cb,rfl,hcb,hb⟩:=hb
 have HA:Hid _:=ha
 have HB:Hid _:=hb
 clear ha hb
 go_enter func10,ntmps10
 go_wp2
 go_loopw [5] (fun i W=>∃k:Nat,k≤xs.length∧i=.int .i64 k∧G w W) (fun i _=>xs.length-(RowKit.intOf i).toNat)
 case atStart=>exact⟨0,Nat.zero_le _,rfl,G.refl _⟩
 case round=>
  obtain⟨k,hk,rfl,hG⟩:=hrel
  by_cases hlt:k<xs.length
  ·obtain⟨d,hd⟩:∃d,xs[k]?=some d:=⟨_,List.getElem?_eq_getElem hlt⟩
   obtain⟨g,o,hp,hcell⟩:=HA.out k d hd
   obtain⟨g',o',hp',hcell'⟩:=HB.out k d hd
   have hc1:wr.cell? ⟨g,o+k,none⟩=some (bv d):=(hG.cell (cell_ltE hcell)).trans hcell
   have hc2:wr.cell? ⟨g',o'+k,none⟩=some (bv d):=(hG.cell (cell_ltE hcell')).trans hcell'
   have hkI:(k:Int)<(xs.length:Int):=by omega
   have HG:Hid _:=hG
   clear hG hd hcell hcell'
   subst hp hp'
   go_wp2
   go_quiet (fail)
   go_wp2
   go_roundw
   case rel=>exact⟨k+1,by omega,by go_num,by repeat(first|exact HG.out|refine G.drewNE ?_ _|refine G.drew ?_)⟩
   case measure=>simp[RowKit.intOf];omega
  ·have hkI:¬(k:Int)<(xs.length:Int):=by omega
   have HG:Hid _:=hG
   clear hG
   go_wp2
   go_ret
   exact⟨rfl,HG.out⟩
theorem at_201(bs:List Nat):(bs++[201,202,203])[bs.length]?=some 201∧(bs++[201,202,203])[bs.length+1]?=some 202∧(bs++[201,202,203])[bs.length+2]?=some 203:=by
 refine⟨by simp,by simp,by simp⟩
theorem dcs_some(kind op k a b:Int)(s:ByteArray)(k' a' b':Int)(s':ByteArray)(vs:Value)(st tt:ByteArray)(n x y o1 o2:Int)(w:World)(hT:Tabs w)(ad:Addr)(cap:Nat)(bs:List Nat)(hfl:∀j u,(bs.map bv)[j]?=some u→w.cell? (ad.add j)=some u)(hx:RowB w (.slice (some ad) bs.length cap) bs)(hb:∀d∈bs,d<256)(hl:bs.length≤140737488351232)(hcap:bs.length≤cap):Calls prog 22 #[.agg #[I kind,I op,I k,I a,I b,.string s,I k',I a',I b',.string s',vs,.string st,.string tt,.slice (some ad) bs.length cap,I n,I x,I y,I o1,I o2]] w fun r w'=>r=.returned (.bool true)∧G w w':=by
 obtain⟨i0,hi,hz0,hz1,hz2⟩:=info_parts info_u8
 have HX:Hid (RowB w (.slice (some ad) bs.length cap) bs):=hx
 have HB:Hid _:=hb
 have HFL:Hid _:=hfl
 clear hx hb hfl
 have hv:=eqV
 go_enter func22,ntmps22
 go_wp2_with (at_builtin;refine wpList_append_own _ rfl _ _ 33 rfl (w.alloc (.cells #[I kind,I op,I k,I a,I b,.string s,I k',I a',I b',.string s',vs,.string st,.string tt,.slice (some ad) bs.length cap,I n,I x,I y,I o1,I o2] 35)).heap.size 5 i0 (.int .u8 0) 1 1 underlying33 hi hz0 hz1 hz2 rfl (by decide) _ _ _ rfl (World.ownsRow_nil _ _ _ _) ad bs.length cap (bs.map bv) rfl ?c0 ?c1 ?c2 ?c3 ?c4 ?c5 ?_)
 case c0=>simp
 case c1=>
  intro j u hj
  have h:=HFL.out j u hj
  exact(Below.cell ((G.refl w).alloc _) (World.block_lt_of_cell? w _ h)).trans h
 case c2=>intro u hu;obtain⟨d,_,rfl⟩:=List.mem_map.1 hu;rfl
 case c3=>unfold maxLen;omega
 case c4=>omega
 case c5=>first|exact Nat.le_refl _|simp
 intro x3 w2 hown2 hgrow _
 have hB2:Bw (w.alloc (.cells #[I kind,I op,I k,I a,I b,.string s,I k',I a',I b',.string s',vs,.string st,.string tt,.slice (some ad) bs.length cap,I n,I x,I y,I o1,I o2] 35)) w2 x3 ([]++bs):=(Bw.nil (w.alloc (.cells #[I kind,I op,I k,I a,I b,.string s,I k',I a',I b',.string s',vs,.string st,.string tt,.slice (some ad) bs.length cap,I n,I x,I y,I o1,I o2] 35)) (w.alloc (.cells #[I kind,I op,I k,I a,I b,.string s,I k',I a',I b',.string s',vs,.string st,.string tt,.slice (some ad) bs.length cap,I n,I x,I y,I o1,I o2] 35)) (G.refl _)).app bs bs.length rfl (by simpa using hown2) hgrow
 rw[List.nil_append] at hB2
 have HB2:Hid (Bw (w.alloc (.cells #[I kind,I op,I k,I a,I b,.string s,I k',I a',I b',.string s',vs,.string st,.string tt,.slice (some ad) bs.length cap,I n,I x,I y,I o1,I o2] 35)) w2 x3 bs):=hB2
 clear hown2 hgrow hB2
 have hs2:=HB2.out.g.size
 go_wp2_with (at_builtin;refine wpList_append_own _ rfl _ _ 33 rfl (w.alloc (.cells #[I kind,I op,I k,I a,I b,.string s,I k',I a',I b',.string s',vs,.string st,.string tt,.slice (some ad) bs.length cap,I n,I x,I y,I o1,I o2] 35)).heap.size 5 i0 (.int .u8 0) 1 1 underlying33 hi hz0 hz1 hz2 rfl (by decide) _ _ _ rfl (World.ownsRow.alloc HB2.out.own _) ⟨w2.heap.size,0,none⟩ 3 3 [bv 201,bv 202,bv 203] rfl ?c0 ?c1 ?c2 ?c3 ?c4 ?c5 ?_)
 case c0=>rfl
 case c1=>
  intro j u hj
  match j,hj with
  | 0,hj=>simp at hj;subst hj;simp[Addr.add]
  | 1,hj=>simp at hj;subst hj;simp[Addr.add]
  | 2,hj=>simp at hj;subst hj;simp[Addr.add]
 case c2=>intro u hu;simp at hu;rcases hu with rfl|rfl|rfl<;>rfl
 case c3=>unfold maxLen;omega
 case c4=>omega
 case c5=>simp at hs2 ⊢;omega
 intro x4 w3 hown3 hgrow3 _
 have hB3:Bw (w.alloc (.cells #[I kind,I op,I k,I a,I b,.string s,I k',I a',I b',.string s',vs,.string st,.string tt,.slice (some ad) bs.length cap,I n,I x,I y,I o1,I o2] 35)) w3 x4 (bs++[201,202,203]):=(HB2.out.keep ((G.refl _).alloc _)).app [201,202,203] 3 rfl (by simpa using hown3) hgrow3
 clear hown3 hgrow3 HB2 hs2
 rcases hB3.at with ⟨_,he⟩|⟨g,cap4,rfl,hg1,hg2,hcap4,hcells⟩
 ·simp at he
 have hlen3:(bs++[201,202,203]).length=bs.length+3:=by simp
 rw[hlen3] at hcap4⊢
 have hE3:∀o,w3.cell? {block:=w.heap.size,off:=o}=[I kind,I op,I k,I a,I b,.string s,I k',I a',I b',.string s',vs,.string st,.string tt,.slice (some ad) bs.length cap,I n,I x,I y,I o1,I o2][o]?:=G.cells hB3.g (fun o=>by simp) (by simp)
 have hzE:w.heap.size<w3.heap.size:=by have:=hB3.g.size;simp at this;omega
 have hG3:G w w3:=((G.refl w).alloc _).trans hB3.g
 have hrowb:RowB w3 (.slice (some ⟨g,0,none⟩) bs.length cap4) bs:=⟨_,cap4,rfl,by omega,fun i d hi=>⟨g,0,rfl,by
  rw[Nat.zero_add]
  exact hcells i d (by rw[List.getElem?_append_left (List.getElem?_eq_some_iff.1 hi).1];exact hi)⟩⟩
 have HD:Hid (∀W,G w3 W→Calls prog 59 #[.slice (some ⟨g,0,none⟩) bs.length cap4] W (DecA bs W)):=fun W gg=>decB_any _ bs W (hT.G (hG3.trans gg)) (hrowb.G gg) HB.out (by omega)
 have HR:Hid (∀W,G w3 W→Calls prog 60 #[.slice (some ad) bs.length cap] W (DecA bs W)):=fun W gg=>rde_any _ _ bs W (RowB.G HX.out (hG3.trans gg)) HB.out (by omega) hcap
 have HS:Hid (∀W,G w3 W→Calls prog 10 #[.slice (some ⟨g,0,none⟩) bs.length cap4,.slice (some ad) bs.length cap] W fun e w'=>e=.returned (.bool true)∧G W w'):=fun W gg=>same_wide _ _ bs W (hrowb.G gg) (RowB.G HX.out (hG3.trans gg)) (by omega)
 obtain⟨m1,m2,m3⟩:=at_201 bs
 have hm1:=hcells _ _ m1
 have hm2:=hcells _ _ m2
 have hm3:=hcells _ _ m3
 have hsl:=slice_front (some ⟨g,0,none⟩) (bs.length+3) cap4 bs.length (by omega)
 have HG3:Hid (G w w3):=hG3
 clear hcells hrowb hB3 hG3 m1 m2 m3 hg1 HX HB
 have q1:(bs.length:Int)<(bs.length:Int)+3:=by omega
 have q2:(bs.length:Int)+1<(bs.length:Int)+3:=by omega
 have q3:(bs.length:Int)+2<(bs.length:Int)+3:=by omega
 go_wp2_with fail
 refine(HD.out _ (G.refl _)).mono ?_
 rintro e w4 ⟨k1,a1,b1,s1,n1,c1,rfl,hda,hb4⟩
 have hE4:∀o,w4.cell? {block:=w.heap.size,off:=o}=[I kind,I op,I k,I a,I b,.string s,I k',I a',I b',.string s',vs,.string st,.string tt,.slice (some ad) bs.length cap,I n,I x,I y,I o1,I o2][o]?:=G.cells hb4 hE3 hzE
 have HG4:Hid (G w3 w4):=hb4
 have hz4:w3.heap.size≤w4.heap.size:=hb4.size
 have hzE4:w.heap.size<w4.heap.size:=by omega
 have HDA:Hid _:=hda
 clear hb4 HD hE3 hda
 go_wp2_with fail
 refine(HR.out _ (HG4.out.alloc _)).mono ?_
 rintro e w5 ⟨k2,a2,b2,s2,n2,c2,rfl,hda2,hb5⟩
 obtain⟨rfl,rfl,rfl,rfl,rfl,rfl⟩:=DAns.one HDA.out hda2
 have hc5:∀o,w5.cell? {block:=w4.heap.size,off:=o}=[I k1,I a1,I b1,.string s1][o]?:=G.cells hb5 (fun o=>by simp) (by simp)
 have hz5:w4.heap.size<w5.heap.size:=by have:=hb5.size;simp at this;omega
 have hzE5:w.heap.size<w5.heap.size:=by omega
 have HG5:Hid (G w3 w5):=(HG4.out.alloc _).trans hb5
 have hE5:∀o,w5.cell? {block:=w.heap.size,off:=o}=[I kind,I op,I k,I a,I b,.string s,I k',I a',I b',.string s',vs,.string st,.string tt,.slice (some ad) bs.length cap,I n,I x,I y,I o1,I o2][o]?:=G.cells (((G.refl w4).alloc _).trans hb5) hE4 (by omega)
 clear hb5 HR hE4 hda2 HDA
 go_wp2_with fail
 refine(HS.out _ (HG5.out.alloc _)).mono ?_
 rintro e w6 ⟨rfl,hb6⟩
 have HG6:Hid (G w3 w6):=(HG5.out.alloc _).trans hb6
 have hm1':w6.cell? ⟨g,bs.length,none⟩=some (bv 201):=(HG6.out.cell hg2).trans hm1
 have hm2':w6.cell? ⟨g,bs.length+1,none⟩=some (bv 202):=(HG6.out.cell hg2).trans hm2
 have hm3':w6.cell? ⟨g,bs.length+2,none⟩=some (bv 203):=(HG6.out.cell hg2).trans hm3
 have HG7:Hid (G w w6):=HG3.out.trans HG6.out
 clear hb6 HS hm1 hm2 hm3 hE5 hc5 HG6 HG5 HG4 HG3
 go_wp2
 go_ret
 exact⟨by simp,by repeat(first|exact G.refl _|assumption|exact HG7.out|refine G.alloc ?_ _|refine G.drewNE ?_ _|refine G.drew ?_|refine G.setCell ?_ (by simp) _)⟩
end
end Go.Proofs.YthmdjhfbhbheeaaGreatDoor
