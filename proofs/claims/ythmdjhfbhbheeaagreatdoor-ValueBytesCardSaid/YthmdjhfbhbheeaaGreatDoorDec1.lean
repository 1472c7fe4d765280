import Derived.Deep.Draws
import Derived.Test.YthmdjhfbhbheeaaGreatDoorEnc3
namespace Go.Proofs.YthmdjhfbhbheeaaGreatDoor
open Go.Proofs.Tryz
set_option maxHeartbeats 2000000
set_option maxRecDepth 100000
section
open Go.RowKit Go.Shelf Go.PlainAid Go.Lib
theorem zBF(n:Int)(h1:-9223372036854775808≤n)(h2:n≤9223372036854775807):(encW n).length≤9:=by
 unfold encW lowB;have:=zBS 8 n.natAbs (by omega)
 simp;omega
def strB(s:ByteArray)(m:Nat):List Nat:=encS ((List.range m).map fun k=>(bt s k).toNat)
theorem zBL(s:ByteArray)(m:Nat)(h:bt s m=0):strB s (m+1)=strB s m++[0,255]:=by
 unfold strB encS;rw[List.range_succ,List.map_append,List.flatMap_append];simp[h]
theorem zBk(s:ByteArray)(m:Nat)(h:bt s m≠0):strB s (m+1)=strB s m++[(bt s m).toNat]:=by
 unfold strB encS;have:=bt_nonneg s m;rw[List.range_succ,List.map_append,List.flatMap_append]
 have h2:(bt s m).toNat≠0:=by omega
 simp[h2]
theorem zIF(s:ByteArray)(m:Nat):(strB s m).length≤2*m:=by
 induction m with
 | zero=>simp[strB,encS]
 | succ m ih=>
  by_cases h:bt s m=0
  ·rw[zBL s m h];simp;omega
  ·rw[zBk s m h];simp;omega
def encV(k a b:Int)(s:ByteArray):List Nat:=
 if k=0 then [80]
 else if k=1 then [48,a.toNat]
 else if k=2 then encW a++[0]
 else if k=3 then(encW a++[1])++encW b
 else if k=4 then(32::strB s s.size)++[0,0]
 else if k=5 then 16::encW a
 else 17::encW a
def zUB(x:Value)(ys:List Nat):Prop:=
 ∃(t f:Nat) (v:Value),x=.iface t v∧(∀w,(method 351 t v "trellis/value.code").run prog w=.ok (f,v) w)∧(∀w,(callFunc f #[v]).run prog w=.ok (.enter f #[v]) w)∧
  ∀w,Calls prog f #[v] w fun e w'=>∃x',e=.returned x'∧Bw w w' x' (ys)
theorem zNO(w:World):Calls prog 231 #[.agg #[]] w fun e w'=>∃x',e=.returned x'∧Bw w w' x' ([80]):=by
 go_enter func231,ntmps231
 go_wp2
 go_ret;exact⟨_,rfl,by simpa using Bw.fresh ((G.refl w).alloc _) [80] #[.int .u8 80] rfl (by decide)⟩
theorem zNN(w:World):Calls prog 236 #[.bool true] w fun e w'=>∃x',e=.returned x'∧Bw w w' x' ([48,1]):=by
 have hfd:∀w,(Instr.field 31 (V 1 1 0 E0) 1).run prog w=.ok (.int .i64 1) w:=fun w=>by kernel_rfl
 go_enter func236,ntmps236
 go_wp2_with fail
 refine(zGs _).mono ?_;rintro e w1 ⟨rfl,hb1⟩
 go_wp2
 go_ret;exact⟨_,rfl,by simpa using Bw.fresh (hb1) [48,1] #[.int .u8 48,.int .u8 1] rfl (by decide)⟩
theorem zK5(w:World):Calls prog 236 #[.bool false] w fun e w'=>∃x',e=.returned x'∧Bw w w' x' ([48,0]):=by
 have hfd:∀w,(Instr.field 31 (V 1 0 0 E0) 1).run prog w=.ok (.int .i64 0) w:=fun w=>by kernel_rfl
 go_enter func236,ntmps236
 go_wp2_with fail
 refine(zGt _).mono ?_;rintro e w1 ⟨rfl,hb1⟩
 go_wp2
 go_ret;exact⟨_,rfl,by simpa using Bw.fresh (hb1) [48,0] #[.int .u8 48,.int .u8 0] rfl (by decide)⟩
theorem zK4(n:Int)(h1:-9223372036854775808≤n)(h2:n≤9223372036854775807)(w:World):Calls prog 243 #[.int .i64 n] w fun e w'=>∃x',e=.returned x'∧Bw w w' x' (encW n++[0]):=by
 obtain⟨i0,hi,hz0,hz1,hz2⟩:=info_parts zAW;have hl:=zBF n h1 h2;have H1:Hid _:=zHa n h1 h2 w w (.slice none 0 0) [] (Bw.nil w w (G.refl w)) (by simp);clear h1 h2
 go_enter func243,ntmps243
 go_wp2_with fail
 refine Calls.mono H1.out ?_;rintro e w1 ⟨x1,rfl,hB1⟩;rw[List.nil_append] at hB1;have hs:=hB1.g.size;have HB1:Hid _:=hB1;clear hB1 H1
 go_wp2_with (at_builtin;refine wpList_append_own _ rfl _ _ 33 rfl w.heap.size 5 i0 (.int .u8 0) 1 1 underlying33 hi hz0 hz1 hz2 rfl (by decide) _ _ _ rfl (World.ownsRow.alloc HB1.out.own _) ⟨w1.heap.size,0,none⟩ 1 1 [bv 0] rfl ?c0 ?c1 ?c2 ?c3 ?c4 ?c5 ?_)
 case c0=>rfl
 case c1=>
  intro j u hj
  match j,hj with
  | 0,hj=>simp at hj;subst hj;simp[Addr.add]
 case c2=>first|rfl|(intro u hu;simp at hu;subst hu;rfl)
 case c3=>unfold maxLen;omega
 case c4=>omega
 case c5=>simp;omega
 intro x2 w2 hown hgrow _;have HB2:Hid (Bw w w2 x2 (encW n++[0])):=(HB1.out.keep ((G.refl _).alloc _)).app [0] 1 rfl hown hgrow;clear hown hgrow HB1
 go_wp2
 go_ret;exact⟨_,rfl,HB2.out⟩
theorem zNP(n:Int)(h1:-9223372036854775808≤n)(h2:n≤9223372036854775807)(w:World):Calls prog 264 #[.int .i64 n] w fun e w'=>∃x',e=.returned x'∧Bw w w' x' (16::encW n):=by
 have hB0:Bw w (w.alloc (.cells #[.int .u8 16] 5)) (.slice (some ⟨w.heap.size,0,none⟩) 1 1) [16]:=by simpa using Bw.fresh (G.refl w) [16] #[.int .u8 16] rfl (by decide)
 have HB:Hid _:=hB0;have H1:Hid _:=zHa n h1 h2 w _ _ _ HB.out (by simp);clear h1 h2 HB hB0
 go_enter func264,ntmps264
 go_wp2_with fail
 refine Calls.mono H1.out ?_;rintro e w1 ⟨x1,rfl,hB1⟩;rw[List.singleton_append] at hB1;have HB1:Hid _:=hB1;clear hB1 H1
 go_wp2
 go_ret;exact⟨_,rfl,HB1.out⟩
theorem zNQ(n:Int)(h1:-9223372036854775808≤n)(h2:n≤9223372036854775807)(w:World):Calls prog 269 #[.int .i64 n] w fun e w'=>∃x',e=.returned x'∧Bw w w' x' (17::encW n):=by
 have hB0:Bw w (w.alloc (.cells #[.int .u8 17] 5)) (.slice (some ⟨w.heap.size,0,none⟩) 1 1) [17]:=by simpa using Bw.fresh (G.refl w) [17] #[.int .u8 17] rfl (by decide)
 have HB:Hid _:=hB0;have H1:Hid _:=zHa n h1 h2 w _ _ _ HB.out (by simp);clear h1 h2 HB hB0
 go_enter func269,ntmps269
 go_wp2_with fail
 refine Calls.mono H1.out ?_;rintro e w1 ⟨x1,rfl,hB1⟩;rw[List.singleton_append] at hB1;have HB1:Hid _:=hB1;clear hB1 H1
 go_wp2
 go_ret;exact⟨_,rfl,HB1.out⟩
theorem zQe(a b:Int)(h1:-33554432≤a)(h2:a≤33554432)(h3:-33554432≤b)(h4:b≤33554432)(w:World):Calls prog 251 #[.complex .f64 (fl a) (fl b)] w fun e w'=>∃x',e=.returned x'∧Bw w w' x' ((encW a++[1])++encW b):=by
 obtain⟨i0,hi,hz0,hz1,hz2⟩:=info_parts zAW;have f1:=Fl.ofInt a (by omega);have f2:=Fl.ofInt b (by omega);have HP:Hid _:=zEb (fl a) (fl b) a b f1 f2 (by omega) (by omega);have hl:=zBF a (by omega) (by omega);have H1:Hid _:=zHa a (by omega) (by omega) w w (.slice none 0 0) [] (Bw.nil w w (G.refl w)) (by simp);have H2:Hid (∀w1 x1 xs,Bw w w1 x1 xs→xs.length≤1000→_):=fun w1 x1 xs=>zHa b (by omega) (by omega) w w1 x1 xs;clear f1 f2 h1 h2 h3 h4
 go_enter func251,ntmps251
 go_wp2_with fail
 refine(HP.out _).mono ?_;rintro e w1 ⟨rfl,hw⟩;rw[hw];clear hw
 go_wp2_with fail
 refine Calls.mono H1.out ?_;rintro e w1 ⟨x1,rfl,hB1⟩;rw[List.nil_append] at hB1;have hs:=hB1.g.size;have HB1:Hid _:=hB1;clear hB1 H1 HP
 go_wp2_with (at_builtin;refine wpList_append_own _ rfl _ _ 33 rfl w.heap.size 5 i0 (.int .u8 0) 1 1 underlying33 hi hz0 hz1 hz2 rfl (by decide) _ _ _ rfl (World.ownsRow.alloc HB1.out.own _) ⟨w1.heap.size,0,none⟩ 1 1 [bv 1] rfl ?c0 ?c1 ?c2 ?c3 ?c4 ?c5 ?_)
 case c0=>rfl
 case c1=>
  intro j u hj
  match j,hj with
  | 0,hj=>simp at hj;subst hj;simp[Addr.add]
 case c2=>first|rfl|(intro u hu;simp at hu;subst hu;rfl)
 case c3=>unfold maxLen;omega
 case c4=>omega
 case c5=>simp;omega
 intro x2 w2 hown hgrow _;have HB2:Hid (Bw _ w2 x2 (encW a++[1])):=(HB1.out.keep ((G.refl _).alloc _)).app [1] 1 rfl hown hgrow;clear hown hgrow HB1
 go_wp2_with fail
 refine(H2.out _ _ _ HB2.out (by simp;omega)).mono ?_;rintro e w3 ⟨x3,rfl,hB3⟩;have HB3:Hid _:=hB3;clear hB3 H2 HB2
 go_wp2
 go_ret;exact⟨_,rfl,HB3.out⟩
theorem zQd(s:ByteArray)(hs:s.size≤32)(w:World):Calls prog 256 #[.string s] w fun e w'=>∃x',e=.returned x'∧Bw w w' x' ((32::strB s s.size)++[0,0]):=by
 obtain⟨i0,hi,hz0,hz1,hz2⟩:=info_parts zAW;have hb:=get_bt s
 have hsi:(s.size:Int)≤32:=by omega
 go_enter func256,ntmps256
 go_wp2
 go_loopw [3,4,8] (fun x _ i W=>∃m:Nat,m≤s.size∧i=.int .i64 m∧Bw w W x (32::strB s m)) (fun _ _ i _=>s.size-(RowKit.intOf i).toNat)
 case atStart=>exact⟨0,Nat.zero_le _,rfl,by have:=Bw.fresh (G.refl w) [32] #[.int .u8 32] rfl (by decide);simpa [strB,encS] using this⟩
 case round=>
  obtain⟨m,hm,rfl,hB⟩:=hrel;have hsz:=hB.g.size;have HB:Hid _:=hB;clear hB;have hlen:=zIF s m
  by_cases hlt:m<s.size
  ·have hI:(m:Int)<(s.size:Int):=by omega
   have x0:=bt_nonneg s m;have x1:=bt_le s m
   by_cases hz:bt s m=0
   ·have E1:Hid _:=zBL s m hz
    go_wp2_with (at_builtin;refine wpList_append_own _ rfl _ _ 33 rfl w.heap.size 5 i0 (.int .u8 0) 1 1 underlying33 hi hz0 hz1 hz2 rfl (by decide) _ _ _ rfl (World.ownsRow.alloc HB.out.own _) ⟨wr.heap.size,0,none⟩ 1 1 [bv 0] rfl ?c0 ?c1 ?c2 ?c3 ?c4 ?c5 ?_)
    case c0=>rfl
    case c1=>
     intro j u hj
     match j,hj with
     | 0,hj=>simp at hj;subst hj;simp[Addr.add]
    case c2=>first|rfl|(intro u hu;simp at hu;subst hu;rfl)
    case c3=>unfold maxLen;simp;omega
    case c4=>simp;omega
    case c5=>simp;omega
    intro x2 w2 hown hgrow _;have HB2:Hid (Bw w w2 x2 ((32::strB s m)++[0])):=(HB.out.keep ((G.refl _).alloc _)).app [0] 1 rfl (by simpa using hown) hgrow;have hs2:=HB2.out.g.size;clear hown hgrow HB
    go_wp2_with (at_builtin;refine wpList_append_own _ rfl _ _ 33 rfl w.heap.size 5 i0 (.int .u8 0) 1 1 underlying33 hi hz0 hz1 hz2 rfl (by decide) _ _ _ rfl (World.ownsRow.alloc HB2.out.own _) ⟨w2.heap.size,0,none⟩ 1 1 [bv 255] rfl ?d0 ?d1 ?d2 ?d3 ?d4 ?d5 ?_)
    case d0=>rfl
    case d1=>
     intro j u hj
     match j,hj with
     | 0,hj=>simp at hj;subst hj;simp[Addr.add]
    case d2=>first|rfl|(intro u hu;simp at hu;subst hu;rfl)
    case d3=>unfold maxLen;simp;omega
    case d4=>simp;omega
    case d5=>simp;omega
    intro x3 w3 hown hgrow _;have HB3:Hid (Bw w w3 x3 (((32::strB s m)++[0])++[255])):=(HB2.out.keep ((G.refl _).alloc _)).app [255] 1 rfl (by simpa using hown) hgrow;clear hown hgrow HB2
    go_wp2
    go_roundw
    case rel=>exact⟨m+1,by omega,by go_num,by have:=HB3.out;rw[E1.out];simpa using this⟩
    case measure=>simp[RowKit.intOf];omega
   ·have E1:Hid _:=zBk s m hz
    have hz':(bt s m==0)=false:=beq_false_of_ne hz
    have eb:Value.int .u8 (bt s m)=bv (bt s m).toNat:=by show Value.int .u8 _=Value.int .u8 _;congr 1;omega
    have EB:Hid _:=eb;clear eb
    go_wp2_with (at_builtin;refine wpList_append_own _ rfl _ _ 33 rfl w.heap.size 5 i0 (.int .u8 0) 1 1 underlying33 hi hz0 hz1 hz2 rfl (by decide) _ _ _ rfl (World.ownsRow.alloc HB.out.own _) ⟨wr.heap.size,0,none⟩ 1 1 [.int .u8 (bt s m)] rfl ?c0 ?c1 ?c2 ?c3 ?c4 ?c5 ?_)
    case c0=>rfl
    case c1=>
     intro j u hj
     match j,hj with
     | 0,hj=>simp at hj;subst hj;simp[Addr.add]
    case c2=>first|rfl|(intro u hu;simp at hu;subst hu;rfl)
    case c3=>unfold maxLen;simp;omega
    case c4=>simp;omega
    case c5=>simp;omega
    intro x2 w2 hown hgrow _;have HB2:Hid (Bw w w2 x2 ((32::strB s m)++[(bt s m).toNat])):=(HB.out.keep ((G.refl _).alloc _)).app [(bt s m).toNat] 1 rfl (by rw[EB.out] at hown;simpa using hown) hgrow;clear hown hgrow HB
    go_wp2
    go_roundw
    case rel=>exact⟨m+1,by omega,by go_num,by have:=HB2.out;rw[E1.out];simpa using this⟩
    case measure=>simp[RowKit.intOf];omega
  ·have e:m=s.size:=by omega
   subst e
   have hI:¬(s.size:Int)<(s.size:Int):=by omega
   go_wp2_with (at_builtin;refine wpList_append_own _ rfl _ _ 33 rfl w.heap.size 5 i0 (.int .u8 0) 1 1 underlying33 hi hz0 hz1 hz2 rfl (by decide) _ _ _ rfl (World.ownsRow.alloc HB.out.own _) ⟨wr.heap.size,0,none⟩ 2 2 [bv 0,bv 0] rfl ?c0 ?c1 ?c2 ?c3 ?c4 ?c5 ?_)
   case c1=>
    intro j u hj
    match j,hj with
    | 0,hj=>simp at hj;subst hj;simp
    | 1,hj=>simp at hj;subst hj;simp
   case c2=>first|rfl|(intro u hu;simp at hu;rcases hu with rfl|rfl<;>rfl)
   case c3=>unfold maxLen;(first|omega|(simp;omega))
   case c4=>(first|omega|(simp;omega))
   case c5=>(first|omega|(simp;omega))
   intro x2 w2 hown hgrow _;have HB2:Hid (Bw w w2 x2 ((32::strB s s.size)++[0,0])):=(HB.out.keep ((G.refl _).alloc _)).app [0,0] 2 rfl (by simpa using hown) hgrow;clear hown hgrow HB
   go_wp2
   go_ret;exact⟨_,rfl,by simpa using HB2.out⟩
end
section
open Go.RowKit Go.Shelf Go.PlainAid Go.Lib
theorem zUr(m:Nat)(h:0<m)(hm:m<9223372036854775808)(w:World):Calls prog 74 #[.int .i64 (m:Int)] w fun e w'=>e=.returned (.int .i64 (-(m:Int)))∧w'=w:=by
 have h1:(0:Int)<m:=by omega
 go_enter func74,ntmps74
 go_wp2
 go_ret;exact⟨rfl,rfl⟩
theorem zUs(n:Int)(h:¬0<n)(w:World):Calls prog 74 #[.int .i64 n] w fun e w'=>e=.returned (.int .i64 n)∧w'=w:=by
 go_enter func74,ntmps74
 go_wp2
 go_ret;exact⟨rfl,rfl⟩
theorem zUt(n:Int)(h2:n≤9223372036854775807)(w:World):Calls prog 74 #[.int .i64 n] w fun e w'=>e=.returned (.int .i64 (-(n.natAbs:Int)))∧w'=w:=by
 by_cases h:0<n
 ·have:=zUr n.natAbs (by omega) (by omega) w
  rw[show((n.natAbs:Nat):Int)=n by omega] at this⊢;exact this
 ·have:=zUs n h w
  rw[show -((n.natAbs:Nat):Int)=n by omega];exact this
theorem zAj{w:World}{b o:Nat}{u:Value}(h:w.cell? ⟨b,o,none⟩=some u):b<w.heap.size:=Nat.lt_of_not_le fun hle=>by
 have:w.heap[b]?=none:=Array.getElem?_eq_none hle;simp[World.cell?,this] at h
def zBn(n:Int)(x:Nat):Nat:=if n<0 then 255-x else x
theorem zMM(n:Int):lowB n=(digs n.natAbs).map (zBn n):=rfl
theorem zFS(n:Int)(h1:-9223372036854775808≤n)(h2:n≤9223372036854775807)(w:World):Calls prog 28 #[.int .i64 n] w fun e w'=>∃x',e=.returned x'∧Bw w w' x' (encW n):=by
 obtain⟨i0,hi,hz0,hz1,hz2⟩:=info_parts zAW;have H1:Hid _:=zUt n h2
 have hlb:(lowB n).length≤8:=by unfold lowB;have:=zBS 8 n.natAbs (by omega);simpa using this
 go_enter func28,ntmps28
 go_wp2_with fail
 refine(H1.out _).mono ?_;rintro e w1 ⟨rfl,hw⟩;rw[hw];clear hw
 go_wp2
 go_loopw [3,4,5] (fun m x _ W=>∃(q:Nat) (done:List Nat),m=.int .i64 (-(q:Int))∧q≤9223372036854775808∧done++(digs q).map (zBn n)=lowB n∧Bw w W x done) (fun m _ _ _=>(RowKit.intOf m).natAbs)
 case atStart=>exact⟨n.natAbs,[],rfl,by omega,rfl,Bw.nil w w (G.refl w)⟩
 case round=>
  obtain⟨q,done,rfl,hq,hd,hB⟩:=hrel;have hsz:=hB.g.size;have HB:Hid _:=hB;clear hB
  by_cases h0:q=0
  ·have hq0:-(q:Int)=0:=by omega
   rw[h0,zBi,List.map_nil,List.append_nil] at hd;rw[hq0];clear hq0 h0 hq;subst hd;obtain⟨L,hLn⟩:∃L,(lowB n).length=L:=⟨_,rfl⟩
   have hx:∃(p:Option Addr) (cap:Nat),u4=.slice p L cap∧L≤cap∧∀i d,(lowB n)[i]?=some d→∃g,p=some ⟨g,0,none⟩∧wr.cell? ⟨g,i,none⟩=some (bv d):=by
    rcases HB.out.at with ⟨rfl,he⟩|⟨g,cap,rfl,_,_,hcap,hc⟩
    ·rw[he] at hLn
     exact⟨none,0,by rw[←hLn];rfl,by rw[←hLn];simp,fun i d hi=>by rw[he] at hi;simp at hi⟩
    ·exact⟨_,cap,by rw[hLn],by omega,fun i d hi=>⟨g,rfl,hc i d hi⟩⟩
   have HG:Hid (G w wr):=HB.out.g;clear HB;obtain⟨p,cap,rfl,hcap,hc⟩:=hx;have hC:Hid _:=hc;clear hc
   have hL8:L≤8:=by omega
   generalize hw9:wr=w9 at *;clear hw9
   by_cases hn:n<0
   ·skip
    have hE:encW n=(64-L)::(lowB n).reverse:=by
     unfold encW;rw[if_pos hn,hLn]
    have eb:Value.int .u8 (64-(L:Int))=bv (64-L):=by show Value.int .u8 _=Value.int .u8 _;congr 1;omega
    have EB:Hid _:=eb;have HE:Hid _:=hE;clear eb hE
    go_wp2
    go_loopw [6,7] (fun y i W=>∃k:Nat,k≤L∧i=.int .i64 ((L:Int)-1-k)∧Bw w9 W y ((64-L)::(lowB n).reverse.take k)) (fun _ i _=>(RowKit.intOf i+1).toNat)
    case atStart=>
     refine⟨0,by omega,by simp,?_⟩;have:=Bw.fresh ((G.refl w9).alloc (.cells #[.int .u8 (64+(L:Int))] 5)) [64-L] #[.int .u8 (64-(L:Int))] (by rw[EB.out];rfl) (by unfold maxLen;simp)
     simpa using this
    case round=>
     obtain⟨k,hk,rfl,hB2⟩:=hrel;have hs2:=hB2.g.size
     by_cases hlt:k<L
     ·obtain⟨j,hj⟩:∃j:Nat,(L:Int)-1-k=j:=⟨L-1-k,by omega⟩
      have hjL:(j:Int)<L:=by omega
      obtain⟨d,hd⟩:∃d,(lowB n)[j]?=some d:=⟨_,List.getElem?_eq_getElem (by omega)⟩;obtain⟨g,hp,hcell⟩:=hC.out j d hd;have hc2:wr.cell? ⟨g,j,none⟩=some (bv d):=(hB2.g.cell (zAj hcell)).trans hcell
      have HT:Hid ((lowB n).reverse.take (k+1)=(lowB n).reverse.take k++[d]):=by
       have:(lowB n).reverse[k]?=some d:=by
        rw[List.getElem?_reverse (by omega),hLn,show L-1-k=j by omega];exact hd
       rw[List.take_add_one,this];rfl
      have htl:((lowB n).reverse.take k).length≤8:=by simp;omega
      have HB2:Hid _:=hB2;clear hB2 hd hcell;subst hp;rw[hj]
      go_wp2_with (at_builtin;refine wpList_append_own _ rfl _ _ 33 rfl w9.heap.size 5 i0 (.int .u8 0) 1 1 underlying33 hi hz0 hz1 hz2 rfl (by decide) _ _ _ rfl (World.ownsRow.alloc HB2.out.own _) ⟨wr.heap.size,0,none⟩ 1 1 [bv d] rfl ?c0 ?c1 ?c2 ?c3 ?c4 ?c5 ?_)
      case c0=>rfl
      case c1=>
       intro j u hj
       match j,hj with
       | 0,hj=>simp at hj;subst hj;simp[Addr.add]
      case c2=>first|rfl|(intro u hu;simp at hu;subst hu;rfl)
      case c3=>unfold maxLen;(first|omega|(simp at htl ⊢;omega))
      case c4=>(first|omega|(simp at htl ⊢;omega))
      case c5=>(first|omega|(simp;omega))
      intro x2 w2 hown hgrow _;have HB3:Hid (Bw w9 w2 x2 (((64-L)::(lowB n).reverse.take k)++[d])):=(HB2.out.keep ((G.refl _).alloc _)).app [d] 1 rfl (by simpa [show min k (lowB n).length=k by omega] using hown) hgrow;clear hown hgrow HB2
      go_wp2
      go_roundw
      case rel=>exact⟨k+1,by omega,by congr 1;omega,by have:=HB3.out;rw[HT.out];simpa using this⟩
      case measure=>simp[RowKit.intOf]
     ·have e:k=L:=by omega
      subst e
      have e1:(k:Int)-1-k = -1:=by omega
      rw[e1]
      have HB2:Hid (Bw w wr u6 (encW n)):=by
       rw[HE.out];have:=hB2.down HG.out
       rwa [List.take_of_length_le (by simp;omega)] at this
      clear hB2
      go_wp2
      go_ret;exact⟨_,rfl,HB2.out⟩
   ·skip
    have hE:encW n=(64+L)::(lowB n).reverse:=by
     unfold encW;rw[if_neg hn,hLn]
    have eb:Value.int .u8 (64+(L:Int))=bv (64+L):=by show Value.int .u8 _=Value.int .u8 _;congr 1
    have EB:Hid _:=eb;have HE:Hid _:=hE;clear eb hE
    go_wp2
    go_loopw [6,7] (fun y i W=>∃k:Nat,k≤L∧i=.int .i64 ((L:Int)-1-k)∧Bw w9 W y ((64+L)::(lowB n).reverse.take k)) (fun _ i _=>(RowKit.intOf i+1).toNat)
    case atStart=>
     refine⟨0,by omega,by simp,?_⟩;have:=Bw.fresh (G.refl w9) [64+L] #[.int .u8 (64+(L:Int))] (by rw[EB.out];rfl) (by unfold maxLen;simp)
     simpa using this
    case round=>
     obtain⟨k,hk,rfl,hB2⟩:=hrel;have hs2:=hB2.g.size
     by_cases hlt:k<L
     ·obtain⟨j,hj⟩:∃j:Nat,(L:Int)-1-k=j:=⟨L-1-k,by omega⟩
      have hjL:(j:Int)<L:=by omega
      obtain⟨d,hd⟩:∃d,(lowB n)[j]?=some d:=⟨_,List.getElem?_eq_getElem (by omega)⟩;obtain⟨g,hp,hcell⟩:=hC.out j d hd;have hc2:wr.cell? ⟨g,j,none⟩=some (bv d):=(hB2.g.cell (zAj hcell)).trans hcell
      have HT:Hid ((lowB n).reverse.take (k+1)=(lowB n).reverse.take k++[d]):=by
       have:(lowB n).reverse[k]?=some d:=by
        rw[List.getElem?_reverse (by omega),hLn,show L-1-k=j by omega];exact hd
       rw[List.take_add_one,this];rfl
      have htl:((lowB n).reverse.take k).length≤8:=by simp;omega
      have HB2:Hid _:=hB2;clear hB2 hd hcell;subst hp;rw[hj]
      go_wp2_with (at_builtin;refine wpList_append_own _ rfl _ _ 33 rfl w9.heap.size 5 i0 (.int .u8 0) 1 1 underlying33 hi hz0 hz1 hz2 rfl (by decide) _ _ _ rfl (World.ownsRow.alloc HB2.out.own _) ⟨wr.heap.size,0,none⟩ 1 1 [bv d] rfl ?c0 ?c1 ?c2 ?c3 ?c4 ?c5 ?_)
      case c0=>rfl
      case c1=>
       intro j u hj
       match j,hj with
       | 0,hj=>simp at hj;subst hj;simp[Addr.add]
      case c2=>first|rfl|(intro u hu;simp at hu;subst hu;rfl)
      case c3=>unfold maxLen;(first|omega|(simp at htl ⊢;omega))
      case c4=>(first|omega|(simp at htl ⊢;omega))
      case c5=>(first|omega|(simp;omega))
      intro x2 w2 hown hgrow _;have HB3:Hid (Bw w9 w2 x2 (((64+L)::(lowB n).reverse.take k)++[d])):=(HB2.out.keep ((G.refl _).alloc _)).app [d] 1 rfl (by simpa [show min k (lowB n).length=k by omega] using hown) hgrow;clear hown hgrow HB2
      go_wp2
      go_roundw
      case rel=>exact⟨k+1,by omega,by congr 1;omega,by have:=HB3.out;rw[HT.out];simpa using this⟩
      case measure=>simp[RowKit.intOf]
     ·have e:k=L:=by omega
      subst e
      have e1:(k:Int)-1-k = -1:=by omega
      rw[e1]
      have HB2:Hid (Bw w wr u6 (encW n)):=by
       rw[HE.out];have:=hB2.down HG.out
       rwa [List.take_of_length_le (by simp;omega)] at this
      clear hB2
      go_wp2
      go_ret;exact⟨_,rfl,HB2.out⟩
  ·have hne:(-(q:Int) != 0)=true:=by simp;omega
   rw[zCj h0,List.map_cons] at hd
   have hdl:done.length≤8:=by have:=congrArg List.length hd;simp at this;omega
   by_cases hn:n<0
   ·have eb:Value.int .u8 (255-(q:Int)%256)=bv (zBn n (q%256)):=by
     unfold zBn;rw[if_pos hn];show Value.int .u8 _=Value.int .u8 _
     congr 1;omega
    have EB:Hid _:=eb
    have HD:Hid ((done++[zBn n (q%256)])++(digs (q/256)).map (zBn n)=lowB n):=by rw[List.append_assoc];exact hd
    clear hd eb
    go_wp2_with (at_builtin;refine wpList_append_own _ rfl _ _ 33 rfl w.heap.size 5 i0 (.int .u8 0) 1 1 underlying33 hi hz0 hz1 hz2 rfl (by decide) _ _ _ rfl (World.ownsRow.alloc HB.out.own _) ⟨wr.heap.size,0,none⟩ 1 1 [.int .u8 (255-(q:Int)%256)] rfl ?c0 ?c1 ?c2 ?c3 ?c4 ?c5 ?_)
    case c0=>rfl
    case c1=>
     intro j u hj
     match j,hj with
     | 0,hj=>simp at hj;subst hj;simp[Addr.add]
    case c2=>first|rfl|(intro u hu;simp at hu;subst hu;rfl)
    case c3=>unfold maxLen;(first|omega|(simp;omega))
    case c4=>(first|omega|(simp;omega))
    case c5=>(first|omega|(simp;omega))
    intro x2 w2 hown hgrow _;have HB2:Hid (Bw w w2 x2 (done++[zBn n (q%256)])):=(HB.out.keep ((G.refl _).alloc _)).app [zBn n (q%256)] 1 rfl (by rw[EB.out] at hown;exact hown) hgrow;clear hown hgrow HB
    go_wp2
    go_roundw
    case rel=>exact⟨q/256,_,by simp,by omega,HD.out,HB2.out⟩
    case measure=>simp[RowKit.intOf];omega
   ·have eb:Value.int .u8 ((q:Int)%256)=bv (zBn n (q%256)):=by
     unfold zBn;rw[if_neg hn];show Value.int .u8 _=Value.int .u8 _
     congr 1
    have EB:Hid _:=eb
    have HD:Hid ((done++[zBn n (q%256)])++(digs (q/256)).map (zBn n)=lowB n):=by rw[List.append_assoc];exact hd
    clear hd eb
    go_wp2_with (at_builtin;refine wpList_append_own _ rfl _ _ 33 rfl w.heap.size 5 i0 (.int .u8 0) 1 1 underlying33 hi hz0 hz1 hz2 rfl (by decide) _ _ _ rfl (World.ownsRow.alloc HB.out.own _) ⟨wr.heap.size,0,none⟩ 1 1 [.int .u8 ((q:Int)%256)] rfl ?c0 ?c1 ?c2 ?c3 ?c4 ?c5 ?_)
    case c2=>first|rfl|(intro u hu;simp at hu;subst hu;rfl)
    case c3=>unfold maxLen;(first|omega|(simp;omega))
    case c4=>(first|omega|(simp;omega))
    case c5=>(first|omega|(simp;omega))
    intro x2 w2 hown hgrow _;have HB2:Hid (Bw w w2 x2 (done++[zBn n (q%256)])):=(HB.out.keep ((G.refl _).alloc _)).app [zBn n (q%256)] 1 rfl (by rw[EB.out] at hown;exact hown) hgrow;clear hown hgrow HB
    go_wp2
    go_roundw
    case rel=>exact⟨q/256,_,by simp,by omega,HD.out,HB2.out⟩
    case measure=>simp[RowKit.intOf];omega
end
section
open Go.RowKit Go.Shelf Go.PlainAid Go.Lib
theorem G.drewNE{a w:World}(h:G a w)(n:Nat):G a (w.drewN n):=h.trans ⟨rfl,rfl,rfl,Nat.le_refl _,fun _ _=>rfl⟩
def RowB(W:World)(x:Value)(xs:List Nat):Prop:=∃(p:Option Addr) (cap:Nat),x=.slice p xs.length cap∧xs.length≤cap∧∀i d,xs[i]?=some d→∃g o,p=some ⟨g,o,none⟩∧W.cell? ⟨g,o+i,none⟩=some (bv d)
theorem RowB.G{w w':World}{x:Value}{xs:List Nat}(h:RowB w x xs)(g:G w w'):RowB w' x xs:=by
 obtain⟨p,cap,rfl,hc,hr⟩:=h;refine⟨p,cap,rfl,hc,fun i d hi=>?_⟩;obtain⟨k,o,rfl,hcell⟩:=hr i d hi;exact⟨k,o,rfl,(g.cell (zAj hcell)).trans hcell⟩
theorem Bw.row{w0 W:World}{x:Value}{xs:List Nat}(h:Bw w0 W x xs):RowB W x xs:=by
 rcases h.at with ⟨rfl,rfl⟩|⟨g,cap,rfl,_,_,hcap,hc⟩
 ·exact⟨none,0,rfl,by simp,fun i d hi=>by simp at hi⟩
 ·exact⟨_,cap,rfl,hcap,fun i d hi=>⟨g,0,rfl,by rw[Nat.zero_add];exact hc i d hi⟩⟩
theorem zDO(a b:Value)(xs ys:List Nat)(w:World)(ha:RowB w a xs)(hb:RowB w b ys)(hx:xs.length≤1000)(hy:ys.length≤1000) :
  Calls prog 27 #[a,b] w fun e w'=>∃x',e=.returned x'∧Bw w w' x' (xs++ys):=by
 obtain⟨i0,hi,hz0,hz1,hz2⟩:=info_parts zAW;obtain⟨pa,ca,rfl,hca,ha⟩:=ha;obtain⟨pb,cb,rfl,hcb,hb⟩:=hb;have HA:Hid _:=ha;have HBb:Hid _:=hb;clear ha hb
 go_enter func27,ntmps27
 go_wp2
 go_loopw [5,6] (fun y i W=>∃k:Nat,k≤xs.length∧i=.int .i64 k∧Bw w W y (xs.take k)) (fun _ i _=>xs.length-(RowKit.intOf i).toNat)
 case atStart=>exact⟨0,Nat.zero_le _,rfl,Bw.nil w w (G.refl w)⟩
 case round=>
  obtain⟨k,hk,rfl,hB⟩:=hrel;have hs:=hB.g.size
  by_cases hlt:k<xs.length
  ·skip
   obtain⟨d,hd⟩:∃d,xs[k]?=some d:=⟨_,List.getElem?_eq_getElem hlt⟩;obtain⟨g,o,hp,hcell⟩:=HA.out k d hd;have hc2:wr.cell? ⟨g,o+k,none⟩=some (bv d):=(hB.g.cell (zAj hcell)).trans hcell
   have HT:Hid (xs.take (k+1)=(xs.take k++[d])):=by rw[List.take_add_one,hd];rfl
   have htl:(xs.take k).length=k:=by simp;omega
   have hkI:(k:Int)<(xs.length:Int):=by omega
   have HB:Hid _:=hB;clear hB hd hcell;subst hp
   go_wp2_with (at_builtin;refine wpList_append_own _ rfl _ _ 33 rfl w.heap.size 5 i0 (.int .u8 0) 1 1 underlying33 hi hz0 hz1 hz2 rfl (by decide) _ _ _ rfl (World.ownsRow.alloc HB.out.own _) ⟨wr.heap.size,0,none⟩ 1 1 [bv d] rfl ?c0 ?c1 ?c2 ?c3 ?c4 ?c5 ?_)
   case c0=>rfl
   case c1=>
    intro j u hj
    match j,hj with
    | 0,hj=>simp at hj;subst hj;simp[Addr.add]
   case c2=>first|rfl|(intro u hu;simp at hu;subst hu;rfl)
   case c3=>unfold maxLen;(first|omega|(simp at htl ⊢;omega))
   case c4=>(first|omega|(simp at htl ⊢;omega))
   case c5=>(first|omega|(simp;omega))
   intro x2 w2 hown hgrow _;have HB3:Hid (Bw w w2 x2 (xs.take k++[d])):=(HB.out.keep ((G.refl _).alloc _)).app [d] 1 rfl (by simpa [show min k xs.length=k by omega] using hown) hgrow;clear hown hgrow HB
   go_wp2
   go_roundw
   case rel=>exact⟨k+1,by omega,by go_num,by rw[HT.out];exact HB3.out⟩
   case measure=>simp[RowKit.intOf];omega
  ·have e:xs.take k=xs:=List.take_of_length_le (by omega)
   rw[e] at hB
   have hkI:¬(k:Int)<(xs.length:Int):=by omega
   have HB0:Hid (Bw w wr u5 xs):=hB;clear hB e
   go_wp2
   go_loopw [5,7] (fun y i W=>∃k:Nat,k≤ys.length∧i=.int .i64 k∧Bw w W y (xs++ys.take k)) (fun _ i _=>ys.length-(RowKit.intOf i).toNat)
   case atStart=>exact⟨0,Nat.zero_le _,rfl,by simpa using HB0.out⟩
   case round=>
    clear HB0 hs hlt hk;obtain⟨k,hk,rfl,hB⟩:=hrel;have hs:=hB.g.size
    by_cases hlt:k<ys.length
    ·skip
     obtain⟨d,hd⟩:∃d,ys[k]?=some d:=⟨_,List.getElem?_eq_getElem hlt⟩;obtain⟨g,o,hp,hcell⟩:=HBb.out k d hd;have hc2:wr.cell? ⟨g,o+k,none⟩=some (bv d):=(hB.g.cell (zAj hcell)).trans hcell
     have HT:Hid (ys.take (k+1)=(ys.take k++[d])):=by rw[List.take_add_one,hd];rfl
     have htl:(ys.take k).length=k:=by simp;omega
     have hkI:(k:Int)<(ys.length:Int):=by omega
     have HB:Hid _:=hB;clear hB hd hcell;subst hp
     go_wp2_with (at_builtin;refine wpList_append_own _ rfl _ _ 33 rfl w.heap.size 5 i0 (.int .u8 0) 1 1 underlying33 hi hz0 hz1 hz2 rfl (by decide) _ _ _ rfl (World.ownsRow.alloc HB.out.own _) ⟨wr.heap.size,0,none⟩ 1 1 [bv d] rfl ?c0 ?c1 ?c2 ?c3 ?c4 ?c5 ?_)
     case c0=>rfl
     case c1=>
      intro j u hj
      match j,hj with
      | 0,hj=>simp at hj;subst hj;simp[Addr.add]
     case c2=>first|rfl|(intro u hu;simp at hu;subst hu;rfl)
     case c3=>unfold maxLen;(first|omega|(simp at htl ⊢;omega))
     case c4=>(first|omega|(simp at htl ⊢;omega))
     case c5=>(first|omega|(simp;omega))
     intro x2 w2 hown hgrow _;have HB3:Hid (Bw w w2 x2 ((xs++ys.take k)++[d])):=(HB.out.keep ((G.refl _).alloc _)).app [d] 1 rfl (by simpa [show min k ys.length=k by omega] using hown) hgrow;clear hown hgrow HB
     go_wp2
     go_roundw
     case rel=>exact⟨k+1,by omega,by go_num,by rw[HT.out,←List.append_assoc];exact HB3.out⟩
     case measure=>simp[RowKit.intOf];omega
    ·have e:ys.take k=ys:=List.take_of_length_le (by omega)
     rw[e] at hB
     have hkI:¬(k:Int)<(ys.length:Int):=by omega
     have HB0:Hid (Bw w wr u5 (xs++ys)):=hB;clear hB e
     go_wp2
     go_ret;exact⟨_,rfl,HB0.out⟩
theorem zD8(a b:Value)(xs:List Nat)(w:World)(ha:RowB w a xs)(hb:RowB w b xs)(hx:xs.length≤1073741824):CG 10 #[a,b] w (.bool true):=by
 obtain⟨pa,ca,rfl,hca,ha⟩:=ha;obtain⟨pb,cb,rfl,hcb,hb⟩:=hb;have HA:Hid _:=ha;have HB:Hid _:=hb;clear ha hb
 go_enter func10,ntmps10
 go_wp2
 go_loopw [5] (fun i W=>∃k:Nat,k≤xs.length∧i=.int .i64 k∧G w W) (fun i _=>xs.length-(RowKit.intOf i).toNat)
 case atStart=>exact⟨0,Nat.zero_le _,rfl,G.refl _⟩
 case round=>
  obtain⟨k,hk,rfl,hG⟩:=hrel
  by_cases hlt:k<xs.length
  ·obtain⟨d,hd⟩:∃d,xs[k]?=some d:=⟨_,List.getElem?_eq_getElem hlt⟩
   obtain⟨g,o,hp,hcell⟩:=HA.out k d hd;obtain⟨g',o',hp',hcell'⟩:=HB.out k d hd;have hc1:wr.cell? ⟨g,o+k,none⟩=some (bv d):=(hG.cell (zAj hcell)).trans hcell;have hc2:wr.cell? ⟨g',o'+k,none⟩=some (bv d):=(hG.cell (zAj hcell')).trans hcell'
   have hkI:(k:Int)<(xs.length:Int):=by omega
   have HG:Hid _:=hG;clear hG hd hcell hcell';subst hp hp'
   go_wp2
   go_quiet (fail)
   go_wp2
   go_roundw
   case rel=>exact⟨k+1,by omega,by go_num,by repeat(first|exact HG.out|refine G.drewNE ?_ _|refine G.drew ?_)⟩
   case measure=>simp[RowKit.intOf];omega
  ·have hkI:¬(k:Int)<(xs.length:Int):=by omega
   have HG:Hid _:=hG;clear hG
   go_wp2
   go_ret;exact⟨rfl,HG.out⟩
end
section
open Go.RowKit Go.PlainAid
def acc(l:List Nat):Nat:=l.foldl (fun m d=>m*256+d) 0
theorem zGl(l:List Nat)(d:Nat):acc (l++[d])=acc l*256+d:=by
 unfold acc;rw[List.foldl_append];rfl
theorem zUx(l:List Nat)(h:∀d∈l,d<256)(m:Nat):l.foldl (fun m d=>m*256+d) m<(m+1)*256^l.length:=by
 induction l generalizing m with
 | nil=>simp
 | cons d l ih=>
  have h1:=ih (fun x hx=>h x (by simp[hx])) (m*256+d);have h2:=h d (by simp);rw[List.foldl_cons,List.length_cons,Nat.pow_succ];refine Nat.lt_of_lt_of_le h1 ?_;rw[Nat.mul_comm (256^l.length) 256,←Nat.mul_assoc];exact Nat.mul_le_mul_right _ (by omega)
theorem zRA(l:List Nat)(h:∀d∈l,d<256):acc l<256^l.length:=by
 have:=zUx l h 0
 simpa [acc] using this
theorem zC6(m:Nat):acc (digs m).reverse=m:=by
 induction m using Nat.strongRecOn with
 | _ m ih=>
  by_cases h:m=0
  ·subst h;rw[zBi];rfl
  ·rw[zCj h,List.reverse_cons,zGl,ih (m/256) (by omega)]
   omega
theorem zNz(n:Int)(x:Nat)(h:x<256):zBn n (zBn n x)=x:=by
 unfold zBn
 split<;>omega
theorem zEe(n:Int):(lowB n).reverse.map (zBn n)=(digs n.natAbs).reverse:=by
 rw[zMM,←List.map_reverse,List.map_map]
 conv=>rhs;rw[←List.map_id (digs n.natAbs).reverse]
 refine List.map_congr_left fun x hx=>?_;exact zNz n x (zNI _ x (List.mem_reverse.1 hx))
theorem zDh(n:Int)(h1:-9223372036854775808≤n)(h2:n≤9223372036854775807):(lowB n).length≤8:=by
 unfold lowB;have:=zBS 8 n.natAbs (by omega)
 simpa using this
theorem zCL{bs rest:List Nat}{n:Int}(h:bs=encW n++rest):bs[0]?=some (if n<0 then 64-(lowB n).length else 64+(lowB n).length)∧(bs.drop 1).take (lowB n).length=(lowB n).reverse∧bs.drop (1+(lowB n).length)=rest:=by
 subst h;unfold encW;refine⟨rfl,?_,?_⟩
 ·simp
 ·rw[Nat.add_comm,List.cons_append,List.drop_succ_cons]
  simp
end
section
open Go.RowKit Go.Shelf Go.PlainAid Go.Lib
theorem zGG{k a b:Int}{s:ByteArray}(h:okV k a b s=true):k=0∨k=1∨k=2∨k=3∨k=4∨k=5∨k=6:=by
 have hk:=zAp k a b s h;omega
theorem zDv(k a b:Int)(s:ByteArray)(h:okV k a b s=true)(ha:R64 a):zUB (zAb k a b s) (encV k a b s):=by
 have hk:=zAp k a b s h
 have:k=0∨k=1∨k=2∨k=3∨k=4∨k=5∨k=6:=by omega
 rcases this with rfl|rfl|rfl|rfl|rfl|rfl|rfl
 ·rw[show zAb 0 a b s=.iface 110 (.agg #[]) by simp[zAb,h]]
  exact⟨_,231,_,rfl,fun w=>by kernel_rfl,fun w=>by simp[go_sem],zNO⟩
 ·rw[show zAb 1 a b s=.iface 111 (.bool (a==1)) by simp[zAb,h]]
  have ha':a=0∨a=1:=by simp[okV,Bool.and_eq_true] at h;exact h.1.1
  rcases ha' with rfl|rfl
  ·exact⟨_,236,_,rfl,fun w=>by kernel_rfl,fun w=>by simp[go_sem],zK5⟩
  ·exact⟨_,236,_,rfl,fun w=>by kernel_rfl,fun w=>by simp[go_sem],zNN⟩
 ·rw[show zAb 2 a b s=.iface 135 (.int .i64 a) by simp[zAb,h]]
  exact⟨_,243,_,rfl,fun w=>by kernel_rfl,fun w=>by simp[go_sem],zK4 a ha.1 ha.2⟩
 ·rw[show zAb 3 a b s=.iface 136 (.complex .f64 (fl a) (fl b)) by simp[zAb,h]]
  have hpp:zAD a=true∧zAD b=true:=by simp[okV,Bool.and_eq_true] at h;exact h.1
  have pa:=(zAy a).1 hpp.1;have pb:=(zAy b).1 hpp.2;exact⟨_,251,_,rfl,fun w=>by kernel_rfl,fun w=>by simp[go_sem],zQe a b pa.1 pa.2 pb.1 pb.2⟩
 ·rw[show zAb 4 a b s=.iface 137 (.string s) by simp[zAb,h]]
  have hs:s.size≤32:=by simp[okV,Bool.and_eq_true] at h;exact h.1.2
  exact⟨_,256,_,rfl,fun w=>by kernel_rfl,fun w=>by simp[go_sem],zQd s hs⟩
 ·rw[show zAb 5 a b s=.iface 138 (.int .i64 a) by simp[zAb,h]]
  exact⟨_,264,_,rfl,fun w=>by kernel_rfl,fun w=>by simp[go_sem],zNP a ha.1 ha.2⟩
 ·rw[show zAb 6 a b s=.iface 139 (.int .i64 a) by simp[zAb,h]]
  exact⟨_,269,_,rfl,fun w=>by kernel_rfl,fun w=>by simp[go_sem],zNQ a ha.1 ha.2⟩
theorem zRm(k a b:Int)(s:ByteArray)(h:okV k a b s=false)(w:World)(hT:Tabs w):CG 8 #[V k a b s] w (.tuple #[.slice none 0 0,.int .i64 16]):=by
 have HI:Hid (∀w,Tabs w→CG 25 #[V k a b s] w (.tuple #[zAb k a b s,.bool (okV k a b s)])):=zAi k a b s;rw[h] at HI;generalize zAb k a b s=x at HI;clear h
 go_enter func8,ntmps8
 go_wp2_with fail
 refine(HI.out _ (by exact hT.G ((G.refl w).alloc _))).mono ?_;rintro e w1 ⟨rfl,hb1⟩
 go_wp2
 go_ret2
 exact⟨rfl,((G.refl w).alloc _).trans hb1⟩
theorem zNB(k a b:Int)(s:ByteArray)(h:okV k a b s=true)(ys:List Nat)(hn:zUB (zAb k a b s) ys)(w:World)(hT:Tabs w) :
  Calls prog 8 #[V k a b s] w fun e w'=>∃x',e=.returned (.tuple #[x',.int .i64 0])∧Bw w w' x' ys:=by
 have HI:Hid (∀w,Tabs w→CG 25 #[V k a b s] w (.tuple #[zAb k a b s,.bool (okV k a b s)])):=zAi k a b s;rw[h] at HI;generalize zAb k a b s=x at HI hn;clear h;obtain⟨t,f,v,rfl,hm,hf,g1⟩:=hn;have H1:Hid _:=g1;clear g1
 go_enter func8,ntmps8
 go_wp2_with fail
 refine(HI.out _ (by exact hT.G ((G.refl w).alloc _))).mono ?_;rintro e w1 ⟨rfl,hb1⟩;have HG:Hid (G w w1):=((G.refl w).alloc _).trans hb1;clear hb1
 go_wp2_with fail
 refine(H1.out _).mono ?_;rintro e w2 ⟨x2,rfl,hB2⟩;have HB:Hid (Bw w w2 x2 ys):=hB2.down HG.out;clear hB2
 go_wp2
 go_ret2
 exact⟨x2,rfl,HB.out⟩
end
section
open Go.RowKit Go.Shelf Go.PlainAid Go.Lib
theorem zRb(M d:Nat)(hM:M<72057594037927936)(hd:d<256):bits .or .u64 (IntKind.u64.wrap ((M:Int)*256)) (IntKind.u64.wrap (d:Int))=((M*256+d:Nat):Int):=by
 have e1:IntKind.u64.wrap ((M:Int)*256)=((M*256:Nat):Int):=by rw[IntKind.wrap_u64];omega
 have e2:IntKind.u64.wrap (d:Int)=(d:Int):=by rw[IntKind.wrap_u64];omega
 rw[e1,e2]
 have h1:(BitVec.ofInt 64 ((M*256:Nat):Int)).toNat=M*256:=by rw[BitVec.toNat_ofInt];omega
 have h2:(BitVec.ofInt 64 (d:Int)).toNat=d:=by rw[BitVec.toNat_ofInt];omega
 show IntKind.u64.wrap ((BitVec.ofInt 64 ((M*256:Nat):Int) ||| BitVec.ofInt 64 (d:Int)).toNat:Int)=_;rw[BitVec.toNat_or,h1,h2]
 have h3:M*256 ||| d=M*256+d:=by
  have:=Nat.shiftLeft_add_eq_or_of_lt (b:=d) (i:=8) (by omega) M;rw[Nat.shiftLeft_eq] at this;exact this.symm
 rw[h3,IntKind.wrap_u64];omega
theorem xor0(d:Nat)(h:d<256):bits .xor .u8 (d:Int) 0=(d:Int):=by
 have:∀n:Fin 256,bits .xor .u8 (n.val:Int) 0=(n.val:Int):=by decide +kernel
 exact this ⟨d,h⟩
theorem zUD(d:Nat)(h:d<256):bits .xor .u8 (d:Int) 255=((255-d:Nat):Int):=by
 have:∀n:Fin 256,bits .xor .u8 (n.val:Int) 255=((255-n.val:Nat):Int):=by decide +kernel
 exact this ⟨d,h⟩
def TWP(bs:List Nat)(n:Int)(ts:List Nat):Prop:=∀n0 rest,R64 n0→bs=encW n0++rest→n=n0∧ts=rest
def TWA(bs:List Nat)(w:World)(e:Ending)(w':World):Prop:=∃(n:Int) (t:Value) (ts:List Nat),e=.returned (.tuple #[.int .i64 n,t])∧R64 n∧RowB w t ts∧TWP bs n ts∧(∀d∈ts,d<256)∧ts.length≤bs.length∧G w w'
theorem zCA(w:World):RowB w (.slice none 0 0) []:=⟨none,0,rfl,Nat.le_refl _,fun i d h=>by simp at h⟩
theorem zBV(x:Int):R64 (wrap64 x):=by
 unfold R64 wrap64;omega
theorem zFM{w:World}{g o cap k:Nat}{bs:List Nat}(hcap:bs.length≤cap)(hk:k≤bs.length)(hc:∀i d,bs[i]?=some d→w.cell? ⟨g,o+i,none⟩=some (bv d)):RowB w (.slice (some ⟨g,o+k,none⟩) (bs.length-k) (cap-k)) (bs.drop k):=
 ⟨_,cap-k,by rw[List.length_drop],by rw[List.length_drop];omega,fun i d hi=>⟨g,o+k,rfl,by
  rw[Nat.add_assoc];rw[List.getElem?_drop] at hi
  exact hc _ d hi⟩⟩
theorem zND{n:Int}(h:n<0):0<(lowB n).length:=by
 unfold lowB;rw[List.length_map]
 have:n.natAbs≠0:=by omega
 rw[zCj this];simp
theorem zLf(bs:List Nat)(d0 L:Nat)(hd:bs[0]?=some d0)(hdL:(d0:Int)-64=(L:Int)):TWP bs (wrap64 ((acc ((bs.drop 1).take L):Nat):Int)) (bs.drop (1+L)):=by
 intro n0 rest hr he;obtain⟨h1,h2,h3⟩:=zCL he;have hl8:=zDh n0 hr.1 hr.2;rw[hd] at h1;have h1:=Option.some.inj h1
 by_cases hn:n0<0
 ·rw[if_pos hn] at h1
  have:=zND hn;omega
 ·rw[if_neg hn] at h1
  have hLL:(lowB n0).length=L:=by omega
  rw[hLL] at h2 h3;refine⟨?_,h3⟩;rw[h2];have hb:=zEe n0
  have hf:(lowB n0).reverse=(lowB n0).reverse.map (zBn n0):=by
   conv=>lhs;rw[←List.map_id (lowB n0).reverse]
   exact List.map_congr_left fun x _=>by unfold zBn;rw[if_neg hn];rfl
  rw[hf,hb,zC6];unfold wrap64;have:=hr.2;omega
theorem zUI(g o cap d0 L:Nat)(bs:List Nat)(w:World)(hcap:bs.length≤cap)(hc:∀i d,bs[i]?=some d→w.cell? ⟨g,o+i,none⟩=some (bv d))(hb:∀d∈bs,d<256)(hl:bs.length≤140737488355328)
  (hd:bs[0]?=some d0) (hdL:(d0:Int)-64=(L:Int)) (hL8:L≤8) (hLl:1+L≤bs.length) (hc1:¬cap=1):Calls prog 140 #[.slice (some ⟨g,o,none⟩) bs.length cap] w (TWA bs w):=by
 have HT:Hid _:=zLf bs d0 L hd hdL;have hcell:=hc 0 d0 hd;rw[Nat.add_zero] at hcell;have HC:Hid _:=hc;have HB256:Hid _:=hb;have hd256:d0<256:=hb d0 (List.mem_of_getElem? hd)
 have hne:(bs.length:Int)≠0:=by omega
 have hleni:(0:Int)<(bs.length:Int):=by omega
 have hLi:((L:Nat):Int)≤(bs.length:Int)-1:=by omega
 have hLi8:((L:Nat):Int)≤8:=by omega
 have hcapL:1+L≤cap:=by omega
 clear hc hb hd
 go_enter func140,ntmps140
 go_wp2
 go_loopw [6,8,35] (fun m _ i W=>∃j:Nat,j≤L∧i=.int .i64 j∧m=.int .u64 ((acc ((bs.drop 1).take j):Nat):Int)∧W=w) (fun _ _ i _=>L-(RowKit.intOf i).toNat)
 case atStart=>exact⟨0,Nat.zero_le _,rfl,rfl,rfl⟩
 case round=>
  obtain⟨j,hj,rfl,rfl,rfl⟩:=hrel
  by_cases hlt:j<L
  ·obtain⟨d,hdj⟩:∃d,bs[1+j]?=some d:=⟨_,List.getElem?_eq_getElem (by omega)⟩
   have hcj:=HC.out (1+j) d hdj;rw[←Nat.add_assoc] at hcj
   have hji:(j:Int)<L:=by omega
   have hd2:d<256:=HB256.out d (List.mem_of_getElem? hdj)
   have hsub:(bs.drop 1).take (j+1)=(bs.drop 1).take j++[d]:=by
    rw[List.take_add_one,List.getElem?_drop,hdj];rfl
   have hacc:acc ((bs.drop 1).take (j+1))=acc ((bs.drop 1).take j)*256+(d):=by rw[hsub,zGl]
   have hM:acc ((bs.drop 1).take j)<72057594037927936:=by
    have h1:=zRA ((bs.drop 1).take j) (fun x hx=>by exact HB256.out x (List.mem_of_mem_drop (List.mem_of_mem_take hx)))
    have h2:((bs.drop 1).take j).length≤7:=by simp;omega
    exact Nat.lt_of_lt_of_le h1 (Nat.pow_le_pow_right (by decide) h2)
   have HA:Hid _:=hacc;have HO:Hid _:=zRb (acc ((bs.drop 1).take j)) (d) hM (by omega);have HX:Hid _:=xor0 d hd2;clear hsub hacc hdj hM;generalize acc ((bs.drop 1).take j)=M at HA HO
   go_wp2
   go_roundw
   case rel=>exact⟨j+1,by omega,by go_num,by rw[HX.out,HO.out,HA.out],trivial⟩
   case measure=>simp[RowKit.intOf];omega
  ·have e:j=L:=by omega
   subst e
   have hji:¬(j:Int)<(j:Int):=by omega
   obtain⟨MM,hMM⟩:∃MM,acc ((bs.drop 1).take j)=MM:=⟨_,rfl⟩;rw[hMM] at HT⊢;clear hMM;have HR:Hid _:=zFM hcap hLl HC.out
   by_cases hce:cap=1+j
   ·have hbe:bs.length=1+j:=by omega
    have HR0:Hid (RowB wr (.slice (some ⟨g,o,none⟩) (1+j-(1+j)) (1+j-(1+j))) (bs.drop (1+j))):=by
     rw[List.drop_of_length_le (by omega),Nat.sub_self];exact⟨_,0,rfl,Nat.le_refl _,fun i d h=>by simp at h⟩
    subst hce;clear HR
    go_wp2
    go_quiet (fail)
    go_wp2
    go_ret2
    exact⟨_,_,bs.drop (1+j),rfl,zBV _,HR0.out,HT.out,fun d hd'=>HB256.out d (List.mem_of_mem_drop hd'),by rw[List.length_drop];omega,by repeat(first|exact G.refl _|refine G.drewNE ?_ _|refine G.drew ?_)⟩
   ·go_wp2
    go_quiet (fail)
    go_wp2
    go_ret2
    exact⟨_,_,bs.drop (1+j),rfl,zBV _,HR.out,HT.out,fun d hd'=>HB256.out d (List.mem_of_mem_drop hd'),by rw[List.length_drop];omega,by repeat(first|exact G.refl _|refine G.drewNE ?_ _|refine G.drew ?_)⟩
theorem zRN(bs:List Nat)(d0 L:Nat)(hd:bs[0]?=some d0)(hdL:(d0:Int)-64 = -(L:Int))(hL1:1≤L):TWP bs (wrap64 (IntKind.u64.wrap (-((acc (((bs.drop 1).take L).map (255 - ·)):Nat):Int)))) (bs.drop (1+L)):=by
 intro n0 rest hr he;obtain⟨h1,h2,h3⟩:=zCL he;have hl8:=zDh n0 hr.1 hr.2;rw[hd] at h1;have h1:=Option.some.inj h1
 by_cases hn:n0<0
 ·rw[if_pos hn] at h1
  have hLL:(lowB n0).length=L:=by omega
  rw[hLL] at h2 h3;refine⟨?_,h3⟩;rw[h2];have hb:=zEe n0
  have hf:(lowB n0).reverse.map (255 - ·)=(lowB n0).reverse.map (zBn n0):=List.map_congr_left fun x _=>by unfold zBn;rw[if_pos hn]
  rw[hf,hb,zC6,IntKind.wrap_u64];unfold wrap64;have:=hr.1;omega
 ·rw[if_neg hn] at h1
  omega
theorem zUL(g o cap d0 L:Nat)(bs:List Nat)(w:World)(hcap:bs.length≤cap)(hc:∀i d,bs[i]?=some d→w.cell? ⟨g,o+i,none⟩=some (bv d))(hb:∀d∈bs,d<256)(hl:bs.length≤140737488355328)
  (hd:bs[0]?=some d0) (hdL:(d0:Int)-64 = -(L:Int)) (hL1:1≤L) (hL8:L≤8) (hLl:1+L≤bs.length) (hc1:¬cap=1):Calls prog 140 #[.slice (some ⟨g,o,none⟩) bs.length cap] w (TWA bs w):=by
 have HT:Hid _:=zRN bs d0 L hd hdL hL1;have hcell:=hc 0 d0 hd;rw[Nat.add_zero] at hcell;have HC:Hid _:=hc;have HB256:Hid _:=hb;have hd256:d0<256:=hb d0 (List.mem_of_getElem? hd)
 have hne:(bs.length:Int)≠0:=by omega
 have hleni:(0:Int)<(bs.length:Int):=by omega
 have hLi:((L:Nat):Int)≤(bs.length:Int)-1:=by omega
 have hLi8:((L:Nat):Int)≤8:=by omega
 have hcapL:1+L≤cap:=by omega
 clear hc hb hd
 go_enter func140,ntmps140
 go_wp2
 go_loopw [6,8,35] (fun m _ i W=>∃j:Nat,j≤L∧i=.int .i64 j∧m=.int .u64 ((acc (((bs.drop 1).take j).map (255 - ·)):Nat):Int)∧W=w) (fun _ _ i _=>L-(RowKit.intOf i).toNat)
 case atStart=>exact⟨0,Nat.zero_le _,rfl,rfl,rfl⟩
 case round=>
  obtain⟨j,hj,rfl,rfl,rfl⟩:=hrel
  by_cases hlt:j<L
  ·obtain⟨d,hdj⟩:∃d,bs[1+j]?=some d:=⟨_,List.getElem?_eq_getElem (by omega)⟩
   have hcj:=HC.out (1+j) d hdj;rw[←Nat.add_assoc] at hcj
   have hji:(j:Int)<L:=by omega
   have hd2:d<256:=HB256.out d (List.mem_of_getElem? hdj)
   have hsub:(bs.drop 1).take (j+1)=(bs.drop 1).take j++[d]:=by
    rw[List.take_add_one,List.getElem?_drop,hdj];rfl
   have hacc:acc (((bs.drop 1).take (j+1)).map (255 - ·))=acc (((bs.drop 1).take j).map (255 - ·))*256+(255-d):=by rw[hsub,List.map_append,List.map_singleton,zGl]
   have hM:acc (((bs.drop 1).take j).map (255 - ·))<72057594037927936:=by
    have h1:=zRA (((bs.drop 1).take j).map (255 - ·)) (fun x hx=>by obtain⟨y,_,rfl⟩:=List.mem_map.1 hx;omega)
    have h2:(((bs.drop 1).take j).map (255 - ·)).length≤7:=by simp;omega
    exact Nat.lt_of_lt_of_le h1 (Nat.pow_le_pow_right (by decide) h2)
   have HA:Hid _:=hacc;have HO:Hid _:=zRb (acc (((bs.drop 1).take j).map (255 - ·))) (255-d) hM (by omega);have HX:Hid _:=zUD d hd2;clear hsub hacc hdj hM;generalize acc (((bs.drop 1).take j).map (255 - ·))=M at HA HO
   go_wp2
   go_roundw
   case rel=>exact⟨j+1,by omega,by go_num,by rw[HX.out,HO.out,HA.out],trivial⟩
   case measure=>simp[RowKit.intOf];omega
  ·have e:j=L:=by omega
   subst e
   have hji:¬(j:Int)<(j:Int):=by omega
   obtain⟨MM,hMM⟩:∃MM,acc (((bs.drop 1).take j).map (255 - ·))=MM:=⟨_,rfl⟩;rw[hMM] at HT⊢;clear hMM;have HR:Hid _:=zFM hcap hLl HC.out
   by_cases hce:cap=1+j
   ·have hbe:bs.length=1+j:=by omega
    have HR0:Hid (RowB wr (.slice (some ⟨g,o,none⟩) (1+j-(1+j)) (1+j-(1+j))) (bs.drop (1+j))):=by
     rw[List.drop_of_length_le (by omega),Nat.sub_self];exact⟨_,0,rfl,Nat.le_refl _,fun i d h=>by simp at h⟩
    subst hce;clear HR
    go_wp2
    go_quiet (fail)
    go_wp2
    go_ret2
    exact⟨_,_,bs.drop (1+j),rfl,zBV _,HR0.out,HT.out,fun d hd'=>HB256.out d (List.mem_of_mem_drop hd'),by rw[List.length_drop];omega,by repeat(first|exact G.refl _|refine G.drewNE ?_ _|refine G.drew ?_)⟩
   ·go_wp2
    go_quiet (fail)
    go_wp2
    go_ret2
    exact⟨_,_,bs.drop (1+j),rfl,zBV _,HR.out,HT.out,fun d hd'=>HB256.out d (List.mem_of_mem_drop hd'),by rw[List.length_drop];omega,by repeat(first|exact G.refl _|refine G.drewNE ?_ _|refine G.drew ?_)⟩
theorem zLi(g o cap d0 L:Nat)(bs:List Nat)(w:World)(hl:bs.length≤140737488355328)(hcell:w.cell? ⟨g,o,none⟩=some (bv d0))(hd256:d0<256)(hlen:0<bs.length)(hdL:(d0:Int)-64=(L:Int))(hbig:(8:Int)<L)(HT:Hid (TWP bs 0 [])):Calls prog 140 #[.slice (some ⟨g,o,none⟩) bs.length cap] w (TWA bs w):=by
 have hne:(bs.length:Int)≠0:=by omega
 have hleni:(0:Int)<(bs.length:Int):=by omega
 go_enter func140,ntmps140
 go_wp2
 go_ret2
 exact⟨0,_,[],rfl,by unfold R64;omega,zCA w,HT.out,by simp,by simp,G.refl _⟩
theorem zLh(g o cap d0 L:Nat)(bs:List Nat)(w:World)(hl:bs.length≤140737488355328)(hcell:w.cell? ⟨g,o,none⟩=some (bv d0))(hd256:d0<256)(hlen:0<bs.length)(hdL:(d0:Int)-64=(L:Int))(hbig:¬(8:Int)<L)(hb2:(bs.length:Int)-1<L)(HT:Hid (TWP bs 0 [])):Calls prog 140 #[.slice (some ⟨g,o,none⟩) bs.length cap] w (TWA bs w):=by
 have hne:(bs.length:Int)≠0:=by omega
 have hleni:(0:Int)<(bs.length:Int):=by omega
 go_enter func140,ntmps140
 go_wp2
 go_ret2
 exact⟨0,_,[],rfl,by unfold R64;omega,zCA w,HT.out,by simp,by simp,G.refl _⟩
theorem zLk(g o cap d0 L:Nat)(bs:List Nat)(w:World)(hl:bs.length≤140737488355328)(hcell:w.cell? ⟨g,o,none⟩=some (bv d0))(hd256:d0<256)(hlen:0<bs.length)(hdL:(d0:Int)-64 = -(L:Int))(hL1:1≤L)(hbig:(8:Int)<L)(HT:Hid (TWP bs 0 [])):Calls prog 140 #[.slice (some ⟨g,o,none⟩) bs.length cap] w (TWA bs w):=by
 have hne:(bs.length:Int)≠0:=by omega
 have hleni:(0:Int)<(bs.length:Int):=by omega
 go_enter func140,ntmps140
 go_wp2
 go_ret2
 exact⟨0,_,[],rfl,by unfold R64;omega,zCA w,HT.out,by simp,by simp,G.refl _⟩
theorem zLj(g o cap d0 L:Nat)(bs:List Nat)(w:World)(hl:bs.length≤140737488355328)(hcell:w.cell? ⟨g,o,none⟩=some (bv d0))(hd256:d0<256)(hlen:0<bs.length)(hdL:(d0:Int)-64 = -(L:Int))(hL1:1≤L)(hbig:¬(8:Int)<L)(hb2:(bs.length:Int)-1<L)(HT:Hid (TWP bs 0 [])):Calls prog 140 #[.slice (some ⟨g,o,none⟩) bs.length cap] w (TWA bs w):=by
 have hne:(bs.length:Int)≠0:=by omega
 have hleni:(0:Int)<(bs.length:Int):=by omega
 go_enter func140,ntmps140
 go_wp2
 go_ret2
 exact⟨0,_,[],rfl,by unfold R64;omega,zCA w,HT.out,by simp,by simp,G.refl _⟩
theorem zUJ(g o:Nat)(bs:List Nat)(w:World)(hcell:w.cell? ⟨g,o,none⟩=some (bv 64))(hlen:bs.length=1)(HT:Hid (TWP bs 0 [])):Calls prog 140 #[.slice (some ⟨g,o,none⟩) bs.length 1] w (TWA bs w):=by
 rw[hlen]
 go_enter func140,ntmps140
 go_wp2
 go_loopw [6,8,35] (fun m _ i W=>i=.int .i64 0∧m=.int .u64 0∧W=w) (fun _ _ i _=>0)
 case atStart=>exact⟨rfl,rfl,rfl⟩
 case round=>
  obtain⟨rfl,rfl,rfl⟩:=hrel
  go_wp2
  go_quiet (fail)
  go_wp2
  go_ret2
  exact⟨0,_,[],rfl,by unfold R64;omega,⟨_,0,rfl,Nat.le_refl _,fun i d h=>by simp at h⟩,HT.out,by simp,by simp,by repeat(first|exact G.refl _|refine G.drewNE ?_ _|refine G.drew ?_)⟩
theorem zUK(p:Option Addr)(cap:Nat)(bs:List Nat)(w:World)(h0:bs.length=0)(HT:Hid (TWP bs 0 [])):Calls prog 140 #[.slice p bs.length cap] w (TWA bs w):=by
 rw[h0]
 go_enter func140,ntmps140
 go_wp2
 go_ret2
 exact⟨0,_,[],rfl,by unfold R64;omega,zCA w,HT.out,by simp,by simp,G.refl _⟩
theorem zIx(bs:List Nat)(d0:Nat)(hd:bs[0]?=some d0)(h:∀L:Nat,(d0:Int)-64=L∨(d0:Int)-64 = -(L:Int)→8<L∨bs.length<1+L):TWP bs 0 []:=by
 intro n0 rest hr he;exfalso;have h1:=(zCL he).1;have hl8:=zDh n0 hr.1 hr.2;rw[hd] at h1;have h1:=Option.some.inj h1;have hll:=congrArg List.length he;simp[encW] at hll
 by_cases hn:n0<0
 ·rw[if_pos hn] at h1
  have:=h (lowB n0).length (.inr (by omega));omega
 ·rw[if_neg hn] at h1
  have:=h (lowB n0).length (.inl (by omega));omega
theorem zEk(x:Value)(bs:List Nat)(w:World)(hx:RowB w x bs)(hb:∀d∈bs,d<256)(hl:bs.length≤140737488355328):Calls prog 140 #[x] w (TWA bs w):=by
 obtain⟨p,cap,rfl,hcap,hc⟩:=hx
 by_cases h0:bs.length=0
 ·exact zUK p cap bs w h0 (fun n0 rest _ he=>by rw[he] at h0;simp[encW] at h0)
 obtain⟨d0,hd⟩:∃d0,bs[0]?=some d0:=⟨_,List.getElem?_eq_getElem (by omega)⟩;have hd256:d0<256:=hb d0 (List.mem_of_getElem? hd);obtain⟨g,o,rfl,hcell⟩:=hc 0 d0 hd;rw[Nat.add_zero] at hcell
 have hc':∀i d,bs[i]?=some d→w.cell? ⟨g,o+i,none⟩=some (bv d):=fun i d hi=>by
  obtain⟨g',o',he,h2⟩:=hc i d hi;cases he;exact h2
 by_cases hs:d0<64
 ·obtain⟨L,hL⟩:∃L:Nat,(d0:Int)-64 = -(L:Int):=⟨64-d0,by omega⟩
  by_cases h8:8<L
  ·exact zLk g o cap d0 L bs w hl hcell hd256 (by omega) hL (by omega) (by omega) (zIx bs d0 hd fun L' h=>by omega)
  ·by_cases h2:bs.length<1+L
   ·exact zLj g o cap d0 L bs w hl hcell hd256 (by omega) hL (by omega) (by omega) (by omega) (zIx bs d0 hd fun L' h=>by omega)
   ·exact zUL g o cap d0 L bs w hcap hc' hb hl hd hL (by omega) (by omega) (by omega) (by omega)
 ·obtain⟨L,hL⟩:∃L:Nat,(d0:Int)-64=(L:Int):=⟨d0-64,by omega⟩
  by_cases h8:8<L
  ·exact zLi g o cap d0 L bs w hl hcell hd256 (by omega) hL (by omega) (zIx bs d0 hd fun L' h=>by omega)
  ·by_cases h2:bs.length<1+L
   ·exact zLh g o cap d0 L bs w hl hcell hd256 (by omega) hL (by omega) (by omega) (zIx bs d0 hd fun L' h=>by omega)
   ·by_cases hc1:cap=1
    ·subst hc1
     have hd64:d0=64:=by omega
     subst hd64
     have hlen:bs.length=1:=by omega
     refine zUJ g o bs w hcell hlen ?_;have hT:=zLf bs 64 0 hd (by omega);rw[List.take_zero,List.drop_of_length_le (by omega)] at hT
     have e0:wrap64 ((acc []:Nat):Int)=0:=by unfold wrap64 acc;simp
     rw[e0] at hT;exact hT
    ·exact zUI g o cap d0 L bs w hcap hc' hb hl hd hL (by omega) (by omega) hc1
end
end Go.Proofs.YthmdjhfbhbheeaaGreatDoor
