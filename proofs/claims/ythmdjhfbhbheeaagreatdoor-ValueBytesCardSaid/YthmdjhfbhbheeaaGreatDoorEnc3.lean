import Derived.Laws.MakeOwn
import Derived.Test.YthmdjhfbhbheeaaGreatDoorEnc2
import Derived.Test.YthmdjhfbhbheeaaGreatDoorShelf3
namespace Go.Proofs.YthmdjhfbhbheeaaGreatDoor
open Go.Proofs.Tryz
set_option maxHeartbeats 2000000
set_option maxRecDepth 100000
section
open Go.RowKit Go.Shelf
theorem zV0(m:Nat)(h:m<2^64)(w:World):Calls prog 209 #[.int .u64 (m:Int)] w fun e w'=>e=.returned (.int .i64 (Lib.bitLen m))∧w'=w:=by
 have:=Any.bits_Len64 Tryz.laysLen64 (m:Int) w (by omega) (by omega);rw[Int.toNat_natCast] at this;exact this
theorem zVW(L:Nat)(h:L≤1073741824)(w:World):(Instr.makeSlice 33 (.int .i64 (L:Int)) (.int .i64 (L:Int))).run prog w=.ok (.slice (some ⟨w.heap.size,0,none⟩) L L) (w.alloc (.cells (Array.replicate L (.int .u8 0)) 5)):=by
 obtain⟨i0,hi,hz0,hz1,hz2⟩:=info_parts zAW;rw[run_make (P:=prog) w 33 5 i0 (.int .u8 0) underlying33 hi hz0 .i64 .i64 L L (by omega) (by omega) (by rw[hz2];omega) (by omega),hz1]
 have e:madeCells (Value.int .u8 0).cells ((L:Int).toNat*1)=Array.replicate L (.int .u8 0):=by
  rw[Int.toNat_natCast,Nat.mul_one];apply Array.ext
  ·simp[madeCells]
  ·intro i h1 h2
   have hc:(Value.int .u8 0).cells=#[.int .u8 0]:=rfl;simp[madeCells,hc,Nat.mod_one]
 rw[e,Int.toNat_natCast]
theorem zGL(w:World)(L j:Nat)(h:j<L):(w.alloc (.cells (Array.replicate L (.int .u8 0)) 5)).cell? ⟨w.heap.size,j,none⟩=some (.int .u8 0):=by
 simp[h]
theorem zEE(w:World)(L j:Nat):(w.alloc (.cells (Array.replicate L (.int .u8 0)) 5)).frozen? ⟨w.heap.size,j,none⟩=false:=by
 simp
theorem zRD(m y:Nat)(h:m<2^64)(hy:y=18446744073709551615-m):Op.unary .xor (.int .u64 (m:Int))=pure (.int .u64 (y:Int)):=by
 have e:∀v:BitVec 64,(BitVec.ofInt 64 18446744073709551615 ^^^ v).toNat=18446744073709551615-v.toNat:=by
  intro v
  have:BitVec.ofInt 64 18446744073709551615=BitVec.allOnes 64:=by decide
  rw[this,BitVec.allOnes_xor,BitVec.toNat_not]
 have hv:(BitVec.ofInt 64 (m:Int)).toNat=m:=by
  rw[BitVec.toNat_ofInt];omega
 show(pure (.int .u64 (IntKind.u64.wrap ((BitVec.ofInt 64 18446744073709551615 ^^^ BitVec.ofInt 64 (m:Int)).toNat:Int))):Sem Value)=_;rw[e,hv,←hy,IntKind.wrap_u64]
 congr 2
 omega
theorem zJO(g j:Nat):(⟨g,0,none⟩:Addr).add j=⟨g,j,none⟩:=by
 by_cases c:j=0
 ·subst c;rfl
 ·simp[Addr.add,c]
theorem zMi{w W:World}{g L x:Nat}(h:PutR w g 0 L L x W)(j d:Nat)(hj:(lows L x).reverse[j]?=some d):W.cell? ⟨g,j,none⟩=some (bv d):=by
 have hlt:j<L:=by
  have:=(List.getElem?_eq_some_iff.1 hj).1
  simpa [zA3] using this
 have:=h.new j (by omega) hlt;rw[Nat.zero_add] at this;rw[this];rw[List.getElem?_reverse (by rw[zA3];exact hlt),zA3,zTw L x (L-1-j) (by omega)] at hj;cases hj;rfl
theorem zWW(m:Nat)(hm:m<9223372036854775808)(w0 w:World)(x:Value)(xs:List Nat)(hB:Bw w0 w x xs)(hl:xs.length≤1000) :
  Calls prog 248 #[x,.int .i64 ((m:Int))] w fun e w'=>∃x',e=.returned x'∧Bw w0 w' x' (xs++encW ((m:Int))):=by
 obtain⟨i0,hi,hz0,hz1,hz2⟩:=info_parts zAW
 have hw:(m:Int)%18446744073709551616=m:=by omega
 have HB:Hid _:=hB;clear hB;obtain⟨b,hb⟩:∃b,b=Lib.bitLen m:=⟨_,rfl⟩;obtain⟨L,hDL⟩:∃L,(digs m).length=L:=⟨_,rfl⟩;have hL:=zGY m (by omega);rw[←hb,hDL] at hL;have hL8:L≤8:=hDL▸zBS 8 m (by omega)
 have hE:encW ((m:Int))=(64+L)::(lows L m).reverse:=by
  unfold encW lowB
  have e1:((m:Int)).natAbs=m:=by omega
  have e2:((m:Int)<0)=False:=by simp
  rw[e1];simp only[e2,if_false,List.map_id',hDL];rw[←hDL,zGN]
 have H1:Hid (∀w,Calls prog 209 #[.int .u64 (m:Int)] w fun e w'=>e=.returned (.int .i64 (b:Int))∧w'=w):=fun w=>by rw[hb];exact zV0 m (by omega) w
 have hb8:b≤64:=by omega
 have hLi:((b:Int)+7)/8=(L:Int):=by omega
 have hmk:=zVW L (by omega);rw[hE];clear hb hDL hE hL
 go_enter func248,ntmps248
 go_wp2_with fail
 refine(H1.out _).mono ?_;rintro e w1 ⟨rfl,rfl⟩
 go_wp2_with fail
 refine(zHP _ 0 L L m (by omega) (Nat.le_refl _) _ (fun j hj=>⟨_,by rw[Nat.zero_add];exact zGL w1 L j hj⟩) (fun j _=>by rw[Nat.zero_add];exact zEE w1 L j)).mono ?_;rintro e w2 ⟨rfl,hP⟩;have g2:G w1 w2:=hP.keep w1 ((G.refl w1).alloc _) (Nat.le_refl _);have HB2:Hid (Bw w0 w2 x xs):=HB.out.keep g2;have HP:Hid _:=fun j d=>zMi hP j d
 have hs2:w1.heap.size<w2.heap.size:=by have:=hP.size;simp at this;omega
 have hne:x.ownBlock≠some w1.heap.size:=by
  intro he;have:=(World.ownsRow.lt HB.out.own _ he).2;omega
 have HNE:Hid _:=hne;have hs0:w0.heap.size≤w2.heap.size:=HB2.out.g.size;clear hP HB g2 H1 hne
 go_wp2_with (at_builtin;refine wpList_append_own _ rfl _ _ 33 rfl w0.heap.size 5 i0 (.int .u8 0) 1 1 underlying33 hi hz0 hz1 hz2 rfl (by decide) _ _ _ rfl (World.ownsRow.alloc HB2.out.own _) ⟨w2.heap.size,0,none⟩ 1 1 [.int .u8 (64+(L:Int))] rfl ?c0 ?c1 ?c2 ?c3 ?c4 ?c5 ?_)
 case c0=>rfl
 case c1=>
  intro j u hj
  match j,hj with
  | 0,hj=>simp at hj;subst hj;simp[Addr.add]
 case c2=>first|rfl|(intro u hu;simp at hu;subst hu;rfl)
 case c3=>unfold maxLen;omega
 case c4=>omega
 case c5=>simp;omega
 intro x1 w3 hown3 hgrow _
 have eb:(Value.int .u8 (64+(L:Int)))=bv (64+L):=by show Value.int .u8 _=Value.int .u8 _;congr 1
 have HB3:Hid (Bw w0 w3 x1 (xs++[64+L])):=(HB2.out.keep ((G.refl _).alloc _)).app [64+L] 1 rfl (by rw[eb] at hown3;exact hown3) hgrow
 have HP3:Hid (∀j d,(lows L m).reverse[j]?=some d→w3.cell? ⟨w1.heap.size,j,none⟩=some (bv d)):=fun j d hj=>
  (World.cell?_of_block (hgrow.block w1.heap.size (by simp;omega) (fun e=>HNE.out e.symm))).trans ((((G.refl w2).alloc _).cell hs2).trans (HP.out j d hj))
 have hs3:w0.heap.size≤w3.heap.size:=HB3.out.g.size;clear hown3 hgrow HB2 HP HNE
 go_wp2_with (at_builtin;refine wpList_append_own _ rfl _ _ 33 rfl w0.heap.size 5 i0 (.int .u8 0) 1 1 underlying33 hi hz0 hz1 hz2 rfl (by decide) _ _ _ rfl HB3.out.own ⟨w1.heap.size,0,none⟩ L L ((lows L m).reverse.map bv) rfl ?d0 ?d1 ?d2 ?d3 ?d4 ?d5 ?_)
 case d0=>simp[zA3]
 case d1=>
  intro j u hj;rw[List.getElem?_map] at hj;obtain⟨d,hd,rfl⟩:=Option.map_eq_some_iff.1 hj;rw[zJO];exact HP3.out j d hd
 case d2=>intro u hu;obtain⟨d,_,rfl⟩:=List.mem_map.1 hu;rfl
 case d3=>unfold maxLen;simp;omega
 case d4=>simp;omega
 case d5=>exact hs3
 intro x2 w4 hown4 hgrow4 _;have HB4:Hid (Bw w0 w4 x2 ((xs++[64+L])++(lows L m).reverse)):=HB3.out.app _ L (by simp[zA3]) (by simpa using hown4) hgrow4;clear hown4 hgrow4 HB3 HP3
 go_wp2
 go_ret;exact⟨_,rfl,by have:=HB4.out;rwa [List.append_assoc,List.singleton_append] at this⟩
theorem zWX(m:Nat)(n:Int)(hn:n = -(m:Int))(h0:0<m)(hm:m≤9223372036854775808)(w0 w:World)(x:Value)(xs:List Nat)(hB:Bw w0 w x xs)(hl:xs.length≤1000) :
  Calls prog 248 #[x,.int .i64 (n)] w fun e w'=>∃x',e=.returned x'∧Bw w0 w' x' (xs++encW (n)):=by
 obtain⟨i0,hi,hz0,hz1,hz2⟩:=info_parts zAW;obtain⟨u,hu⟩:∃u:Int,u=18446744073709551616-m:=⟨_,rfl⟩;obtain⟨y,hy⟩:∃y:Nat,y=18446744073709551615-m:=⟨_,rfl⟩
 have hw:IntKind.u64.wrap n=u:=by rw[IntKind.wrap_u64];omega
 have hw2:IntKind.u64.wrap (-u)=m:=by rw[IntKind.wrap_u64];omega
 have hxr:=zRD m y (by omega) hy
 have hy64:y<2^64:=by omega
 have hlt:decide (n<0)=true:=by simp;omega
 have HB:Hid _:=hB;clear hB;obtain⟨b,hb⟩:∃b,b=Lib.bitLen m:=⟨_,rfl⟩;obtain⟨L,hDL⟩:∃L,(digs m).length=L:=⟨_,rfl⟩;have hL:=zGY m (by omega);rw[←hb,hDL] at hL;have hL8:L≤8:=hDL▸zBS 8 m (by omega)
 have hE:encW (n)=(64-L)::(lows L y).reverse:=by
  unfold encW lowB
  have e1:(n).natAbs=m:=by omega
  have e2:(n<0)=True:=by simp;omega
  rw[e1];simp only[e2,if_true,List.length_map,hDL];rw[zMJ 8 m y (by omega) L hL8];rw[←hDL,zGN]
 have H1:Hid (∀w,Calls prog 209 #[.int .u64 (m:Int)] w fun e w'=>e=.returned (.int .i64 (b:Int))∧w'=w):=fun w=>by rw[hb];exact zV0 m (by omega) w
 have hb8:b≤64:=by omega
 have hLi:((b:Int)+7)/8=(L:Int):=by omega
 have hmk:=zVW L (by omega);rw[hE];clear hb hDL hE hL hn hu hy
 go_enter func248,ntmps248
 go_wp2_with fail
 refine(H1.out _).mono ?_;rintro e w1 ⟨rfl,rfl⟩
 go_wp2_with fail
 refine(zHP _ 0 L L y (by omega) (Nat.le_refl _) _ (fun j hj=>⟨_,by rw[Nat.zero_add];exact zGL w1 L j hj⟩) (fun j _=>by rw[Nat.zero_add];exact zEE w1 L j)).mono ?_;rintro e w2 ⟨rfl,hP⟩;have g2:G w1 w2:=hP.keep w1 ((G.refl w1).alloc _) (Nat.le_refl _);have HB2:Hid (Bw w0 w2 x xs):=HB.out.keep g2;have HP:Hid _:=fun j d=>zMi hP j d
 have hs2:w1.heap.size<w2.heap.size:=by have:=hP.size;simp at this;omega
 have hne:x.ownBlock≠some w1.heap.size:=by
  intro he;have:=(World.ownsRow.lt HB.out.own _ he).2;omega
 have HNE:Hid _:=hne;have hs0:w0.heap.size≤w2.heap.size:=HB2.out.g.size;clear hP HB g2 H1 hne
 go_wp2_with (at_builtin;refine wpList_append_own _ rfl _ _ 33 rfl w0.heap.size 5 i0 (.int .u8 0) 1 1 underlying33 hi hz0 hz1 hz2 rfl (by decide) _ _ _ rfl (World.ownsRow.alloc HB2.out.own _) ⟨w2.heap.size,0,none⟩ 1 1 [.int .u8 (64-(L:Int))] rfl ?c0 ?c1 ?c2 ?c3 ?c4 ?c5 ?_)
 case c0=>rfl
 case c1=>
  intro j u hj
  match j,hj with
  | 0,hj=>simp at hj;subst hj;simp[Addr.add]
 case c2=>first|rfl|(intro u hu;simp at hu;subst hu;rfl)
 case c3=>unfold maxLen;omega
 case c4=>omega
 case c5=>simp;omega
 intro x1 w3 hown3 hgrow _
 have eb:(Value.int .u8 (64-(L:Int)))=bv (64-L):=by show Value.int .u8 _=Value.int .u8 _;congr 1;omega
 have HB3:Hid (Bw w0 w3 x1 (xs++[64-L])):=(HB2.out.keep ((G.refl _).alloc _)).app [64-L] 1 rfl (by rw[eb] at hown3;exact hown3) hgrow
 have HP3:Hid (∀j d,(lows L y).reverse[j]?=some d→w3.cell? ⟨w1.heap.size,j,none⟩=some (bv d)):=fun j d hj=>
  (World.cell?_of_block (hgrow.block w1.heap.size (by simp;omega) (fun e=>HNE.out e.symm))).trans ((((G.refl w2).alloc _).cell hs2).trans (HP.out j d hj))
 have hs3:w0.heap.size≤w3.heap.size:=HB3.out.g.size;clear hown3 hgrow HB2 HP HNE
 go_wp2_with (at_builtin;refine wpList_append_own _ rfl _ _ 33 rfl w0.heap.size 5 i0 (.int .u8 0) 1 1 underlying33 hi hz0 hz1 hz2 rfl (by decide) _ _ _ rfl HB3.out.own ⟨w1.heap.size,0,none⟩ L L ((lows L y).reverse.map bv) rfl ?d0 ?d1 ?d2 ?d3 ?d4 ?d5 ?_)
 case d0=>simp[zA3]
 case d1=>
  intro j u hj;rw[List.getElem?_map] at hj;obtain⟨d,hd,rfl⟩:=Option.map_eq_some_iff.1 hj;rw[zJO];exact HP3.out j d hd
 case d2=>intro u hu;obtain⟨d,_,rfl⟩:=List.mem_map.1 hu;rfl
 case d3=>unfold maxLen;simp;omega
 case d4=>simp;omega
 case d5=>exact hs3
 intro x2 w4 hown4 hgrow4 _;have HB4:Hid (Bw w0 w4 x2 ((xs++[64-L])++(lows L y).reverse)):=HB3.out.app _ L (by simp[zA3]) (by simpa using hown4) hgrow4;clear hown4 hgrow4 HB3 HP3
 go_wp2
 go_ret;exact⟨_,rfl,by have:=HB4.out;rwa [List.append_assoc,List.singleton_append] at this⟩
theorem zHa(n:Int)(h1:-9223372036854775808≤n)(h2:n≤9223372036854775807)(w0 w:World)(x:Value)(xs:List Nat)(hB:Bw w0 w x xs)(hl:xs.length≤1000) :
  Calls prog 248 #[x,.int .i64 n] w fun e w'=>∃x',e=.returned x'∧Bw w0 w' x' (xs++encW n):=by
 by_cases h:n<0
 ·exact zWX n.natAbs n (by omega) (by omega) (by omega) w0 w x xs hB hl
 ·have e:n=((n.toNat:Nat):Int):=by omega
  rw[e];exact zWW n.toNat (by omega) w0 w x xs hB hl
end
end Go.Proofs.YthmdjhfbhbheeaaGreatDoor
