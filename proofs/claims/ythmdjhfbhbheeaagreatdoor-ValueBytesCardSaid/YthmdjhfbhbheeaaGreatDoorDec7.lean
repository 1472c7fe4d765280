import Derived.Laws.BytesArg
import Derived.Lib.Bytes
import Derived.Test.YthmdjhfbhbheeaaGreatDoorDec1
namespace Go.Proofs.YthmdjhfbhbheeaaGreatDoor
open Go.Proofs.Tryz
set_option maxHeartbeats 16000000
set_option maxRecDepth 100000
section
open Go.RowKit Go.Shelf Go.PlainAid Go.Lib
def strN(xs:List Nat):ByteArray:=strOfNums (xs.map fun d:Nat=>(d:Int))
theorem zBA{w:World}{x:Value}{xs:List Nat}(h:RowB w x xs):(convert 33 9 x).run prog w=.ok (.string (strN xs)) w:=by
 obtain⟨p,cap,rfl,hcap,hc⟩:=h
 cases xs with
 | nil=>
  cases p with
  | none=>
   have e:strN []=ByteArray.empty:=rfl;rw[e];exact run_convert_bytes_nil w 33 5 underlying33 underlying5 0 cap 9 underlying9
  | some a=>
   have e:strN []=ByteArray.empty:=rfl;rw[e];have h:=run_convert_bytes_string (P:=prog) w 33 9 5 (some a) 0 cap underlying33 underlying5 underlying9;refine h.trans ?_;simp[Conv.bytesToString,loadCells,loadCellsFrom]
 | cons d xs=>
  obtain⟨g,o,rfl,hcell⟩:=hc 0 d rfl;refine run_convert_bytes_arg w 33 5 underlying33 underlying5 g o _ cap ((d::xs).map fun d:Nat=>(d:Int)) (by simp) (fun i hi=>?_) 9 underlying9;obtain⟨e,he⟩:∃e,(d::xs)[i]?=some e:=⟨_,List.getElem?_eq_getElem hi⟩;obtain⟨g',o',hp,h2⟩:=hc i e he;cases hp;rw[h2,List.getD,List.getElem?_map,he];rfl
theorem zEm(s:ByteArray):strN ((List.range s.size).map fun k=>(bt s k).toNat)=s:=by
 have h:(strN ((List.range s.size).map fun k=>(bt s k).toNat)).data.toList=s.data.toList:=by
  have e1:(strN ((List.range s.size).map fun k=>(bt s k).toNat)).data.toList=bytesOf (((List.range s.size).map fun k=>(bt s k).toNat).map fun d:Nat=>(d:Int)):=by
   rw[←strOfNums_toList];simp[strN,ByteArray.toList_eq]
  rw[e1];unfold bytesOf;apply List.ext_getElem
  ·simp
  ·intro i h1 h2
   have hi:i<s.size:=by simpa using h1
   simp only[List.getElem_map,List.getElem_range,Int.toNat_natCast];have:=get_bt s i hi;rw[←this];simp;rfl
 have h2:(strN ((List.range s.size).map fun k=>(bt s k).toNat)).data=s.data:=Array.toList_inj.1 h
 cases s;cases hs:strN _ with
 | mk d=>simp[hs] at h2;rw[h2]
def TSP(bs:List Nat)(s:ByteArray):Prop:=∀s0 rest,s0.size≤32→bs=strB s0 s0.size++(0::0::rest)→s=s0
def pre(s:ByteArray)(m:Nat):List Nat:=(List.range m).map fun k=>(bt s k).toNat
theorem zCD(s:ByteArray)(m:Nat):(pre s m).length=m:=by simp[pre]
theorem zI0(s:ByteArray)(m:Nat):pre s (m+1)=pre s m++[(bt s m).toNat]:=by simp[pre,List.range_succ]
def TPr(bs:List Nat)(i:Nat)(xs:List Nat):Prop:=∀s0 rest,s0.size≤32→bs=strB s0 s0.size++(0::0::rest)→∃m,m≤s0.size∧i=(strB s0 m).length∧xs=pre s0 m
theorem zIA(bs:List Nat):TPr bs 0 []:=fun _ _ _ _=>⟨0,Nat.zero_le _,rfl,rfl⟩
theorem zFa(s:ByteArray)(m n:Nat)(h:m≤n):∃t,strB s n=strB s m++t:=by
 induction n with
 | zero=>exact⟨[],by
             have:m=0:=by omega
             subst this;simp⟩
 | succ n ih=>
  by_cases e:m=n+1
  ·subst e;exact⟨[],by simp⟩
  ·obtain⟨t,ht⟩:=ih (by omega)
   by_cases hz:bt s n=0
   ·exact⟨t++[0,255],by rw[zBL s n hz,ht,List.append_assoc]⟩
   ·exact⟨t++[(bt s n).toNat],by rw[zBk s n hz,ht,List.append_assoc]⟩
theorem zLt{bs rest:List Nat}{s0:ByteArray}{m:Nat}(he:bs=strB s0 s0.size++(0::0::rest))(hm:m≤s0.size) :
  (m<s0.size∧bt s0 m=0∧bs[(strB s0 m).length]?=some 0∧bs[(strB s0 m).length+1]?=some 255∧(strB s0 (m+1)).length=(strB s0 m).length+2)
  ∨ (m<s0.size∧bt s0 m≠0∧bs[(strB s0 m).length]?=some (bt s0 m).toNat∧(strB s0 (m+1)).length=(strB s0 m).length+1)
  ∨ (m=s0.size∧bs[(strB s0 m).length]?=some 0∧bs[(strB s0 m).length+1]?=some 0):=by
 by_cases h:m<s0.size
 ·obtain⟨t,ht⟩:=zFa s0 (m+1) s0.size h
  by_cases hz:bt s0 m=0
  ·refine .inl ⟨h,hz,?_,?_,by rw[zBL s0 m hz];simp⟩
   iterate 2
    ·rw[he,ht,zBL s0 m hz];simp
  ·refine .inr (.inl ⟨h,hz,?_,by rw[zBk s0 m hz];simp⟩)
   rw[he,ht,zBk s0 m hz];simp
 ·have e:m=s0.size:=by omega
  subst e;refine .inr (.inr ⟨rfl,?_,?_⟩)
  iterate 2
   ·rw[he];simp
theorem zIB{bs:List Nat}{i d:Nat}{xs:List Nat}(h:TPr bs i xs)(hd:bs[i]?=some d)(h0:d≠0):TPr bs (i+1) (xs++[d]):=by
 intro s0 rest hs he;obtain⟨m,hm,rfl,rfl⟩:=h s0 rest hs he
 rcases zLt he hm with ⟨_,_,h1,_⟩|⟨hlt,hz,h1,h2⟩|⟨_,h1,_⟩
 ·rw[hd] at h1;cases h1;exact absurd rfl h0
 ·rw[hd] at h1;cases h1
  exact⟨m+1,hlt,h2.symm,(zI0 s0 m).symm⟩
 ·rw[hd] at h1;cases h1;exact absurd rfl h0
theorem zLm{bs:List Nat}{i d:Nat}{xs:List Nat}(h:TPr bs i xs)(hd:bs[i]?=some 0)(hd1:bs[i+1]?=some d)(h0:d≠0):TPr bs (i+2) (xs++[0]):=by
 intro s0 rest hs he;obtain⟨m,hm,rfl,rfl⟩:=h s0 rest hs he
 rcases zLt he hm with ⟨hlt,hz,h1,_,h2⟩|⟨hlt,hz,h1,_⟩|⟨_,h1,h2⟩
 ·exact⟨m+1,hlt,h2.symm,by rw[zI0,hz];rfl⟩
 ·rw[hd] at h1
  have:=bt_nonneg s0 m;have h3:=Option.some.inj h1;omega
 ·rw[hd1] at h2;cases h2;exact absurd rfl h0
theorem zD6{bs:List Nat}{i:Nat}{xs:List Nat}(h:TPr bs i xs)(hd:bs[i]?=some 0)(hd1:bs[i+1]?≠some 255):TSP bs (strN xs):=by
 intro s0 rest hs he;obtain⟨m,hm,rfl,rfl⟩:=h s0 rest hs he
 rcases zLt he hm with ⟨_,_,_,h1,_⟩|⟨_,hz,h1,_⟩|⟨rfl,_,_⟩
 ·exact absurd h1 hd1
 ·rw[hd] at h1
  have:=bt_nonneg s0 m;have h3:=Option.some.inj h1;omega
 ·exact zEm s0
theorem zLn{bs:List Nat}{i:Nat}{xs:List Nat}(h:TPr bs i xs)(hd:bs.length≤i∨32≤xs.length):TSP bs (strN xs):=by
 intro s0 rest hs he;obtain⟨m,hm,rfl,rfl⟩:=h s0 rest hs he
 rcases hd with hd|hd
 ·exfalso
  obtain⟨t,ht⟩:=zFa s0 m s0.size hm;rw[he,ht] at hd;simp at hd;omega
 ·rw[zCD] at hd
  have e:m=s0.size:=by omega
  subst e;exact zEm s0
end
section
open Go.RowKit Go.Shelf Go.PlainAid Go.Lib
theorem zQX(x:Value)(bs:List Nat)(w:World)(hx:RowB w x bs)(hl:bs.length≤140737488355328) :
  Calls prog 139 #[x] w fun e w'=>∃xs,e=.returned (.string (strN xs))∧xs.length≤32∧TSP bs (strN xs)∧G w w':=by
 obtain⟨i0,hi,hz0,hz1,hz2⟩:=info_parts zAW;obtain⟨p,cap,rfl,hcap,hc⟩:=hx;have HC:Hid _:=hc;clear hc
 go_enter func139,ntmps139
 go_wp2
 go_loopw [3,4] (fun y k W=>∃(i:Nat) (xs:List Nat),i≤bs.length∧k=.int .i64 i∧xs.length≤32∧TPr bs i xs∧Bw w W y xs) (fun _ k _=>bs.length-(RowKit.intOf k).toNat)
 case atStart=>exact⟨0,[],Nat.zero_le _,rfl,by simp,zIA bs,Bw.nil w w (G.refl w)⟩
 case round=>
  obtain⟨i,xs,hi',rfl,hx32,hp,hB⟩:=hrel;have hsz:=hB.g.size;have HB:Hid (Bw w wr u3 xs):=hB;have HP:Hid _:=hp;obtain⟨q3,c3,e3,_,_⟩:=hB.row;clear hB hp
  by_cases hlt:i<bs.length
  ·have hii:(i:Int)<(bs.length:Int):=by omega
   by_cases h32:xs.length<32
   ·have h32i:(xs.length:Int)<32:=by omega
    obtain⟨d,hd⟩:∃d,bs[i]?=some d:=⟨_,List.getElem?_eq_getElem hlt⟩;obtain⟨g,o,rfl,hcell⟩:=HC.out i d hd;have hc1:wr.cell? ⟨g,o+i,none⟩=some (bv d):=(HB.out.g.cell (zAj hcell)).trans hcell
    by_cases hd0:d=0
    ·subst hd0
     by_cases hl1:i+1<bs.length
     ·have hl1i:((i:Int)+1==(bs.length:Int))=false:=by simp;omega
      have hl1j:(i:Int)+1<(bs.length:Int):=by omega
      obtain⟨d1,hd1⟩:∃d,bs[i+1]?=some d:=⟨_,List.getElem?_eq_getElem hl1⟩;obtain⟨g',o',hpp,hcell1⟩:=HC.out (i+1) d1 hd1
      obtain⟨rfl,rfl⟩:g=g'∧o=o':=by cases hpp;exact⟨rfl,rfl⟩
      have hc2:wr.cell? ⟨g,o+(i+1),none⟩=some (bv d1):=(HB.out.g.cell (zAj hcell1)).trans hcell1
      by_cases hd1z:d1=0
      ·subst hd1z
       have HTT:Hid (TSP bs (strN xs)):=zD6 HP.out hd (by rw[hd1];simp);subst e3;clear hcell hcell1;have hcv:∀W,G wr W→(convert 33 9 _).run prog W=.ok (.string (strN xs)) W:=fun W g=>zBA (HB.out.row.G g);have hcv0:=hcv wr (G.refl wr);have HT:Hid (TSP bs (strN xs)):=HTT.out;have HG:Hid (G w wr):=HB.out.g;clear HB hcv
       go_wp2
       go_ret;exact⟨xs,rfl,hx32,HT.out,HG.out⟩
      ·have HPP:Hid _:=zLm HP.out hd hd1 hd1z
       have hd1n:((d1:Int)==0)=false:=by simp;omega
       subst e3;clear hcell hcell1
       go_wp2_with (at_builtin;refine wpList_append_own _ rfl _ _ 33 rfl w.heap.size 5 i0 (.int .u8 0) 1 1 underlying33 hi hz0 hz1 hz2 rfl (by decide) _ _ _ rfl (World.ownsRow.alloc HB.out.own _) ⟨wr.heap.size,0,none⟩ 1 1 [bv 0] rfl ?c0 ?c1 ?c2 ?c3 ?c4 ?c5 ?_)
       case c1=>
        intro j u hj
        match j,hj with
        | 0,hj=>simp at hj;subst hj;(first|(simp;done)|(simp[Addr.add];done))
       case c2=>first|rfl|(intro u hu;simp at hu;subst hu;rfl)
       case c3=>unfold maxLen;(first|omega|(simp;omega))
       case c4=>(first|omega|(simp;omega))
       case c5=>(first|omega|(simp;omega))
       intro x2 w2 hown hgrow _;have HB2:Hid (Bw w w2 x2 (xs++[0])):=(HB.out.keep ((G.refl _).alloc _)).app [0] 1 rfl (by simpa using hown) hgrow;clear hown hgrow HB
       go_wp2
       go_roundw
       case rel=>exact⟨i+2,xs++[0],by omega,by go_num,by simp;omega,HPP.out,HB2.out⟩
       case measure=>simp[RowKit.intOf];omega
     ·have HTT:Hid (TSP bs (strN xs)):=zD6 HP.out hd (by rw[List.getElem?_eq_none (by omega)];simp)
      have hl1i:(i:Int)+1=(bs.length:Int):=by omega
      subst e3;clear hcell;have hcv:∀W,G wr W→(convert 33 9 _).run prog W=.ok (.string (strN xs)) W:=fun W g=>zBA (HB.out.row.G g);have hcv0:=hcv wr (G.refl wr);have HT:Hid (TSP bs (strN xs)):=HTT.out;have HG:Hid (G w wr):=HB.out.g;clear HB hcv
      go_wp2
      go_ret;exact⟨xs,rfl,hx32,HT.out,HG.out⟩
    ·have HPP:Hid _:=zIB HP.out hd hd0
     have hd0n:((d:Int)==0)=false:=by simp;omega
     subst e3;clear hcell
     go_wp2_with (at_builtin;refine wpList_append_own _ rfl _ _ 33 rfl w.heap.size 5 i0 (.int .u8 0) 1 1 underlying33 hi hz0 hz1 hz2 rfl (by decide) _ _ _ rfl (World.ownsRow.alloc HB.out.own _) ⟨wr.heap.size,0,none⟩ 1 1 [bv d] rfl ?c0 ?c1 ?c2 ?c3 ?c4 ?c5 ?_)
     case c1=>
      intro j u hj
      match j,hj with
      | 0,hj=>simp at hj;subst hj;(first|(simp;done)|(simp[Addr.add];done))
     case c2=>first|rfl|(intro u hu;simp at hu;subst hu;rfl)
     case c3=>unfold maxLen;(first|omega|(simp;omega))
     case c4=>(first|omega|(simp;omega))
     case c5=>(first|omega|(simp;omega))
     intro x2 w2 hown hgrow _;have HB2:Hid (Bw w w2 x2 (xs++[d])):=(HB.out.keep ((G.refl _).alloc _)).app [d] 1 rfl (by simpa using hown) hgrow;clear hown hgrow HB
     go_wp2
     go_roundw
     case rel=>exact⟨i+1,xs++[d],by omega,by go_num,by simp;omega,HPP.out,HB2.out⟩
     case measure=>simp[RowKit.intOf];omega
   ·have h32i:¬(xs.length:Int)<32:=by omega
    subst e3;have hcv:∀W,G wr W→(convert 33 9 _).run prog W=.ok (.string (strN xs)) W:=fun W g=>zBA (HB.out.row.G g);have hcv0:=hcv wr (G.refl wr);have HT:Hid (TSP bs (strN xs)):=zLn HP.out (.inr (by omega));have HG:Hid (G w wr):=HB.out.g;clear HB hcv
    go_wp2
    go_ret;exact⟨xs,rfl,hx32,HT.out,HG.out⟩
  ·have hii:¬(i:Int)<(bs.length:Int):=by omega
   subst e3;have hcv:∀W,G wr W→(convert 33 9 _).run prog W=.ok (.string (strN xs)) W:=fun W g=>zBA (HB.out.row.G g);have hcv0:=hcv wr (G.refl wr);have HT:Hid (TSP bs (strN xs)):=zLn HP.out (.inl (by omega));have HG:Hid (G w wr):=HB.out.g;clear HB hcv
   go_wp2
   go_ret;exact⟨xs,rfl,hx32,HT.out,HG.out⟩
end
section
open Go.RowKit Go.Shelf Go.PlainAid Go.Lib
theorem zTP(x:Value)(ts:List Nat)(w:World)(hx:RowB w x ts)(hl:ts.length≤140737488355328)(h:ts[0]?=some 1):CG 138 #[x] w (V 1 1 0 E0):=by
 obtain⟨p,cap,rfl,hcap,hc⟩:=hx;obtain⟨g,o,rfl,hcell⟩:=hc 0 1 h;rw[Nat.add_zero] at hcell
 have hlt:(0:Int)<(ts.length:Int):=by have:=(List.getElem?_eq_some_iff.1 h).1;omega
 have hz:g<w.heap.size:=zAj hcell;clear hc h
 go_enter func138,ntmps138
 go_wp2
 exact bodyPost_ret (v:=V 1 1 0 E0) (by simp[results,results138,go_sem]) rfl ⟨rfl,by repeat(first|exact G.refl _|assumption|refine G.alloc ?_ _|refine G.drew ?_|refine G.setCell ?_ (by simp) _|refine G.trans ?_ (by assumption))⟩
theorem zTR(p:Option Addr)(cap:Nat)(w:World):CG 138 #[.slice p 0 cap] w (V 1 0 0 E0):=by
 go_enter func138,ntmps138
 go_wp2
 exact bodyPost_ret (v:=V 1 0 0 E0) (by simp[results,results138,go_sem]) rfl ⟨rfl,by repeat(first|exact G.refl _|assumption|refine G.alloc ?_ _|refine G.drew ?_|refine G.setCell ?_ (by simp) _|refine G.trans ?_ (by assumption))⟩
theorem zTQ(x:Value)(ts:List Nat)(w:World)(hx:RowB w x ts)(hl:ts.length≤140737488355328)(d:Nat)(h:ts[0]?=some d)(hd:d≠1):CG 138 #[x] w (V 1 0 0 E0):=by
 obtain⟨p,cap,rfl,hcap,hc⟩:=hx;obtain⟨g,o,rfl,hcell⟩:=hc 0 d h;rw[Nat.add_zero] at hcell
 have hlt:(0:Int)<(ts.length:Int):=by have:=(List.getElem?_eq_some_iff.1 h).1;omega
 have hz:g<w.heap.size:=zAj hcell
 have hdn:((d:Int)==1)=false:=by simp;omega
 clear hc h hd
 go_enter func138,ntmps138
 go_wp2
 exact bodyPost_ret (v:=V 1 0 0 E0) (by simp[results,results138,go_sem]) rfl ⟨rfl,by repeat(first|exact G.refl _|assumption|refine G.alloc ?_ _|refine G.drew ?_|refine G.setCell ?_ (by simp) _|refine G.trans ?_ (by assumption))⟩
theorem zNu(x:Value)(ts:List Nat)(w:World)(hx:RowB w x ts)(hl:ts.length≤140737488355328):CG 138 #[x] w (V 1 (if ts[0]?=some 1 then 1 else 0) 0 E0):=by
 cases h:ts[0]? with
 | none=>
  obtain⟨p,cap,rfl,hcap,hc⟩:=hx
  have e:ts.length=0:=by have:=List.getElem?_eq_none_iff.1 h;omega
  rw[e];exact zTR p cap w
 | some d=>
  by_cases hd:d=1
  ·subst hd;exact zTP x ts w hx hl h
  ·rw[if_neg (by simp;exact hd)];exact zTQ x ts w hx hl d h hd
theorem zDs{w:World}{g o n cap:Nat}{ts:List Nat}(h:RowB w (.slice (some ⟨g,o,none⟩) n cap) ts)(hn:0<ts.length)(_hc1:¬cap=1):RowB w (.slice (some ⟨g,o+1,none⟩) (n-1) (cap-1)) (ts.drop 1):=by
 obtain⟨p,cap',he,hcap,hc⟩:=h;cases he
 exact zFM hcap hn fun i d hi=>by
  obtain⟨g',o',h1,h2⟩:=hc i d hi;cases h1;exact h2
theorem zCz{w:World}{g o n:Nat}{ts:List Nat}(h:RowB w (.slice (some ⟨g,o,none⟩) n 1) ts)(hn:0<ts.length):n=1∧RowB w (.slice (some ⟨g,o,none⟩) 0 0) (ts.drop 1):=by
 obtain⟨p,cap',he,hcap,hc⟩:=h;cases he;refine⟨by omega,?_⟩;rw[List.drop_of_length_le (by omega)];exact⟨_,0,rfl,Nat.le_refl _,fun i d h=>by simp at h⟩
def GNP(bs:List Nat)(k a b:Int)(s:ByteArray):Prop:=
 (∀a0 rest,R64 a0→bs=(encW a0++[0])++rest→k=2∧a=a0∧b=0∧s=E0)∧(∀a0 b0 rest,R64 a0→R64 b0→bs=((encW a0++[1])++encW b0)++rest→k=3∧a=a0∧b=b0∧s=E0)
theorem zNt{bs ts:List Nat}{n:Int}(h:TWP bs n ts)(h1:ts[0]?≠some 1):GNP bs 2 n 0 E0:=by
 refine⟨fun a0 rest hr he=>?_,fun a0 b0 rest hr _ he=>?_⟩
 ·obtain⟨rfl,_⟩:=h a0 ([0]++rest) hr (by rw[he,List.append_assoc])
  exact⟨rfl,rfl,rfl,rfl⟩
 ·obtain⟨_,rfl⟩:=h a0 ([1]++(encW b0++rest)) hr (by rw[he];simp)
  exact absurd rfl h1
theorem zJk{bs ts us:List Nat}{n m:Int}(h:TWP bs n ts)(h1:ts[0]?=some 1)(h2:TWP (ts.drop 1) m us):GNP bs 3 n m E0:=by
 refine⟨fun a0 rest hr he=>?_,fun a0 b0 rest hr hr2 he=>?_⟩
 ·obtain⟨_,rfl⟩:=h a0 ([0]++rest) hr (by rw[he,List.append_assoc])
  cases h1
 ·obtain⟨rfl,rfl⟩:=h a0 ([1]++(encW b0++rest)) hr (by rw[he];simp)
  obtain⟨rfl,_⟩:=h2 b0 rest hr2 rfl;exact⟨rfl,rfl,rfl,rfl⟩
def GNA(bs:List Nat)(w:World)(e:Ending)(w':World):Prop:=∃(k a b:Int),e=.returned (V k a b E0)∧R64 a∧R64 b∧GNP bs k a b E0∧G w w'
theorem zWn(x:Value)(bs:List Nat)(w:World)(hx:RowB w x bs)(hb:∀d∈bs,d<256)(hl:bs.length≤140737488355328):Calls prog 141 #[x] w (GNA bs w):=by
 have H1:Hid (∀W,G w W→Calls prog 140 #[x] W (TWA bs W)):=fun W g=>zEk x bs W (hx.G g) hb hl;clear hx
 go_enter func141,ntmps141
 go_wp2_with fail
 refine(H1.out _ ((G.refl w).alloc _)).mono ?_;rintro e w1 ⟨n,t,ts,rfl,hn,hrow,htw,hts,htl,hb1⟩;have hrow1:=hrow.G hb1
 have hz1:w.heap.size<w1.heap.size:=by have:=hb1.size;simp at this;omega
 have hb1':=hb1;have hc1:∀o,w1.cell? {block:=w.heap.size,off:=o}=[I 0,I 0,I 0,.string E0][o]?:=G.cells hb1 (by simp) (by simp);have hf1:∀o,w1.frozen? {block:=w.heap.size,off:=o}=false:=G.frozens hb1 (by simp) (by simp);have HG:Hid (G w w1):=((G.refl w).alloc _).trans hb1;have HTW:Hid _:=htw;clear hrow hb1 hb1' htw H1
 by_cases h1:ts[0]?=some 1
 ·have hpos:=(List.getElem?_eq_some_iff.1 h1).1
  have hposi:(0:Int)<(ts.length:Int):=by omega
  have hrow2:=hrow1;obtain⟨p,cap,rfl,hcap,hc⟩:=hrow1;obtain⟨g,o,rfl,hcell⟩:=hc 0 1 h1;rw[Nat.add_zero] at hcell;clear hc
  by_cases hcp:cap=1
  ·subst hcp
   obtain⟨hl1,hrt⟩:=zCz hrow2 hpos;have H2:Hid (∀W,G w1 W→Calls prog 140 #[.slice (some ⟨g,o,none⟩) 0 0] W (TWA (ts.drop 1) W)):=fun W g=>zEk _ _ W (hrt.G g) (fun d hd=>hts d (List.mem_of_mem_drop hd)) (by rw[List.length_drop];omega);have HH1:Hid _:=h1;rw[hl1];clear hrow2 hrt hcap h1
   go_wp2_with fail
   refine(H2.out _ (by repeat(first|exact G.refl _|refine G.drew ?_))).mono ?_;rintro e w2 ⟨m,t2,us,rfl,hm,_,htw2,_,_,hb2⟩;have hz2:w1.heap.size≤w2.heap.size:=hb2.size;have hc2:∀o,w2.cell? {block:=w.heap.size,off:=o}=[I 0,I 0,I 0,.string E0][o]?:=G.cells hb2 hc1 hz1;have hf2:∀o,w2.frozen? {block:=w.heap.size,off:=o}=false:=G.frozens hb2 hf1 hz1;have HP:Hid (GNP bs 3 n m E0):=zJk HTW.out HH1.out htw2;have HG2:Hid (G w w2):=HG.out.trans hb2;clear hb2 htw2 HG H2
   go_wp2
   exact bodyPost_ret (v:=V 3 n m E0) (by simp[results,results141,go_sem,hc2]) rfl ⟨3,n,m,rfl,hn,hm,HP.out,by repeat(first|exact G.refl _|assumption|exact HG2.out|refine G.alloc ?_ _|refine G.drew ?_|refine G.setCell ?_ (by simp) _|refine G.trans ?_ (by assumption))⟩
  ·have hrt:=zDs hrow2 hpos hcp
   have H2:Hid (∀W,G w1 W→Calls prog 140 #[.slice (some ⟨g,o+1,none⟩) (ts.length-1) (cap-1)] W (TWA (ts.drop 1) W)):=fun W g=>zEk _ _ W (hrt.G g) (fun d hd=>hts d (List.mem_of_mem_drop hd)) (by rw[List.length_drop];omega);have HH1:Hid _:=h1;clear hrow2 hrt h1
   go_wp2_with fail
   refine(H2.out _ (by repeat(first|exact G.refl _|refine G.drew ?_))).mono ?_;rintro e w2 ⟨m,t2,us,rfl,hm,_,htw2,_,_,hb2⟩;have hz2:w1.heap.size≤w2.heap.size:=hb2.size;have hc2:∀o,w2.cell? {block:=w.heap.size,off:=o}=[I 0,I 0,I 0,.string E0][o]?:=G.cells hb2 hc1 hz1;have hf2:∀o,w2.frozen? {block:=w.heap.size,off:=o}=false:=G.frozens hb2 hf1 hz1;have HP:Hid (GNP bs 3 n m E0):=zJk HTW.out HH1.out htw2;have HG2:Hid (G w w2):=HG.out.trans hb2;clear hb2 htw2 HG H2
   go_wp2
   exact bodyPost_ret (v:=V 3 n m E0) (by simp[results,results141,go_sem,hc2]) rfl ⟨3,n,m,rfl,hn,hm,HP.out,by repeat(first|exact G.refl _|assumption|exact HG2.out|refine G.alloc ?_ _|refine G.drew ?_|refine G.setCell ?_ (by simp) _|refine G.trans ?_ (by assumption))⟩
 ·have HH1:Hid _:=h1
  have HP:Hid (GNP bs 2 n 0 E0):=zNt HTW.out HH1.out
  cases h0:ts[0]? with
  | none=>
   obtain⟨p,cap,rfl,hcap,hc⟩:=hrow1
   have e:ts.length=0:=by have:=List.getElem?_eq_none_iff.1 h0;omega
   rw[e];clear hc hcap h0 h1
   go_wp2
   exact bodyPost_ret (v:=V 2 n 0 E0) (by simp[results,results141,go_sem,hc1]) rfl ⟨2,n,0,rfl,hn,by unfold R64;omega,HP.out,by repeat(first|exact G.refl _|assumption|exact HG.out|refine G.alloc ?_ _|refine G.drew ?_|refine G.setCell ?_ (by simp) _|refine G.trans ?_ (by assumption))⟩
  | some d=>
   obtain⟨p,cap,rfl,hcap,hc⟩:=hrow1;obtain⟨g,o,rfl,hcell⟩:=hc 0 d h0;rw[Nat.add_zero] at hcell;have hpos:=(List.getElem?_eq_some_iff.1 h0).1
   have hposi:(0:Int)<(ts.length:Int):=by omega
   have hd1:d≠1:=fun e=>h1 (by rw[h0,e])
   have hdn:((d:Int)==1)=false:=by simp;omega
   clear hc h0 h1 hd1
   go_wp2
   exact bodyPost_ret (v:=V 2 n 0 E0) (by simp[results,results141,go_sem,hc1]) rfl ⟨2,n,0,rfl,hn,by unfold R64;omega,HP.out,by repeat(first|exact G.refl _|assumption|exact HG.out|refine G.alloc ?_ _|refine G.drew ?_|refine G.setCell ?_ (by simp) _|refine G.trans ?_ (by assumption))⟩
end
section
open Go.RowKit Go.Shelf Go.PlainAid Go.Lib
theorem isE(s:ByteArray)(h:s.toList.isEmpty=true):s=E0:=by
 have h1:s.data.toList=[]:=by
  have:=List.isEmpty_iff.1 h
  rwa [ByteArray.toList_eq] at this
 cases s with
 | mk d=>simp at h1;subst h1;rfl
def zAu(bs:List Nat)(k a b:Int)(s:ByteArray):Prop:=
 ∀k0 a0 b0 s0 rest,okV k0 a0 b0 s0=true→R64 a0→R64 b0→bs=encV k0 a0 b0 s0++rest→k=k0∧a=a0∧b=b0∧s=s0
theorem zF5(k a b:Int)(s:ByteArray)(h:okV k a b s=true)(ha:R64 a):∃c t,encV k a b s=c::t∧((k=0∧c=80)∨(k=1∧c=48)∨(k=4∧c=32)∨(k=5∧c=16)∨(k=6∧c=17)∨((k=2∨k=3)∧56≤c∧c≤72)):=by
 have hw:∃c t,encW a=c::t∧56≤c∧c≤72:=by
  have:=zDh a ha.1 ha.2;refine⟨_,_,rfl,?_,?_⟩<;>split<;>omega
 obtain⟨c,t,hw,h1,h2⟩:=hw
 rcases zGG h with rfl|rfl|rfl|rfl|rfl|rfl|rfl
 ·exact⟨80,[],rfl,by simp⟩
 ·exact⟨48,[a.toNat],rfl,by simp⟩
 ·refine⟨c,t++[0],?_,by simp;omega⟩
  show encW a++[0]=_;rw[hw];rfl
 ·refine⟨c,t++[1]++encW b,?_,by simp;omega⟩
  show(encW a++[1])++encW b=_;rw[hw];simp
 ·exact⟨32,strB s s.size++[0,0],rfl,by simp⟩
 ·exact⟨16,encW a,rfl,by simp⟩
 ·exact⟨17,encW a,rfl,by simp⟩
theorem zDQ{bs rest:List Nat}{k a b:Int}{s:ByteArray}{d:Nat}(h:okV k a b s=true)(ha:R64 a)(he:bs=encV k a b s++rest)(hd:bs[0]?=some d) :
  (k=0∧d=80)∨(k=1∧d=48)∨(k=4∧d=32)∨(k=5∧d=16)∨(k=6∧d=17)∨((k=2∨k=3)∧56≤d∧d≤72):=by
 obtain⟨c,t,h1,h2⟩:=zF5 k a b s h ha;rw[he,h1] at hd;cases hd;exact h2
theorem g80{bs:List Nat}(hd:bs[0]?=some 80):zAu bs 0 0 0 E0:=by
 intro k0 a0 b0 s0 rest hok ha hb he
 have hk:k0=0:=by have:=zDQ hok ha he hd;omega
 subst hk;simp[okV,Bool.and_eq_true] at hok;exact⟨rfl,hok.1.1.symm,hok.1.2.symm,(isE s0 (List.isEmpty_iff.2 hok.2)).symm⟩
theorem g48{bs:List Nat}(hd:bs[0]?=some 48):zAu bs 1 (if (bs.drop 1)[0]?=some 1 then 1 else 0) 0 E0:=by
 intro k0 a0 b0 s0 rest hok ha hb he
 have hk:k0=1:=by have:=zDQ hok ha he hd;omega
 subst hk;have he':bs=48::a0.toNat::rest:=he;simp[okV,Bool.and_eq_true] at hok;refine⟨rfl,?_,hok.1.2.symm,(isE s0 (List.isEmpty_iff.2 hok.2)).symm⟩;rw[he']
 rcases hok.1.1 with rfl|rfl<;>simp
theorem g32{bs:List Nat}{s:ByteArray}(hd:bs[0]?=some 32)(h:TSP (bs.drop 1) s):zAu bs 4 0 0 s:=by
 intro k0 a0 b0 s0 rest hok ha hb he
 have hk:k0=4:=by have:=zDQ hok ha he hd;omega
 subst hk
 have he':bs=32::(strB s0 s0.size++(0::0::rest)):=by rw[he];simp[encV]
 simp[okV,Bool.and_eq_true] at hok;exact⟨rfl,hok.1.1.1.symm,hok.1.1.2.symm,h s0 rest hok.1.2 (by rw[he'];rfl)⟩
theorem gid{bs ts:List Nat}{n:Int}{c:Nat}{k:Int}(hck:(c=16∧k=5)∨(c=17∧k=6))(hd:bs[0]?=some c)(h:TWP (bs.drop 1) n ts):zAu bs k n 0 E0:=by
 intro k0 a0 b0 s0 rest hok ha hb he
 have hk:k0=k:=by have:=zDQ hok ha he hd;omega
 subst hk
 have he':bs=c::(encW a0++rest):=by
  rcases hck with ⟨rfl,rfl⟩|⟨rfl,rfl⟩<;>rw[he]<;>simp[encV]
 have hok':b0=0∧s0=E0:=by
  rcases hck with ⟨rfl,rfl⟩|⟨rfl,rfl⟩<;>(simp[okV,Bool.and_eq_true] at hok;exact⟨hok.1.2,isE s0 (List.isEmpty_iff.2 hok.2)⟩)
 exact⟨rfl,(h a0 rest ha (by rw[he'];rfl)).1,hok'.1.symm,hok'.2.symm⟩
theorem gnum{bs:List Nat}{k a b:Int}{d:Nat}(hd:bs[0]?=some d)(hne:d≠80∧d≠48∧d≠32∧d≠16∧d≠17)(h:GNP bs k a b E0):zAu bs k a b E0:=by
 intro k0 a0 b0 s0 rest hok ha hb he
 have hk:k0=2∨k0=3:=by have:=zDQ hok ha he hd;omega
 rcases hk with rfl|rfl
 ·simp[okV,Bool.and_eq_true] at hok
  obtain⟨h1,h2,h3,_⟩:=h.1 a0 rest ha he;exact⟨h1,h2,by rw[h3,hok.1],(isE s0 (List.isEmpty_iff.2 hok.2)).symm⟩
 ·simp[okV,Bool.and_eq_true] at hok
  obtain⟨h1,h2,h3,_⟩:=h.2 a0 b0 rest ha hb he;exact⟨h1,h2,h3,(isE s0 (List.isEmpty_iff.2 hok.2)).symm⟩
theorem gnil{bs:List Nat}(hd:bs.length=0):zAu bs 0 0 0 E0:=by
 intro k0 a0 b0 s0 rest hok ha hb he;obtain⟨c,t,h1,_⟩:=zF5 k0 a0 b0 s0 hok ha;rw[he,h1] at hd;simp at hd
theorem zCx(xs:List Nat):(strN xs).size=xs.length:=by
 have e:(strN xs).toList=bytesOf (xs.map fun d:Nat=>(d:Int)):=strOfNums_toList _
 have h2:(strN xs).toList.length=(strN xs).size:=by rw[ByteArray.toList_eq];simp
 rw[←h2,e];simp[bytesOf]
def GBA(bs:List Nat)(w:World)(e:Ending)(w':World):Prop:=∃(k a b:Int) (s:ByteArray),e=.returned (V k a b s)∧R64 a∧R64 b∧s.size≤4611686018427387904∧zAu bs k a b s∧G w w'
theorem R0:R64 0:=by unfold R64;omega
theorem zWq(p:Option Addr)(cap:Nat)(bs:List Nat)(w:World)(h0:bs.length=0):Calls prog 103 #[.slice p bs.length cap] w (GBA bs w):=by
 have HP:Hid (zAu bs 0 0 0 E0):=gnil h0;rw[h0]
 go_enter func103,ntmps103
 go_wp2
 exact bodyPost_ret (v:=V 0 0 0 E0) (by simp[results,results103,go_sem]) rfl ⟨0,0,0,E0,rfl,R0,R0,by decide,HP.out,by repeat(first|exact G.refl _|assumption|refine G.alloc ?_ _|refine G.drew ?_|refine G.setCell ?_ (by simp) _)⟩
theorem zX3(g o cap:Nat)(bs:List Nat)(w:World)(_hcap:bs.length≤cap)(_hb:∀d∈bs,d<256)(_hl:bs.length≤140737488355328)(hlen:0<bs.length)(hrow:RowB w (.slice (some ⟨g,o,none⟩) bs.length cap) bs)(hd:bs[0]?=some 80):Calls prog 103 #[.slice (some ⟨g,o,none⟩) bs.length cap] w (GBA bs w):=by
 have HP:Hid (zAu bs 0 0 0 E0):=g80 hd;have hne:((bs.length:Int)==0)=false:=beq_false_of_ne (by omega)
 have hlti:(0:Int)<(bs.length:Int):=by omega
 have hcell:w.cell? ⟨g,o,none⟩=some (bv 80):=by
  obtain⟨p,cap',he,_,hc⟩:=hrow;cases he;obtain⟨g',o',h1,h2⟩:=hc 0 80 hd;cases h1;exact h2
 have hgz:g<w.heap.size:=zAj hcell;clear hrow hd _hb
 go_enter func103,ntmps103
 go_wp2
 exact bodyPost_ret (v:=V 0 0 0 E0) (by simp[results,results103,go_sem]) rfl ⟨0,0,0,E0,rfl,R0,R0,by decide,HP.out,by repeat(first|exact G.refl _|assumption|refine G.alloc ?_ _|refine G.drew ?_|refine G.setCell ?_ (by simp) _)⟩
theorem zWt(g o:Nat)(bs:List Nat)(w:World)(_hb:∀d∈bs,d<256)(_hl:bs.length≤140737488355328)(hlen:0<bs.length)(hrow:RowB w (.slice (some ⟨g,o,none⟩) bs.length 1) bs)(hd:bs[0]?=some 48):Calls prog 103 #[.slice (some ⟨g,o,none⟩) bs.length 1] w (GBA bs w):=by
 obtain⟨hl1,hrt⟩:=zCz hrow hlen;have hne:((bs.length:Int)==0)=false:=beq_false_of_ne (by omega)
 have hlti:(0:Int)<(bs.length:Int):=by omega
 have hcell:w.cell? ⟨g,o,none⟩=some (bv 48):=by
  obtain⟨p,cap',he,_,hc⟩:=hrow;cases he;obtain⟨g',o',h1,h2⟩:=hc 0 48 hd;cases h1;exact h2
 have hgz:g<w.heap.size:=zAj hcell;have hbt:∀d∈bs.drop 1,d<256:=fun d hd=>_hb d (List.mem_of_mem_drop hd)
 have hlt:(bs.drop 1).length≤140737488355328:=by rw[List.length_drop];omega
 have hlt':(bs.drop 1).length≤bs.length:=by rw[List.length_drop];omega
 have H1:Hid (∀W,G w W→CG 138 #[.slice (some ⟨g,o,none⟩) 0 0] W (V 1 (if (bs.drop 1)[0]?=some 1 then 1 else 0) 0 E0)):=fun W g=>zNu _ _ W (hrt.G g) hlt;have HD:Hid _:=hd;obtain⟨q,hq⟩:∃q:Int,q=if (bs.drop 1)[0]?=some 1 then 1 else 0:=⟨_,rfl⟩;rw[←hq] at H1
 have HQ:Hid (zAu bs 1 q 0 E0):=by rw[hq];exact g48 hd
 have hqr:R64 q:=by rw[hq];split<;>(unfold R64;omega)
 have HQR:Hid (R64 q):=hqr;clear hq hqr;rw[hl1];clear hrow hrt hd _hb hbt hlt
 go_enter func103,ntmps103
 go_wp2_with fail
 refine(H1.out _ ((G.refl w).alloc _)).mono ?_;rintro e w1 ⟨rfl,hb1⟩;have hc1:∀o,w1.cell? {block:=w.heap.size,off:=o}=[I 0,I 0,I 0,.string E0][o]?:=G.cells hb1 (by simp) (by simp);have hf1:∀o,w1.frozen? {block:=w.heap.size,off:=o}=false:=G.frozens hb1 (by simp) (by simp);have HG:Hid (G w w1):=((G.refl w).alloc _).trans hb1;have HP:Hid (zAu bs 1 (q) 0 E0):=HQ.out;clear hb1 H1
 go_wp2
 exact bodyPost_ret (v:=V 1 (q) 0 E0) (by simp[results,results103,go_sem,hc1]) rfl ⟨1,q,0,E0,rfl,HQR.out,R0,by decide,HP.out,by repeat(first|exact G.refl _|assumption|exact HG.out|refine G.alloc ?_ _|refine G.drew ?_|refine G.setCell ?_ (by simp) _)⟩
theorem zWv(g o:Nat)(bs:List Nat)(w:World)(_hb:∀d∈bs,d<256)(_hl:bs.length≤140737488355328)(hlen:0<bs.length)(hrow:RowB w (.slice (some ⟨g,o,none⟩) bs.length 1) bs)(hd:bs[0]?=some 32):Calls prog 103 #[.slice (some ⟨g,o,none⟩) bs.length 1] w (GBA bs w):=by
 obtain⟨hl1,hrt⟩:=zCz hrow hlen;have hne:((bs.length:Int)==0)=false:=beq_false_of_ne (by omega)
 have hlti:(0:Int)<(bs.length:Int):=by omega
 have hcell:w.cell? ⟨g,o,none⟩=some (bv 32):=by
  obtain⟨p,cap',he,_,hc⟩:=hrow;cases he;obtain⟨g',o',h1,h2⟩:=hc 0 32 hd;cases h1;exact h2
 have hgz:g<w.heap.size:=zAj hcell;have hbt:∀d∈bs.drop 1,d<256:=fun d hd=>_hb d (List.mem_of_mem_drop hd)
 have hlt:(bs.drop 1).length≤140737488355328:=by rw[List.length_drop];omega
 have hlt':(bs.drop 1).length≤bs.length:=by rw[List.length_drop];omega
 have H1:Hid (∀W,G w W→Calls prog 139 #[.slice (some ⟨g,o,none⟩) 0 0] W fun e w'=>∃xs,e=.returned (.string (strN xs))∧xs.length≤32∧TSP (bs.drop 1) (strN xs)∧G W w'):=fun W g=>zQX _ _ W (hrt.G g) hlt;have HD:Hid _:=hd;rw[hl1];clear hrow hrt hd _hb hbt hlt
 go_enter func103,ntmps103
 go_wp2_with fail
 refine(H1.out _ ((G.refl w).alloc _)).mono ?_;rintro e w1 ⟨xs,rfl,hx32,htp,hb1⟩;have hc1:∀o,w1.cell? {block:=w.heap.size,off:=o}=[I 0,I 0,I 0,.string E0][o]?:=G.cells hb1 (by simp) (by simp);have hf1:∀o,w1.frozen? {block:=w.heap.size,off:=o}=false:=G.frozens hb1 (by simp) (by simp);have HG:Hid (G w w1):=((G.refl w).alloc _).trans hb1;have HP:Hid (zAu bs 4 (0) 0 (strN xs)):=g32 HD.out htp;clear hb1 H1
 go_wp2
 exact bodyPost_ret (v:=V 4 (0) 0 (strN xs)) (by simp[results,results103,go_sem,hc1]) rfl ⟨4,0,0,(strN xs),rfl,R0,R0,by rw[zCx];omega,HP.out,by repeat(first|exact G.refl _|assumption|exact HG.out|refine G.alloc ?_ _|refine G.drew ?_|refine G.setCell ?_ (by simp) _)⟩
theorem zWz(g o:Nat)(bs:List Nat)(w:World)(_hb:∀d∈bs,d<256)(_hl:bs.length≤140737488355328)(hlen:0<bs.length)(hrow:RowB w (.slice (some ⟨g,o,none⟩) bs.length 1) bs)(hd:bs[0]?=some 16):Calls prog 103 #[.slice (some ⟨g,o,none⟩) bs.length 1] w (GBA bs w):=by
 obtain⟨hl1,hrt⟩:=zCz hrow hlen;have hne:((bs.length:Int)==0)=false:=beq_false_of_ne (by omega)
 have hlti:(0:Int)<(bs.length:Int):=by omega
 have hcell:w.cell? ⟨g,o,none⟩=some (bv 16):=by
  obtain⟨p,cap',he,_,hc⟩:=hrow;cases he;obtain⟨g',o',h1,h2⟩:=hc 0 16 hd;cases h1;exact h2
 have hgz:g<w.heap.size:=zAj hcell;have hbt:∀d∈bs.drop 1,d<256:=fun d hd=>_hb d (List.mem_of_mem_drop hd)
 have hlt:(bs.drop 1).length≤140737488355328:=by rw[List.length_drop];omega
 have hlt':(bs.drop 1).length≤bs.length:=by rw[List.length_drop];omega
 have H1:Hid (∀W,G w W→Calls prog 140 #[.slice (some ⟨g,o,none⟩) 0 0] W (TWA (bs.drop 1) W)):=fun W g=>zEk _ _ W (hrt.G g) hbt hlt;have HD:Hid _:=hd;rw[hl1];clear hrow hrt hd _hb hbt hlt
 go_enter func103,ntmps103
 go_wp2_with fail
 refine(H1.out _ ((G.refl w).alloc _)).mono ?_;rintro e w1 ⟨n,t,us,rfl,hn,_,htw,_,_,hb1⟩;have hc1:∀o,w1.cell? {block:=w.heap.size,off:=o}=[I 0,I 0,I 0,.string E0][o]?:=G.cells hb1 (by simp) (by simp);have hf1:∀o,w1.frozen? {block:=w.heap.size,off:=o}=false:=G.frozens hb1 (by simp) (by simp);have HG:Hid (G w w1):=((G.refl w).alloc _).trans hb1;have HP:Hid (zAu bs 5 (n) 0 E0):=gid (by omega) HD.out htw;clear hb1 H1
 go_wp2
 exact bodyPost_ret (v:=V 5 (n) 0 E0) (by simp[results,results103,go_sem,hc1]) rfl ⟨5,n,0,E0,rfl,hn,R0,by decide,HP.out,by repeat(first|exact G.refl _|assumption|exact HG.out|refine G.alloc ?_ _|refine G.drew ?_|refine G.setCell ?_ (by simp) _)⟩
theorem zWx(g o:Nat)(bs:List Nat)(w:World)(_hb:∀d∈bs,d<256)(_hl:bs.length≤140737488355328)(hlen:0<bs.length)(hrow:RowB w (.slice (some ⟨g,o,none⟩) bs.length 1) bs)(hd:bs[0]?=some 17):Calls prog 103 #[.slice (some ⟨g,o,none⟩) bs.length 1] w (GBA bs w):=by
 obtain⟨hl1,hrt⟩:=zCz hrow hlen;have hne:((bs.length:Int)==0)=false:=beq_false_of_ne (by omega)
 have hlti:(0:Int)<(bs.length:Int):=by omega
 have hcell:w.cell? ⟨g,o,none⟩=some (bv 17):=by
  obtain⟨p,cap',he,_,hc⟩:=hrow;cases he;obtain⟨g',o',h1,h2⟩:=hc 0 17 hd;cases h1;exact h2
 have hgz:g<w.heap.size:=zAj hcell;have hbt:∀d∈bs.drop 1,d<256:=fun d hd=>_hb d (List.mem_of_mem_drop hd)
 have hlt:(bs.drop 1).length≤140737488355328:=by rw[List.length_drop];omega
 have hlt':(bs.drop 1).length≤bs.length:=by rw[List.length_drop];omega
 have H1:Hid (∀W,G w W→Calls prog 140 #[.slice (some ⟨g,o,none⟩) 0 0] W (TWA (bs.drop 1) W)):=fun W g=>zEk _ _ W (hrt.G g) hbt hlt;have HD:Hid _:=hd;rw[hl1];clear hrow hrt hd _hb hbt hlt
 go_enter func103,ntmps103
 go_wp2_with fail
 refine(H1.out _ ((G.refl w).alloc _)).mono ?_;rintro e w1 ⟨n,t,us,rfl,hn,_,htw,_,_,hb1⟩;have hc1:∀o,w1.cell? {block:=w.heap.size,off:=o}=[I 0,I 0,I 0,.string E0][o]?:=G.cells hb1 (by simp) (by simp);have hf1:∀o,w1.frozen? {block:=w.heap.size,off:=o}=false:=G.frozens hb1 (by simp) (by simp);have HG:Hid (G w w1):=((G.refl w).alloc _).trans hb1;have HP:Hid (zAu bs 6 (n) 0 E0):=gid (by omega) HD.out htw;clear hb1 H1
 go_wp2
 exact bodyPost_ret (v:=V 6 (n) 0 E0) (by simp[results,results103,go_sem,hc1]) rfl ⟨6,n,0,E0,rfl,hn,R0,by decide,HP.out,by repeat(first|exact G.refl _|assumption|exact HG.out|refine G.alloc ?_ _|refine G.drew ?_|refine G.setCell ?_ (by simp) _)⟩
theorem zWs(g o cap:Nat)(bs:List Nat)(w:World)(_hcap:bs.length≤cap)(_hb:∀d∈bs,d<256)(_hl:bs.length≤140737488355328)(hlen:0<bs.length)(hrow:RowB w (.slice (some ⟨g,o,none⟩) bs.length cap) bs)(hcp:¬cap=1)(hd:bs[0]?=some 48):Calls prog 103 #[.slice (some ⟨g,o,none⟩) bs.length cap] w (GBA bs w):=by
 have hrt:=zDs hrow hlen hcp;have hne:((bs.length:Int)==0)=false:=beq_false_of_ne (by omega)
 have hlti:(0:Int)<(bs.length:Int):=by omega
 have hcell:w.cell? ⟨g,o,none⟩=some (bv 48):=by
  obtain⟨p,cap',he,_,hc⟩:=hrow;cases he;obtain⟨g',o',h1,h2⟩:=hc 0 48 hd;cases h1;exact h2
 have hgz:g<w.heap.size:=zAj hcell;have hbt:∀d∈bs.drop 1,d<256:=fun d hd=>_hb d (List.mem_of_mem_drop hd)
 have hlt:(bs.drop 1).length≤140737488355328:=by rw[List.length_drop];omega
 have hlt':(bs.drop 1).length≤bs.length:=by rw[List.length_drop];omega
 have H1:Hid (∀W,G w W→CG 138 #[.slice (some ⟨g,o+1,none⟩) (bs.length-1) (cap-1)] W (V 1 (if (bs.drop 1)[0]?=some 1 then 1 else 0) 0 E0)):=fun W g=>zNu _ _ W (hrt.G g) hlt;have HD:Hid _:=hd;obtain⟨q,hq⟩:∃q:Int,q=if (bs.drop 1)[0]?=some 1 then 1 else 0:=⟨_,rfl⟩;rw[←hq] at H1
 have HQ:Hid (zAu bs 1 q 0 E0):=by rw[hq];exact g48 hd
 have hqr:R64 q:=by rw[hq];split<;>(unfold R64;omega)
 have HQR:Hid (R64 q):=hqr;clear hq hqr;clear hrow hrt hd _hb hbt hlt
 go_enter func103,ntmps103
 go_wp2_with fail
 refine(H1.out _ ((G.refl w).alloc _)).mono ?_;rintro e w1 ⟨rfl,hb1⟩;have hc1:∀o,w1.cell? {block:=w.heap.size,off:=o}=[I 0,I 0,I 0,.string E0][o]?:=G.cells hb1 (by simp) (by simp);have hf1:∀o,w1.frozen? {block:=w.heap.size,off:=o}=false:=G.frozens hb1 (by simp) (by simp);have HG:Hid (G w w1):=((G.refl w).alloc _).trans hb1;have HP:Hid (zAu bs 1 (q) 0 E0):=HQ.out;clear hb1 H1
 go_wp2
 exact bodyPost_ret (v:=V 1 (q) 0 E0) (by simp[results,results103,go_sem,hc1]) rfl ⟨1,q,0,E0,rfl,HQR.out,R0,by decide,HP.out,by repeat(first|exact G.refl _|assumption|exact HG.out|refine G.alloc ?_ _|refine G.drew ?_|refine G.setCell ?_ (by simp) _)⟩
theorem zWu(g o cap:Nat)(bs:List Nat)(w:World)(_hcap:bs.length≤cap)(_hb:∀d∈bs,d<256)(_hl:bs.length≤140737488355328)(hlen:0<bs.length)(hrow:RowB w (.slice (some ⟨g,o,none⟩) bs.length cap) bs)(hcp:¬cap=1)(hd:bs[0]?=some 32):Calls prog 103 #[.slice (some ⟨g,o,none⟩) bs.length cap] w (GBA bs w):=by
 have hrt:=zDs hrow hlen hcp;have hne:((bs.length:Int)==0)=false:=beq_false_of_ne (by omega)
 have hlti:(0:Int)<(bs.length:Int):=by omega
 have hcell:w.cell? ⟨g,o,none⟩=some (bv 32):=by
  obtain⟨p,cap',he,_,hc⟩:=hrow;cases he;obtain⟨g',o',h1,h2⟩:=hc 0 32 hd;cases h1;exact h2
 have hgz:g<w.heap.size:=zAj hcell;have hbt:∀d∈bs.drop 1,d<256:=fun d hd=>_hb d (List.mem_of_mem_drop hd)
 have hlt:(bs.drop 1).length≤140737488355328:=by rw[List.length_drop];omega
 have hlt':(bs.drop 1).length≤bs.length:=by rw[List.length_drop];omega
 have H1:Hid (∀W,G w W→Calls prog 139 #[.slice (some ⟨g,o+1,none⟩) (bs.length-1) (cap-1)] W fun e w'=>∃xs,e=.returned (.string (strN xs))∧xs.length≤32∧TSP (bs.drop 1) (strN xs)∧G W w'):=fun W g=>zQX _ _ W (hrt.G g) hlt;have HD:Hid _:=hd;clear hrow hrt hd _hb hbt hlt
 go_enter func103,ntmps103
 go_wp2_with fail
 refine(H1.out _ ((G.refl w).alloc _)).mono ?_;rintro e w1 ⟨xs,rfl,hx32,htp,hb1⟩;have hc1:∀o,w1.cell? {block:=w.heap.size,off:=o}=[I 0,I 0,I 0,.string E0][o]?:=G.cells hb1 (by simp) (by simp);have hf1:∀o,w1.frozen? {block:=w.heap.size,off:=o}=false:=G.frozens hb1 (by simp) (by simp);have HG:Hid (G w w1):=((G.refl w).alloc _).trans hb1;have HP:Hid (zAu bs 4 (0) 0 (strN xs)):=g32 HD.out htp;clear hb1 H1
 go_wp2
 exact bodyPost_ret (v:=V 4 (0) 0 (strN xs)) (by simp[results,results103,go_sem,hc1]) rfl ⟨4,0,0,(strN xs),rfl,R0,R0,by rw[zCx];omega,HP.out,by repeat(first|exact G.refl _|assumption|exact HG.out|refine G.alloc ?_ _|refine G.drew ?_|refine G.setCell ?_ (by simp) _)⟩
theorem zWy(g o cap:Nat)(bs:List Nat)(w:World)(_hcap:bs.length≤cap)(_hb:∀d∈bs,d<256)(_hl:bs.length≤140737488355328)(hlen:0<bs.length)(hrow:RowB w (.slice (some ⟨g,o,none⟩) bs.length cap) bs)(hcp:¬cap=1)(hd:bs[0]?=some 16):Calls prog 103 #[.slice (some ⟨g,o,none⟩) bs.length cap] w (GBA bs w):=by
 have hrt:=zDs hrow hlen hcp;have hne:((bs.length:Int)==0)=false:=beq_false_of_ne (by omega)
 have hlti:(0:Int)<(bs.length:Int):=by omega
 have hcell:w.cell? ⟨g,o,none⟩=some (bv 16):=by
  obtain⟨p,cap',he,_,hc⟩:=hrow;cases he;obtain⟨g',o',h1,h2⟩:=hc 0 16 hd;cases h1;exact h2
 have hgz:g<w.heap.size:=zAj hcell;have hbt:∀d∈bs.drop 1,d<256:=fun d hd=>_hb d (List.mem_of_mem_drop hd)
 have hlt:(bs.drop 1).length≤140737488355328:=by rw[List.length_drop];omega
 have hlt':(bs.drop 1).length≤bs.length:=by rw[List.length_drop];omega
 have H1:Hid (∀W,G w W→Calls prog 140 #[.slice (some ⟨g,o+1,none⟩) (bs.length-1) (cap-1)] W (TWA (bs.drop 1) W)):=fun W g=>zEk _ _ W (hrt.G g) hbt hlt;have HD:Hid _:=hd;clear hrow hrt hd _hb hbt hlt
 go_enter func103,ntmps103
 go_wp2_with fail
 refine(H1.out _ ((G.refl w).alloc _)).mono ?_;rintro e w1 ⟨n,t,us,rfl,hn,_,htw,_,_,hb1⟩;have hc1:∀o,w1.cell? {block:=w.heap.size,off:=o}=[I 0,I 0,I 0,.string E0][o]?:=G.cells hb1 (by simp) (by simp);have hf1:∀o,w1.frozen? {block:=w.heap.size,off:=o}=false:=G.frozens hb1 (by simp) (by simp);have HG:Hid (G w w1):=((G.refl w).alloc _).trans hb1;have HP:Hid (zAu bs 5 (n) 0 E0):=gid (by omega) HD.out htw;clear hb1 H1
 go_wp2
 exact bodyPost_ret (v:=V 5 (n) 0 E0) (by simp[results,results103,go_sem,hc1]) rfl ⟨5,n,0,E0,rfl,hn,R0,by decide,HP.out,by repeat(first|exact G.refl _|assumption|exact HG.out|refine G.alloc ?_ _|refine G.drew ?_|refine G.setCell ?_ (by simp) _)⟩
theorem zWw(g o cap:Nat)(bs:List Nat)(w:World)(_hcap:bs.length≤cap)(_hb:∀d∈bs,d<256)(_hl:bs.length≤140737488355328)(hlen:0<bs.length)(hrow:RowB w (.slice (some ⟨g,o,none⟩) bs.length cap) bs)(hcp:¬cap=1)(hd:bs[0]?=some 17):Calls prog 103 #[.slice (some ⟨g,o,none⟩) bs.length cap] w (GBA bs w):=by
 have hrt:=zDs hrow hlen hcp;have hne:((bs.length:Int)==0)=false:=beq_false_of_ne (by omega)
 have hlti:(0:Int)<(bs.length:Int):=by omega
 have hcell:w.cell? ⟨g,o,none⟩=some (bv 17):=by
  obtain⟨p,cap',he,_,hc⟩:=hrow;cases he;obtain⟨g',o',h1,h2⟩:=hc 0 17 hd;cases h1;exact h2
 have hgz:g<w.heap.size:=zAj hcell;have hbt:∀d∈bs.drop 1,d<256:=fun d hd=>_hb d (List.mem_of_mem_drop hd)
 have hlt:(bs.drop 1).length≤140737488355328:=by rw[List.length_drop];omega
 have hlt':(bs.drop 1).length≤bs.length:=by rw[List.length_drop];omega
 have H1:Hid (∀W,G w W→Calls prog 140 #[.slice (some ⟨g,o+1,none⟩) (bs.length-1) (cap-1)] W (TWA (bs.drop 1) W)):=fun W g=>zEk _ _ W (hrt.G g) hbt hlt;have HD:Hid _:=hd;clear hrow hrt hd _hb hbt hlt
 go_enter func103,ntmps103
 go_wp2_with fail
 refine(H1.out _ ((G.refl w).alloc _)).mono ?_;rintro e w1 ⟨n,t,us,rfl,hn,_,htw,_,_,hb1⟩;have hc1:∀o,w1.cell? {block:=w.heap.size,off:=o}=[I 0,I 0,I 0,.string E0][o]?:=G.cells hb1 (by simp) (by simp);have hf1:∀o,w1.frozen? {block:=w.heap.size,off:=o}=false:=G.frozens hb1 (by simp) (by simp);have HG:Hid (G w w1):=((G.refl w).alloc _).trans hb1;have HP:Hid (zAu bs 6 (n) 0 E0):=gid (by omega) HD.out htw;clear hb1 H1
 go_wp2
 exact bodyPost_ret (v:=V 6 (n) 0 E0) (by simp[results,results103,go_sem,hc1]) rfl ⟨6,n,0,E0,rfl,hn,R0,by decide,HP.out,by repeat(first|exact G.refl _|assumption|exact HG.out|refine G.alloc ?_ _|refine G.drew ?_|refine G.setCell ?_ (by simp) _)⟩
theorem zWp(g o cap:Nat)(bs:List Nat)(w:World)(_hcap:bs.length≤cap)(_hb:∀d∈bs,d<256)(_hl:bs.length≤140737488355328)(hlen:0<bs.length)(hrow:RowB w (.slice (some ⟨g,o,none⟩) bs.length cap) bs)(d:Nat)(hd:bs[0]?=some d)(hne':d≠80∧d≠48∧d≠32∧d≠16∧d≠17):Calls prog 103 #[.slice (some ⟨g,o,none⟩) bs.length cap] w (GBA bs w):=by
 have hne:((bs.length:Int)==0)=false:=beq_false_of_ne (by omega)
 have hlti:(0:Int)<(bs.length:Int):=by omega
 have hcell:w.cell? ⟨g,o,none⟩=some (bv d):=by
  obtain⟨p,cap',he,_,hc⟩:=hrow;cases he;obtain⟨g',o',h1,h2⟩:=hc 0 d hd;cases h1;exact h2
 have hgz:g<w.heap.size:=zAj hcell
 have n1:((d:Int)==80)=false:=by simp;omega
 have n2:((d:Int)==48)=false:=by simp;omega
 have n3:((d:Int)==32)=false:=by simp;omega
 have n4:((d:Int)==16)=false:=by simp;omega
 have n5:((d:Int)==17)=false:=by simp;omega
 have H1:Hid (∀W,G w W→Calls prog 141 #[.slice (some ⟨g,o,none⟩) bs.length cap] W (GNA bs W)):=fun W g=>zWn _ _ W (hrow.G g) _hb _hl;have HD:Hid _:=hd;have HN:Hid _:=hne';clear hrow hd _hb hne'
 go_enter func103,ntmps103
 go_wp2_with fail
 refine(H1.out _ ((G.refl w).alloc _)).mono ?_;rintro e w1 ⟨k,a,b,rfl,ha,hb2,hp,hb1⟩;have hc1:∀o,w1.cell? {block:=w.heap.size,off:=o}=[I 0,I 0,I 0,.string E0][o]?:=G.cells hb1 (by simp) (by simp);have hf1:∀o,w1.frozen? {block:=w.heap.size,off:=o}=false:=G.frozens hb1 (by simp) (by simp);have HG:Hid (G w w1):=((G.refl w).alloc _).trans hb1;have HP:Hid (zAu bs k a b E0):=gnum HD.out HN.out hp;clear hb1 H1 hp
 go_wp2
 exact bodyPost_ret (v:=V k a b E0) (by simp[results,results103,go_sem,hc1]) rfl ⟨k,a,b,E0,rfl,ha,hb2,by decide,HP.out,by repeat(first|exact G.refl _|assumption|exact HG.out|refine G.alloc ?_ _|refine G.drew ?_|refine G.setCell ?_ (by simp) _)⟩
theorem zWr(x:Value)(bs:List Nat)(w:World)(hx:RowB w x bs)(hb:∀d∈bs,d<256)(hl:bs.length≤140737488355328):Calls prog 103 #[x] w (GBA bs w):=by
 have hrow:=hx;obtain⟨p,cap,rfl,hcap,hc⟩:=hx
 by_cases h0:bs.length=0
 ·exact zWq p cap bs w h0
 obtain⟨d,hd⟩:∃d0,bs[0]?=some d0:=⟨_,List.getElem?_eq_getElem (by omega)⟩;obtain⟨g,o,rfl,hcell⟩:=hc 0 d hd
 by_cases h80:d=80
 ·subst h80;exact zX3 g o cap bs w hcap hb hl (by omega) hrow hd
 by_cases h48:d=48
 ·subst h48
  by_cases hcp:cap=1
  ·subst hcp;exact zWt g o bs w hb hl (by omega) hrow hd
  ·exact zWs g o cap bs w hcap hb hl (by omega) hrow hcp hd
 by_cases h32:d=32
 ·subst h32
  by_cases hcp:cap=1
  ·subst hcp;exact zWv g o bs w hb hl (by omega) hrow hd
  ·exact zWu g o cap bs w hcap hb hl (by omega) hrow hcp hd
 by_cases h16:d=16
 ·subst h16
  by_cases hcp:cap=1
  ·subst hcp;exact zWz g o bs w hb hl (by omega) hrow hd
  ·exact zWy g o cap bs w hcap hb hl (by omega) hrow hcp hd
 by_cases h17:d=17
 ·subst h17
  by_cases hcp:cap=1
  ·subst hcp;exact zWx g o bs w hb hl (by omega) hrow hd
  ·exact zWw g o cap bs w hcap hb hl (by omega) hrow hcp hd
 exact zWp g o cap bs w hcap hb hl (by omega) hrow d hd ⟨h80,h48,h32,h16,h17⟩
end
section
open Go.RowKit Go.Shelf Go.PlainAid Go.Lib
def mstep(m:Int)(d:Nat):Int:=wrap64 (wrap64 (m*256)-d)
def macc(l:List Nat):Int:=l.foldl mstep 0
theorem zEF(l:List Nat)(d:Nat):macc (l++[d])=mstep (macc l) d:=by
 unfold macc;rw[List.foldl_append];rfl
theorem zW1(l:List Nat)(a:Nat):a≤l.foldl (fun m d=>m*256+d) a:=by
 induction l generalizing a with
 | nil=>exact Nat.le_refl _
 | cons d l ih=>
  have:=ih (a*256+d);rw[List.foldl_cons];omega
theorem zPD(l:List Nat)(a:Nat)(h:l.foldl (fun m d=>m*256+d) a≤9223372036854775808):l.foldl mstep (-(a:Int)) = -((l.foldl (fun m d=>m*256+d) a:Nat):Int):=by
 induction l generalizing a with
 | nil=>rfl
 | cons d l ih=>
  rw[List.foldl_cons] at h;have h1:=zW1 l (a*256+d)
  have h2:mstep (-(a:Int)) d = -((a*256+d:Nat):Int):=by
   unfold mstep wrap64;omega
  rw[List.foldl_cons,List.foldl_cons,h2];exact ih (a*256+d) h
theorem zMI(l:List Nat)(h:acc l≤9223372036854775808):macc l = -((acc l:Nat):Int):=zPD l 0 h
theorem zBX(l:List Nat):R64 (macc l):=by
 rcases List.eq_nil_or_concat l with rfl|⟨q,d,rfl⟩
 ·unfold R64 macc;simp
 ·rw[List.concat_eq_append,zEF]
  exact zBV _
def NUP(bs:List Nat)(i:Nat)(n:Int)(j:Nat):Prop:=∀n0 rest,R64 n0→bs.drop i=encW n0++rest→n=n0∧j=i+(encW n0).length
def NUA(bs:List Nat)(i:Nat)(w:World)(e:Ending)(w':World):Prop:=∃(n:Int) (j:Nat),e=.returned (.tuple #[.int .i64 n,.int .i64 j])∧R64 n∧NUP bs i n j∧j≤i+256∧w'=w
theorem zVP(p:Option Addr)(cap i:Nat)(bs:List Nat)(w:World)(_hl:bs.length≤140737488355328)(_hi:i≤140737488355328)(h:bs.length≤i):Calls prog 143 #[.slice p bs.length cap,.int .i64 i] w (NUA bs i w):=by
 have HP:Hid (NUP bs i 0 i):=fun n0 rest _ he=>by rw[List.drop_of_length_le h] at he;simp[encW] at he
 have hii:(bs.length:Int)≤(i:Int):=by omega
 go_enter func143,ntmps143
 go_wp2
 go_ret2
 exact⟨0,i,rfl,by unfold R64;omega,HP.out,by omega,rfl⟩
theorem zTl(bs:List Nat)(d0 L i k:Nat)(hd:bs[i]?=some d0)(hdL:(d0:Int)-64=(L:Int))(hk:k=min L (min 8 (bs.length-(i+1)))):NUP bs i (wrap64 (-(macc ((bs.drop (i+1)).take k)))) (i+1+L):=by
 intro n0 rest hr he
 have hd':(bs.drop i)[0]?=some d0:=by rw[List.getElem?_drop];exact hd
 obtain⟨h1,h2,h3⟩:=zCL he;have hl8:=zDh n0 hr.1 hr.2;have hlen:=congrArg List.length he;simp[encW] at hlen;rw[hd'] at h1;have h1:=Option.some.inj h1;rw[List.drop_drop] at h2
 by_cases hn:n0<0
 ·rw[if_pos hn] at h1
  have:=zND hn;omega
 ·rw[if_neg hn] at h1
  have hLL:(lowB n0).length=L:=by omega
  have hkL:k=L:=by omega
  refine⟨?_,by simp[encW];omega⟩;rw[hkL,←hLL,h2]
  have hf:(lowB n0).reverse=(lowB n0).reverse.map (zBn n0):=by
   conv=>lhs;rw[←List.map_id (lowB n0).reverse]
   exact List.map_congr_left fun x _=>by unfold zBn;rw[if_neg hn];rfl
  have hb:=zEe n0;rw[hf,hb,zMI _ (by rw[zC6];have:=hr.2;omega),zC6];unfold wrap64;have:=hr.2;omega
theorem zVO(g o cap d0 L i:Nat)(bs:List Nat)(w:World)(hc:∀j d,bs[j]?=some d→w.cell? ⟨g,o+j,none⟩=some (bv d))(hb:∀d∈bs,d<256)(hl:bs.length≤140737488355328)
  (hd:bs[i]?=some d0) (hdL:(d0:Int)-64=(L:Int)):Calls prog 143 #[.slice (some ⟨g,o,none⟩) bs.length cap,.int .i64 i] w (NUA bs i w):=by
 have HT:Hid (∀k,k=min L (min 8 (bs.length-(i+1)))→NUP bs i (wrap64 (-(macc ((bs.drop (i+1)).take k)))) (i+1+L)):=fun k hk=>zTl bs d0 L i k hd hdL hk;have hilt:i<bs.length:=(List.getElem?_eq_some_iff.1 hd).1;have hcell:=hc i d0 hd;have hd256:d0<256:=hb d0 (List.mem_of_getElem? hd);have HC:Hid _:=hc;have HB256:Hid _:=hb
 have hili:(i:Int)<(bs.length:Int):=by omega
 have hL256:L<256:=by omega
 clear hc hb hd
 go_enter func143,ntmps143
 go_wp2
 go_loopw [8,9,10] (fun m k _ W=>∃j:Nat,j≤L∧j≤8∧j≤bs.length-(i+1)∧k=.int .i64 ((j:Int)+1)∧m=.int .i64 (macc ((bs.drop (i+1)).take j))∧W=w) (fun _ k _ _=>9-(RowKit.intOf k).toNat)
 case atStart=>exact⟨0,Nat.zero_le _,by omega,Nat.zero_le _,rfl,rfl,rfl⟩
 case round=>
  obtain⟨j,hj,hj8,hjl,rfl,rfl,rfl⟩:=hrel
  by_cases h1:j<L
  ·have h1i:(j:Int)+1≤L:=by omega
   by_cases h2:i+1+j<bs.length
   ·have h2i:(i:Int)+((j:Int)+1)<(bs.length:Int):=by omega
    by_cases h3:j<8
    ·have h3i:(j:Int)+1≤8:=by omega
     obtain⟨d,hdj⟩:∃d,bs[i+(j+1)]?=some d:=⟨_,List.getElem?_eq_getElem (by omega)⟩;have hcj:=HC.out (i+(j+1)) d hdj;have hd2:d<256:=HB256.out d (List.mem_of_getElem? hdj)
     have hsub:(bs.drop (i+1)).take (j+1)=(bs.drop (i+1)).take j++[d]:=by
      rw[List.take_add_one,List.getElem?_drop,show i+1+j=i+(j+1) by omega,hdj];rfl
     have hacc:macc ((bs.drop (i+1)).take (j+1))=mstep (macc ((bs.drop (i+1)).take j)) (d):=by rw[hsub,zEF]
     have HA:Hid _:=hacc;have hR:=zBX ((bs.drop (i+1)).take j);clear hsub hacc hdj;generalize macc ((bs.drop (i+1)).take j)=M at HA hR;have HR:Hid _:=hR;clear hR
     have hcast:(((d:Nat)):Int)=(d:Int):=by omega
     have HCa:Hid _:=hcast;clear hcast
     go_wp2
     go_roundw
     case rel=>exact⟨j+1,by omega,by omega,by omega,by go_num,by rw[HA.out];unfold mstep;rw[HCa.out],trivial⟩
     case measure=>simp[RowKit.intOf];omega
    ·have h3i:¬(j:Int)+1≤8:=by omega
     have HJ:Hid (NUP bs i (wrap64 (-(macc ((bs.drop (i+1)).take j)))) (i+1+L)):=HT.out j (by omega);clear HT;have HM:Hid _:=zBX ((bs.drop (i+1)).take j);generalize macc ((bs.drop (i+1)).take j)=M at HJ HM
     go_wp2
     go_ret2
     exact⟨_,i+1+L,by simp,zBV _,HJ.out,by omega,rfl⟩
   ·have h2i:¬(i:Int)+((j:Int)+1)<(bs.length:Int):=by omega
    have HJ:Hid (NUP bs i (wrap64 (-(macc ((bs.drop (i+1)).take j)))) (i+1+L)):=HT.out j (by omega);clear HT;have HM:Hid _:=zBX ((bs.drop (i+1)).take j);generalize macc ((bs.drop (i+1)).take j)=M at HJ HM
    go_wp2
    go_ret2
    exact⟨_,i+1+L,by simp,zBV _,HJ.out,by omega,rfl⟩
  ·have h1i:¬(j:Int)+1≤L:=by omega
   have HJ:Hid (NUP bs i (wrap64 (-(macc ((bs.drop (i+1)).take j)))) (i+1+L)):=HT.out j (by omega);clear HT;have HM:Hid _:=zBX ((bs.drop (i+1)).take j);generalize macc ((bs.drop (i+1)).take j)=M at HJ HM
   go_wp2
   go_ret2
   exact⟨_,i+1+L,by simp,zBV _,HJ.out,by omega,rfl⟩
theorem zTm(bs:List Nat)(d0 L i k:Nat)(hd:bs[i]?=some d0)(hdL:(d0:Int)-64 = -(L:Int))(hL1:1≤L)(hk:k=min L (min 8 (bs.length-(i+1)))):NUP bs i (macc (((bs.drop (i+1)).take k).map (255 - ·))) (i+1+L):=by
 intro n0 rest hr he
 have hd':(bs.drop i)[0]?=some d0:=by rw[List.getElem?_drop];exact hd
 obtain⟨h1,h2,h3⟩:=zCL he;have hl8:=zDh n0 hr.1 hr.2;have hlen:=congrArg List.length he;simp[encW] at hlen;rw[hd'] at h1;have h1:=Option.some.inj h1;rw[List.drop_drop] at h2
 by_cases hn:n0<0
 ·rw[if_pos hn] at h1
  have hLL:(lowB n0).length=L:=by omega
  have hkL:k=L:=by omega
  refine⟨?_,by simp[encW];omega⟩;rw[hkL,←hLL,h2]
  have hf:(lowB n0).reverse.map (255 - ·)=(lowB n0).reverse.map (zBn n0):=List.map_congr_left fun x _=>by unfold zBn;rw[if_pos hn]
  have hb:=zEe n0;rw[hf,hb,zMI _ (by rw[zC6];have:=hr.1;omega),zC6];omega
 ·rw[if_neg hn] at h1
  omega
theorem zVQ(g o cap d0 L i:Nat)(bs:List Nat)(w:World)(hc:∀j d,bs[j]?=some d→w.cell? ⟨g,o+j,none⟩=some (bv d))(hb:∀d∈bs,d<256)(hl:bs.length≤140737488355328)
  (hd:bs[i]?=some d0) (hdL:(d0:Int)-64 = -(L:Int)) (hL1:1≤L):Calls prog 143 #[.slice (some ⟨g,o,none⟩) bs.length cap,.int .i64 i] w (NUA bs i w):=by
 have HT:Hid (∀k,k=min L (min 8 (bs.length-(i+1)))→NUP bs i (macc (((bs.drop (i+1)).take k).map (255 - ·))) (i+1+L)):=fun k hk=>zTm bs d0 L i k hd hdL hL1 hk;have hilt:i<bs.length:=(List.getElem?_eq_some_iff.1 hd).1;have hcell:=hc i d0 hd;have hd256:d0<256:=hb d0 (List.mem_of_getElem? hd);have HC:Hid _:=hc;have HB256:Hid _:=hb
 have hili:(i:Int)<(bs.length:Int):=by omega
 have hL256:L<256:=by omega
 clear hc hb hd
 go_enter func143,ntmps143
 go_wp2
 go_loopw [8,9,10] (fun m k _ W=>∃j:Nat,j≤L∧j≤8∧j≤bs.length-(i+1)∧k=.int .i64 ((j:Int)+1)∧m=.int .i64 (macc (((bs.drop (i+1)).take j).map (255 - ·)))∧W=w) (fun _ k _ _=>9-(RowKit.intOf k).toNat)
 case atStart=>exact⟨0,Nat.zero_le _,by omega,Nat.zero_le _,rfl,rfl,rfl⟩
 case round=>
  obtain⟨j,hj,hj8,hjl,rfl,rfl,rfl⟩:=hrel
  by_cases h1:j<L
  ·have h1i:(j:Int)+1≤L:=by omega
   by_cases h2:i+1+j<bs.length
   ·have h2i:(i:Int)+((j:Int)+1)<(bs.length:Int):=by omega
    by_cases h3:j<8
    ·have h3i:(j:Int)+1≤8:=by omega
     obtain⟨d,hdj⟩:∃d,bs[i+(j+1)]?=some d:=⟨_,List.getElem?_eq_getElem (by omega)⟩;have hcj:=HC.out (i+(j+1)) d hdj;have hd2:d<256:=HB256.out d (List.mem_of_getElem? hdj)
     have hsub:(bs.drop (i+1)).take (j+1)=(bs.drop (i+1)).take j++[d]:=by
      rw[List.take_add_one,List.getElem?_drop,show i+1+j=i+(j+1) by omega,hdj];rfl
     have hacc:macc (((bs.drop (i+1)).take (j+1)).map (255 - ·))=mstep (macc (((bs.drop (i+1)).take j).map (255 - ·))) (255-d):=by rw[hsub,List.map_append,List.map_singleton,zEF]
     have HA:Hid _:=hacc;have hR:=zBX (((bs.drop (i+1)).take j).map (255 - ·));clear hsub hacc hdj;generalize macc (((bs.drop (i+1)).take j).map (255 - ·))=M at HA hR;have HR:Hid _:=hR;clear hR
     have hcast:(((255-d:Nat)):Int)=255-(d:Int):=by omega
     have HCa:Hid _:=hcast;clear hcast
     go_wp2
     go_roundw
     case rel=>exact⟨j+1,by omega,by omega,by omega,by go_num,by rw[HA.out];unfold mstep;rw[HCa.out],trivial⟩
     case measure=>simp[RowKit.intOf];omega
    ·have h3i:¬(j:Int)+1≤8:=by omega
     have HJ:Hid (NUP bs i (macc (((bs.drop (i+1)).take j).map (255 - ·))) (i+1+L)):=HT.out j (by omega);clear HT;have HM:Hid _:=zBX (((bs.drop (i+1)).take j).map (255 - ·));generalize macc (((bs.drop (i+1)).take j).map (255 - ·))=M at HJ HM
     go_wp2
     go_ret2
     exact⟨_,i+1+L,by simp,HM.out,HJ.out,by omega,rfl⟩
   ·have h2i:¬(i:Int)+((j:Int)+1)<(bs.length:Int):=by omega
    have HJ:Hid (NUP bs i (macc (((bs.drop (i+1)).take j).map (255 - ·))) (i+1+L)):=HT.out j (by omega);clear HT;have HM:Hid _:=zBX (((bs.drop (i+1)).take j).map (255 - ·));generalize macc (((bs.drop (i+1)).take j).map (255 - ·))=M at HJ HM
    go_wp2
    go_ret2
    exact⟨_,i+1+L,by simp,HM.out,HJ.out,by omega,rfl⟩
  ·have h1i:¬(j:Int)+1≤L:=by omega
   have HJ:Hid (NUP bs i (macc (((bs.drop (i+1)).take j).map (255 - ·))) (i+1+L)):=HT.out j (by omega);clear HT;have HM:Hid _:=zBX (((bs.drop (i+1)).take j).map (255 - ·));generalize macc (((bs.drop (i+1)).take j).map (255 - ·))=M at HJ HM
   go_wp2
   go_ret2
   exact⟨_,i+1+L,by simp,HM.out,HJ.out,by omega,rfl⟩
theorem zFp(x:Value)(bs:List Nat)(i:Nat)(w:World)(hx:RowB w x bs)(hb:∀d∈bs,d<256)(hl:bs.length≤140737488355328)(hi:i≤140737488355328):Calls prog 143 #[x,.int .i64 i] w (NUA bs i w):=by
 obtain⟨p,cap,rfl,hcap,hc⟩:=hx
 by_cases h:bs.length≤i
 ·exact zVP p cap i bs w hl hi h
 obtain⟨d0,hd⟩:∃d0,bs[i]?=some d0:=⟨_,List.getElem?_eq_getElem (by omega)⟩;obtain⟨g,o,rfl,_⟩:=hc i d0 hd
 have hc':∀i d,bs[i]?=some d→w.cell? ⟨g,o+i,none⟩=some (bv d):=fun i d hi=>by
  obtain⟨g',o',he,h2⟩:=hc i d hi;cases he;exact h2
 by_cases hs:d0<64
 ·exact zVQ g o cap d0 (64-d0) i bs w hc' hb hl hd (by omega) (by omega)
 ·exact zVO g o cap d0 (d0-64) i bs w hc' hb hl hd (by omega)
end
end Go.Proofs.YthmdjhfbhbheeaaGreatDoor
