import Derived.Shelf.Strings.BuilderK
import Derived.Lib.OthersKept
import Derived.Lib.MapLaws
import Derived.Lib.TrimU
import Derived.Stop.FmtQuoteTie
import Derived.OpenShut
import Derived.Ground.NamesProg
import Derived.Shelf.Strconv.ErrVarParseInt
import Derived.Test.YthmdjhfbhbheeaaGreatDoorProg
import Derived.Test.YthmdjhfbhbheeaaGreatDoorBk3
import Derived.Test.YthmdjhfbhbheeaaGreatDoorShB10
namespace Go.Proofs.YthmdjhfbhbheeaaGreatDoor
open Go.Proofs.Tryz
set_option maxHeartbeats 4000000
set_option maxRecDepth 100000
section
open Go.RowKit Go.Lib Go.Shelf
theorem xWS:Builder.Extra prog Tryz.laysWriteString_ren:=⟨⟨by kernel_rfl,by kernel_rfl⟩,underlying5,isAgg5,sizeOf5,zeroValue5,by kernel_rfl,by kernel_rfl,by kernel_rfl,by decide⟩
theorem xWB:Builder.Extra prog Tryz.laysWriteByte_ren:=⟨⟨by kernel_rfl,by kernel_rfl⟩,underlying5,isAgg5,sizeOf5,zeroValue5,by kernel_rfl,by kernel_rfl,by kernel_rfl,by decide⟩
theorem xBS:Builder.Extra prog Tryz.laysBuilderString_ren:=⟨⟨by kernel_rfl,by kernel_rfl⟩,underlying5,isAgg5,sizeOf5,zeroValue5,by kernel_rfl,by kernel_rfl,by kernel_rfl,by decide⟩
theorem zJI{T e B b:Nat}{p:Value}{bs:List Value}{w w':World}(h:BuilderAtF T e B b p bs w)(hk:∀(g:Nat) (c:Array Value) (x:TypeId) (fz:Nat×Nat),w.heap[g]?=some (Obj.cells c x fz)→w'.heap[g]?=some (Obj.cells c x fz)):BuilderAtF T e B b p bs w':=by
 obtain⟨hB,v,hb,hown,hne⟩:=h;refine⟨hB,v,hk _ _ _ _ hb,⟨hown.1,?_⟩,hne⟩
 rcases hown.2 with h|⟨g,cap,cur,fz,rfl,h1,h2,h3⟩
 ·exact .inl h
 ·exact .inr ⟨g,cap,cur,fz,rfl,h1,hk _ _ _ _ h2,h3⟩
theorem zWU{T e B b:Nat}{p:Value}{bs:List Value}{w w':World}(h:BuilderAtF T e B b p bs w)(g:G w w'):BuilderAtF T e B b p bs w':=
 zJI h fun k c x fz hk=>by rw[g.block k (Array.getElem?_eq_some_iff.1 hk).1];exact hk
theorem zQn{T e B b k:Nat}{p:Value}{bs:List Value}{w:World}{s:ByteArray}{pos:Nat}(h:BuilderAtF T e B b p bs w)(hk:w.heap[k]?=some (.stringIter s pos))(pos':Nat):BuilderAtF T e B b p bs (w.iterAt k s pos'):=
 zJI h fun g c x fz hg=>by
  rw[iterAt_other _ _ _ _ _ (fun e=>by subst e;rw[hk] at hg;cases hg)];exact hg
theorem zW5{w W:World}(g:G w W){k:Nat}(hk:w.heap.size≤k)(s:ByteArray)(pos:Nat):G w (W.iterAt k s pos):=
 ⟨g.os,g.tape,g.output,by simp[World.iterAt];exact g.size,fun j hj=>by rw[iterAt_other _ _ _ _ _ (by omega)];exact g.block j hj⟩
theorem zEh:∀l:List UInt8,(escS l).length≤4*l.length
 | []=>by simp[escS]
 | c::l=>by
  have e:escS (c::l)=esc1 c++escS l:=by simp[escS]
  have h:=zEh l;rw[e,List.length_append,List.length_cons]
  have:(esc1 c).length≤4:=by
   rcases zBR c with ⟨_,e⟩|⟨_,e⟩|⟨_,e⟩|⟨_,e⟩|⟨_,e⟩|e|⟨_,e⟩<;>rw[e]<;>simp
  omega
theorem zPZ(l l':List UInt8):escS (l++l')=escS l++escS l':=by simp[escS]
structure SL(w:World)(s:ByteArray)(l:List UInt8)(k pos:Nat)(W:World):Prop where
 b:BuilderAtF 180 5 w.heap.size w.heap.size (.pointer (some ⟨w.heap.size,0,none⟩)) (byteCells l) W
 k:W.heap[k]?=some (.stringIter s pos)
 g:G w W
theorem zP4(n:Nat):(Utf8.encode (n:Int)).data.toList=encodeRune (n:Int):=by
 have h:=Go.Extern.FmtText.encode_eq n;unfold encodeRune;rw[←h]
 have e:∀l:List UInt8,(l.map fun x=>((x.toNat:Int))).map (fun x=>x.toNat.toUInt8)=l:=by
  intro l
  induction l with
  | nil=>rfl
  | cons c l ih=>simp[ih]
 exact(e _).symm
theorem zPX{c:UInt8}(h:128≤c.toNat):esc1 c=[c]:=by
 have ne:∀d:UInt8,d.toNat<128→c≠d:=fun d hd e=>by subst e;omega
 unfold esc1
 rw[if_neg (ne 92 (by decide)),if_neg (ne 39 (by decide)),if_neg (ne 10 (by decide)),if_neg (ne 9 (by decide)),if_neg (ne 13 (by decide)),if_neg (by
  rintro(h'|h')
  ·omega
  ·exact ne 127 (by decide) h')]
theorem zGW:∀l:List UInt8,(∀c∈l,128≤c.toNat)→escS l=l
 | [],_=>rfl
 | c::l,h=>by
  have e:escS (c::l)=esc1 c++escS l:=by simp[escS]
  rw[e,zPX (h c (by simp)),zGW l (fun d hd=>h d (by simp[hd]))];rfl
theorem zNU(x:Int)(h1:128≤x)(h2:x≤255):128≤(x.toNat.toUInt8).toNat:=by
 show 128≤(UInt8.ofNat x.toNat).toNat;rw[UInt8.toNat_ofNat'];omega
theorem zP5(r:Int)(h:128≤r)(h1:r≤1114111):∀c∈encodeRune r,128≤c.toNat:=by
 intro c hc;unfold encodeRune at hc;obtain⟨x,hx,rfl⟩:=List.mem_map.1 hc
 have:128≤x∧x≤255:=by
  unfold encodeRuneZ at hx;rw[if_neg (by omega)] at hx
  by_cases c2:128≤r∧r≤2047
  ·rw[if_pos c2] at hx
   simp only[List.mem_cons,List.not_mem_nil,or_false] at hx;omega
  ·rw[if_neg c2] at hx
   by_cases c3:(2048≤r∧r<55296)∨(57343<r∧r≤65535)
   ·rw[if_pos c3] at hx
    simp only[List.mem_cons,List.not_mem_nil,or_false] at hx;omega
   ·rw[if_neg c3] at hx
    by_cases c4:65536≤r∧r≤1114111
    ·rw[if_pos c4] at hx
     simp only[List.mem_cons,List.not_mem_nil,or_false] at hx;omega
    ·rw[if_neg c4] at hx
     simp only[List.mem_cons,List.not_mem_nil,or_false] at hx;omega
 exact zNU x this.1 this.2
theorem zLA(s:ByteArray)(pos:Nat)(hp:pos<s.size)(hv:validD (s.data.toList.drop pos)=true) :
  let r:=(Utf8.decode s pos).1;let n:=(Utf8.decode s pos).2
  1≤n∧pos+n≤s.size∧r≤1114111∧validD (s.data.toList.drop (pos+n))=true∧(if (r:Int)<128 then strU (esc1 (UInt8.ofNat (r:Int).toNat))else Utf8.encode (r:Int)).data.toList=escS ((s.data.toList.drop pos).take n):=by
 intro r n;have hne:=zNF s pos hp;have hdd:=zJs s pos;have hP:=zIZ s pos hp;have hv':=validD_step (s.data.toList.drop pos) hne;rw[hdd] at hv'
 rcases hP with ⟨_,h2⟩|⟨_,h2,h3,h4⟩
 ·rw[if_pos (by rw[h2];exact⟨rfl,rfl⟩)] at hv'
  rw[hv] at hv';cases hv'
 rw[if_neg h4,List.drop_drop] at hv';have hed:=encode_decode (s.data.toList.drop pos) hne (by rw[hdd];exact h4);rw[hdd] at hed;refine⟨h2,by omega,rune_le s pos,by rw[←hv'];exact hv,?_⟩
 ·by_cases hr:(r:Int)<128
  ·rw[if_pos hr,zAK]
   have h1:encodeRune (r:Int)=[UInt8.ofNat r]:=by
    unfold encodeRune;rw[encodeRuneZ_one (by omega) (by omega)];rfl
   rw[←hed,h1];simp[escS]
  ·rw[if_neg hr,zP4,hed]
   refine(zGW _ fun c hc=>?_).symm;rw[←hed] at hc;exact zP5 _ (by omega) (by have:=rune_le s pos;omega) c hc
theorem zTy(s:ByteArray)(hv:validD s.data.toList=true)(hs:s.size≤32):ILit (.iface 137 (.string s)) (39::escS s.data.toList++[39]):=by
 refine⟨_,257,_,rfl,fun w=>by kernel_rfl,fun w=>by simp[go_sem],fun w hE=>?_⟩;have HE:Hid _:=hE;clear hE
 go_enter func257,ntmps257
 have hb0:BuilderAtF 180 5 w.heap.size w.heap.size (.pointer none) [] (w.alloc (.cells #[.pointer none,.slice none 0 0] 180)):=⟨Nat.le_refl _,.slice none 0 0,by show(w.heap.push _)[w.heap.size]?=_;simp,⟨rfl,.inl ⟨rfl,rfl⟩⟩,by simp[Value.ownBlock]⟩;have HW:Hid (Calls prog 161 #[.pointer (some ⟨w.heap.size,0,none⟩),.int .u8 39] (w.alloc (.cells #[.pointer none,.slice none 0 0] 180)) fun e w'=>e=.returned .nilIface∧(BuilderAtF 180 5 w.heap.size w.heap.size (.pointer (some ⟨w.heap.size,0,none⟩)) (byteCells [39]) w'∧Below w.heap.size (w.alloc (.cells #[.pointer none,.slice none 0 0] 180)) w'∧OthersKept 5 (some w.heap.size) (w.alloc (.cells #[.pointer none,.slice none 0 0] 180)) w')):=Any.Builder_WriteByte_k Tryz.laysWriteByte xWB w.heap.size w.heap.size [] 39 _ (.inl hb0) (by simp) (by simp);clear hb0
 go_wp2_with fail
 refine HW.out.mono ?_;rintro e w1 ⟨rfl,hb1,hbe,_⟩;have hg1:G w w1:=Below.trans (G.alloc (G.refl w) _) hbe;have hS:SL w s [39] w1.heap.size 0 (w1.iter s 0):=⟨hb1.alloc _,World.iter_heap w1 s 0,hg1.alloc _⟩;have hsz:=hg1.size;have hbl:=hb1.lt;clear hb1 hbe hg1 HW;have HS:Hid _:=hS;have HV:Hid _:=hv;clear hS hv
 go_wp2_with fail
 go_loopw [] (fun W=>∃pos,pos≤s.size∧validD (s.data.toList.drop pos)=true∧SL w s (39::escS (s.data.toList.take pos)) w1.heap.size pos W) (fun W=>s.size-W.iterPos w1.heap.size)
 case atStart=>exact⟨0,Nat.zero_le _,by rw[List.drop_zero];exact HV.out,HS.out⟩
 case round=>
  obtain⟨pos,hpos,hvp,hSL⟩:=hrel
  by_cases hp:pos<s.size
  ·have hnx:=fun ty=>run_next_any_at (P:=prog) wr w1.heap.size s pos ty hSL.k hp
   have hip:wr.iterPos w1.heap.size=pos:=iterPos_of hSL.k;have HIP:Hid _:=hip;clear hip;have HSL:Hid _:=hSL;have HR:Hid _:=zLA s pos hp hvp;clear hSL;have HS1:Hid (SL w s (39::escS (s.data.toList.take pos)) w1.heap.size (pos+(Utf8.decode s pos).2) (wr.iterAt w1.heap.size s (pos+(Utf8.decode s pos).2))):=⟨zQn HSL.out.b HSL.out.k _,iterAt_heap _ _ _ _ _ HSL.out.k,zW5 HSL.out.g hsz _ _⟩;clear HSL;generalize wr.iterAt w1.heap.size s (pos+(Utf8.decode s pos).2)=w2 at HS1 hnx
   go_wp2_with fail
   obtain⟨q1,q2,q3,q4,q5⟩:=HR.out;refine(zIa ((Utf8.decode s pos).1:Int) (by omega) (by omega) w2 (HE.out.G HS1.out.g)).mono ?_;rintro e w3 ⟨rfl,g3⟩;generalize hx:(if ((Utf8.decode s pos).1:Int)<128 then strU (esc1 (UInt8.ofNat ((Utf8.decode s pos).1:Int).toNat))else Utf8.encode ((Utf8.decode s pos).1:Int))=x at q5⊢;have hkl:w1.heap.size<w2.heap.size:=(Array.getElem?_eq_some_iff.1 HS1.out.k).1;have HS3:Hid (SL w s (39::escS (s.data.toList.take pos)) w1.heap.size (pos+(Utf8.decode s pos).2) w3):=⟨zWU HS1.out.b g3,by rw[g3.block _ hkl];exact HS1.out.k,HS1.out.g.trans g3⟩;have HQ5:Hid _:=q5;clear hx q5 g3 HS1 HR
   have hxl:x.data.toList.length=x.size:=by rw[Array.length_toList];rfl
   have hx4:x.size≤128:=by
    rw[←hxl,HQ5.out];have:=zEh ((s.data.toList.drop pos).take (Utf8.decode s pos).2)
    have h2:((s.data.toList.drop pos).take (Utf8.decode s pos).2).length≤32:=by
     rw[List.length_take,List.length_drop,Array.length_toList];have:s.data.size=s.size:=rfl;omega
    omega
   have hl4:(byteCells (39::escS (s.data.toList.take pos))).length≤129:=by
    rw[byteCells_length,List.length_cons];have:=zEh (s.data.toList.take pos)
    have h2:(s.data.toList.take pos).length≤32:=by
     rw[List.length_take];omega
    omega
   have HEQ:Hid (byteCells (39::escS (s.data.toList.take pos))++strCells x=byteCells (39::escS (s.data.toList.take (pos+(Utf8.decode s pos).2)))):=by
    unfold Hid;rw[List.take_add,zPZ,←HQ5.out];simp[byteCells,strCells]
   have HWS:Hid (Calls prog 261 #[.pointer (some ⟨w.heap.size,0,none⟩),.string x] w3 fun e w'=>e=.returned (.tuple #[.int .i64 x.size,.nilIface])∧(BuilderAtF 180 5 w.heap.size w.heap.size (.pointer (some ⟨w.heap.size,0,none⟩)) (byteCells (39::escS (s.data.toList.take pos))++strCells x) w'∧Below w.heap.size w3 w'∧OthersKept 5 (some w.heap.size) w3 w')):=Any.Builder_WriteString_k Tryz.laysWriteString xWS w.heap.size w.heap.size _ x w3 (.inr HS3.out.b) (by omega) HS3.out.g.size;clear HQ5 hx4 hl4 hxl
   go_wp2_with fail
   refine HWS.out.mono ?_;rintro e w4 ⟨rfl,hb4,hbe,hok⟩;rw[HEQ.out] at hb4;have HS4:Hid (SL w s (39::escS (s.data.toList.take (pos+(Utf8.decode s pos).2))) w1.heap.size (pos+(Utf8.decode s pos).2) w4):=⟨hb4,hok _ _ HS3.out.k (by simp;omega) (fun c fz h=>by cases h),Below.trans HS3.out.g hbe⟩;have HI4:Hid (w4.iterPos w1.heap.size=pos+(Utf8.decode s pos).2):=iterPos_of HS4.out.k;clear hb4 hbe hok HS3 HEQ HWS
   go_wp2
   go_roundw
   case rel=>exact⟨_,q2,q4,HS4.out⟩
   case measure=>rw[HI4.out,HIP.out];omega
  ·have hnx:=fun ty=>run_next_end_at (P:=prog) wr w1.heap.size s pos ty hSL.k hp
   have HSL:Hid _:=hSL;clear hSL
   have hpe:pos=s.size:=by omega
   have htk:s.data.toList.take pos=s.data.toList:=List.take_of_length_le (by rw[Array.length_toList,hpe];exact Nat.le_refl _);rw[htk] at HSL
   have hl4:(byteCells (39::escS s.data.toList)).length+1≤140737488355328:=by
    rw[byteCells_length,List.length_cons];have:=zEh s.data.toList
    have h2:s.data.toList.length≤32:=by rw[Array.length_toList];exact hs
    omega
   have HW2:Hid (Calls prog 161 #[.pointer (some ⟨w.heap.size,0,none⟩),.int .u8 39] wr fun e w'=>e=.returned .nilIface∧(BuilderAtF 180 5 w.heap.size w.heap.size (.pointer (some ⟨w.heap.size,0,none⟩)) (byteCells (39::escS s.data.toList)++[.int .u8 39]) w'∧Below w.heap.size wr w'∧OthersKept 5 (some w.heap.size) wr w')):=Any.Builder_WriteByte_k Tryz.laysWriteByte xWB w.heap.size w.heap.size _ 39 wr (.inr HSL.out.b) hl4 HSL.out.g.size;have HGr:Hid (G w wr):=HSL.out.g;clear HSL htk hpe hl4
   go_wp2_with fail
   refine HW2.out.mono ?_;rintro e w5 ⟨rfl,hb5,hbe5,_⟩
   have heq:byteCells (39::escS s.data.toList)++[.int .u8 39]=byteCells (39::escS s.data.toList++[39]):=by simp[byteCells]
   rw[heq] at hb5;have HST:Hid (Calls prog 162 #[.pointer (some ⟨w.heap.size,0,none⟩)] w5 fun e w'=>e=.returned (.string ⟨(39::escS s.data.toList++[39]).toArray⟩)∧(IsBuilderF 180 5 w.heap.size w.heap.size (byteCells (39::escS s.data.toList++[39])) w'∧Below w.heap.size w5 w'∧OthersKept 5 (some w.heap.size) w5 w')):=Any.Builder_String_k Tryz.laysBuilderString xBS w.heap.size w.heap.size _ w5 (.inr hb5) (by simp);have HG5:Hid (G w w5):=Below.trans HGr.out hbe5;clear hb5 hbe5 heq HW2 HGr
   go_wp2_with fail
   refine HST.out.mono ?_;rintro e w6 ⟨rfl,_,hbe6,_⟩;have HG6:Hid (G w w6):=Below.trans HG5.out hbe6;clear hbe6 HST HG5
   go_wp2
   go_ret;exact⟨rfl,HG6.out⟩
end
section
open Go.RowKit Go.Lib Go.Shelf
theorem zJh(k a b:Int)(s:ByteArray)(h:okV k a b s=true)(ha:R64 a):ILit (zAb k a b s) (litV k a b s):=by
 have hk:=zAp k a b s h
 have:k=0∨k=1∨k=2∨k=3∨k=4∨k=5∨k=6:=by omega
 rcases this with rfl|rfl|rfl|rfl|rfl|rfl|rfl
 ·rw[zEK h];exact zPH
 ·rw[zDu h]
  obtain⟨hx,rfl,rfl⟩:=ok_1 h
  rcases hx with rfl|rfl
  ·exact zGO false
  ·exact zGO true
 ·rw[zAP h];exact zNe a ha
 ·rw[zBO h]
  obtain⟨h1,h2,rfl⟩:=ok_3 h;exact zTz (fl a) (fl b) a b (Fl.ofInt a (by omega)) (Fl.ofInt b (by omega)) (by omega) (by omega)
 ·rw[zBB h]
  obtain⟨rfl,rfl,h1,h2⟩:=ok_4 h;exact zTy s h2 h1
 ·rw[zE4 h];exact zPI a ha
 ·rw[zE3 h];exact zPJ a ha
theorem zMj(k a b:Int)(s:ByteArray)(h:okV k a b s=true)(ha:R64 a)(w:World)(hE:Env w):CG 55 #[V k a b s] w (.string (strU (litV k a b s))):=by
 have HI:Hid (∀w,Tabs w→CG 25 #[V k a b s] w (.tuple #[zAb k a b s,.bool (okV k a b s)])):=zAi k a b s;rw[h] at HI;have HL:Hid _:=zJh k a b s h ha;have HE:Hid _:=hE;clear hE h ha;generalize zAb k a b s=x at HI HL;generalize litV k a b s=l at HL;obtain⟨t,f,u,rfl,hm,hc,hl⟩:=HL.out;have HF:Hid _:=hl;clear hl HL
 go_enter func55,ntmps55
 go_wp2_with fail
 refine(HI.out _ (Tabs.G HE.out.t ((G.refl w).alloc _))).mono ?_;rintro e w1 ⟨rfl,hb⟩;have HG1:Hid (G w w1):=G.trans ((G.refl w).alloc _) hb;clear hb
 go_wp2_with fail
 refine(HF.out w1 (HE.out.G HG1.out)).mono ?_;rintro e w2 ⟨rfl,hb⟩;have HG2:Hid (G w w2):=HG1.out.trans hb;clear hb
 go_wp2
 go_ret;exact⟨rfl,HG2.out⟩
theorem zPk(k a b:Int)(s:ByteArray)(h:okV k a b s=false)(w:World)(hE:Env w):CG 55 #[V k a b s] w (.string (strU [])):=by
 have HI:Hid (∀w,Tabs w→CG 25 #[V k a b s] w (.tuple #[zAb k a b s,.bool (okV k a b s)])):=zAi k a b s;rw[h] at HI;have HE:Hid _:=hE;clear hE h;generalize zAb k a b s=x at HI
 go_enter func55,ntmps55
 go_wp2_with fail
 refine(HI.out _ (Tabs.G HE.out.t ((G.refl w).alloc _))).mono ?_;rintro e w1 ⟨rfl,hb⟩;have HG1:Hid (G w w1):=G.trans ((G.refl w).alloc _) hb;clear hb
 go_wp2
 go_ret;exact⟨rfl,HG1.out⟩
end
section
open Go.RowKit Go.Lib Go.Shelf
def lowF(c:Int):Int:=bits BinOp.or IntKind.u8 c 32
theorem zML(c:Int):0≤lowF c∧lowF c≤255:=bounds_u8 (wf_bits BinOp.or IntKind.u8 c 32)
theorem zPE(c:Int)(h1:97≤c)(h2:c≤102):lowF c=c:=by
 have:c=97∨c=98∨c=99∨c=100∨c=101∨c=102:=by omega
 rcases this with rfl|rfl|rfl|rfl|rfl|rfl<;>decide
theorem zMK(c:Int)(w:World):Calls prog 195 #[.int .u8 c] w fun e w'=>e=.returned (.int .u8 (lowF c))∧w'=w:=by
 go_enter func195,ntmps195
 go_wp2
 go_ret;exact⟨rfl,rfl⟩
noncomputable def dgF(c:Int):Option Int:=if 48≤c∧c≤57 then some (c-48)else if 97≤lowF c∧lowF c≤102 then some (lowF c-87)else none
theorem zWf:∀d,d<16→(hx d).toNat=if d<10 then 48+d else 87+d:=by decide
theorem zRq(d:Nat)(h:d<16):dgF ((hx d).toNat:Int)=some (d:Int):=by
 rw[zWf d h];unfold dgF
 by_cases c:d<10
 ·rw[if_pos c,if_pos (by omega)];congr 1;omega
 ·rw[if_neg c,if_neg (by omega),zPE _ (by omega) (by omega),if_pos (by omega)];congr 1;omega
theorem zNK{c d:Int}(h:dgF c=some d):0≤d∧d<16:=by
 unfold dgF at h
 by_cases c1:48≤c∧c≤57
 ·rw[if_pos c1] at h;cases h;omega
 ·rw[if_neg c1] at h
  by_cases c2:97≤lowF c∧lowF c≤102
  ·rw[if_pos c2] at h;cases h;omega
  ·rw[if_neg c2] at h;cases h
theorem zVE(x y:UInt8)(w:World):Calls prog 185 #[.string (strU [x,y]),.int .i64 16,.int .i64 8] w fun e w'=>
  ((∃p q:Int,dgF x.toNat=some p∧dgF y.toNat=some q∧e=.returned (.tuple #[.int .u64 (16*p+q),.nilIface]))∨((dgF x.toNat=none∨dgF y.toNat=none)∧e=.returned (.tuple #[.int .u64 0,.iface 204 (.int .i64 2)])))∧G w w':=by
 have hem:(strU [x,y]).toList.isEmpty=false:=by rw[ByteArray.toList_eq];rfl
 have hsz:(strU [x,y]).size=2:=rfl;have hcv:(convert 9 33 (.string (strU [x,y]))).run prog w=.ok (.slice (some ⟨w.heap.size,0,none⟩) 2 (grownCap w 2 0 5)) (bytesWorld w 5 (strU [x,y])):=Lib.run_convert_string_bytes w 9 33 5 (strU [x,y]) underlying9 underlying33 underlying5;have HG:Hid (G w (bytesWorld w 5 (strU [x,y]))):=⟨rfl,rfl,rfl,by rw[bytesWorld_size];omega,fun j hj=>bytesWorld_at_old w 5 _ j hj⟩;have h0:(bytesWorld w 5 (strU [x,y])).cell? ⟨w.heap.size,0,none⟩=some (.int .u8 x.toNat):=bytesWorld_cell w 5 (strU [x,y]) 0 (by show 0<2;decide);have h1:(bytesWorld w 5 (strU [x,y])).cell? ⟨w.heap.size,1,none⟩=some (.int .u8 y.toNat):=bytesWorld_cell w 5 (strU [x,y]) 1 (by show 1<2;decide);have hxl:=x.toNat_lt;have hyl:=y.toNat_lt;generalize hwb:bytesWorld w 5 (strU [x,y])=wb at hcv HG h0 h1;clear hwb;have HL:Hid (∀c w,Calls prog 195 #[.int .u8 c] w fun e w'=>e=.returned (.int .u8 (lowF c))∧w'=w):=zMK
 go_enter func185,ntmps185
 go_wp2_with fail
 go_loopw [12,13,101] (fun u n i W=>∃m:Nat,m≤2∧i=.int .i64 m∧u=.bool false∧W=wb∧((m=0∧n=.int .u64 0)∨(m=1∧∃p,dgF x.toNat=some p∧n=.int .u64 p)∨(m=2∧∃p q,dgF x.toNat=some p∧dgF y.toNat=some q∧n=.int .u64 (16*p+q)))) (fun _ _ i _=>2-(RowKit.intOf i).toNat)
 case atStart=>exact⟨0,by decide,rfl,rfl,rfl,.inl ⟨rfl,rfl⟩⟩
 case round=>
  obtain⟨m,hm,rfl,rfl,rfl,hr⟩:=hrel
  rcases hr with ⟨rfl,rfl⟩|⟨rfl,p,hp,rfl⟩|⟨rfl,p,q,hp,hq,rfl⟩
  ·by_cases c1:48≤x.toNat∧x.toNat≤57
   ·have HD:Hid (dgF x.toNat=some ((x.toNat:Int)-48)):=by unfold Hid dgF;rw[if_pos (by omega)]
    have k1:(48:Int)≤(x.toNat:Int):=by omega
    have k2:(x.toNat:Int)≤57:=by omega
    have k3:((x.toNat:Int)==95)=false:=beq_false_of_ne (by omega)
    go_wp2_with fail
    exact⟨⟨1,by decide,rfl,rfl,trivial,.inr (.inl ⟨rfl,_,HD.out,rfl⟩)⟩,by decide⟩
   by_cases c95:x.toNat=95
   ·have e95:(x.toNat:Int)=95:=by omega
    have HD:Hid (dgF x.toNat=none):=by
     unfold Hid;rw[e95,dgF,if_neg (by omega),show lowF 95=127 by decide,if_neg (by omega)]
    have HZ:Hid (∀w,Calls prog 195 #[.int .u8 95] w fun e w'=>e=.returned (.int .u8 127)∧w'=w):=fun w=>by
     have:=HL.out 95 w
     rwa [show lowF 95=127 by decide] at this
    rw[e95] at h0;clear HL
    go_wp2_with (go_at_call 195;refine(HZ.out _).mono ?_;rintro e w9 ⟨rfl,hw⟩;rw[hw];clear hw w9)
    all_goals (go_ret2;exact⟨.inr ⟨.inl HD.out,rfl⟩,HG.out⟩)
   ·have k3:((x.toNat:Int)==95)=false:=beq_false_of_ne (by omega)
    have hlb:=zML (x.toNat:Int)
    have k0:¬((48:Int)≤(x.toNat:Int)∧(x.toNat:Int)≤57):=by omega
    have HDX:Hid (dgF x.toNat=if 97≤lowF (x.toNat:Int)∧lowF (x.toNat:Int)≤102 then some (lowF (x.toNat:Int)-87)else none):=by unfold Hid;rw[dgF,if_neg k0]
    have HZ:Hid (∀w,Calls prog 195 #[.int .u8 x.toNat] w fun e w'=>e=.returned (.int .u8 (lowF x.toNat))∧w'=w):=HL.out _;generalize lowF (x.toNat:Int)=L at hlb HDX HZ;obtain⟨hL0,hL1⟩:=hlb;clear HL
    by_cases d1:97≤L
    ·by_cases d2:L≤102
     ·have HD:Hid (dgF x.toNat=some (L-87)):=by rw[HDX.out,if_pos ⟨d1,d2⟩];exact rfl
      have d3:L≤122:=by omega
      clear HDX
      go_wp2_with (go_at_call 195;refine(HZ.out _).mono ?_;rintro e w9 ⟨rfl,hw⟩;rw[hw];clear hw w9)
      all_goals exact⟨⟨1,by decide,rfl,rfl,trivial,.inr (.inl ⟨rfl,_,HD.out,by congr 1;omega⟩)⟩,by decide⟩
     ·have HD:Hid (dgF x.toNat=none):=by rw[HDX.out,if_neg (by omega)];exact rfl
      clear HDX
      by_cases d3:L≤122
      iterate 2
       ·go_wp2_with (go_at_call 195;refine(HZ.out _).mono ?_;rintro e w9 ⟨rfl,hw⟩;rw[hw];clear hw w9)
        all_goals (go_ret2;exact⟨.inr ⟨.inl HD.out,rfl⟩,HG.out⟩)
    ·have HD:Hid (dgF x.toNat=none):=by rw[HDX.out,if_neg (by omega)];exact rfl
     clear HDX
     go_wp2_with (go_at_call 195;refine(HZ.out _).mono ?_;rintro e w9 ⟨rfl,hw⟩;rw[hw];clear hw w9)
     all_goals (go_ret2;exact⟨.inr ⟨.inl HD.out,rfl⟩,HG.out⟩)
  ·have hpb:=zNK hp
   obtain⟨hp0,hp1⟩:=hpb;have HP:Hid _:=hp;clear hp
   by_cases c1:48≤y.toNat∧y.toNat≤57
   ·have HD:Hid (dgF y.toNat=some ((y.toNat:Int)-48)):=by unfold Hid dgF;rw[if_pos (by omega)]
    have k1:(48:Int)≤(y.toNat:Int):=by omega
    have k2:(y.toNat:Int)≤57:=by omega
    have k3:((y.toNat:Int)==95)=false:=beq_false_of_ne (by omega)
    go_wp2_with fail
    exact⟨⟨2,by decide,rfl,rfl,trivial,.inr (.inr ⟨rfl,_,_,HP.out,HD.out,by congr 1;omega⟩)⟩,by decide⟩
   by_cases c95:y.toNat=95
   ·have e95:(y.toNat:Int)=95:=by omega
    have HD:Hid (dgF y.toNat=none):=by
     unfold Hid;rw[e95,dgF,if_neg (by omega),show lowF 95=127 by decide,if_neg (by omega)]
    have HZ:Hid (∀w,Calls prog 195 #[.int .u8 95] w fun e w'=>e=.returned (.int .u8 127)∧w'=w):=fun w=>by
     have:=HL.out 95 w
     rwa [show lowF 95=127 by decide] at this
    rw[e95] at h1;clear HL
    go_wp2_with (go_at_call 195;refine(HZ.out _).mono ?_;rintro e w9 ⟨rfl,hw⟩;rw[hw];clear hw w9)
    all_goals (go_ret2;exact⟨.inr ⟨.inr HD.out,rfl⟩,HG.out⟩)
   ·have k3:((y.toNat:Int)==95)=false:=beq_false_of_ne (by omega)
    have hlb:=zML (y.toNat:Int)
    have k0:¬((48:Int)≤(y.toNat:Int)∧(y.toNat:Int)≤57):=by omega
    have HDX:Hid (dgF y.toNat=if 97≤lowF (y.toNat:Int)∧lowF (y.toNat:Int)≤102 then some (lowF (y.toNat:Int)-87)else none):=by unfold Hid;rw[dgF,if_neg k0]
    have HZ:Hid (∀w,Calls prog 195 #[.int .u8 y.toNat] w fun e w'=>e=.returned (.int .u8 (lowF y.toNat))∧w'=w):=HL.out _;generalize lowF (y.toNat:Int)=L at hlb HDX HZ;obtain⟨hL0,hL1⟩:=hlb;clear HL
    by_cases d1:97≤L
    ·by_cases d2:L≤102
     ·have HD:Hid (dgF y.toNat=some (L-87)):=by rw[HDX.out,if_pos ⟨d1,d2⟩];exact rfl
      have d3:L≤122:=by omega
      clear HDX
      go_wp2_with (go_at_call 195;refine(HZ.out _).mono ?_;rintro e w9 ⟨rfl,hw⟩;rw[hw];clear hw w9)
      all_goals exact⟨⟨2,by decide,rfl,rfl,trivial,.inr (.inr ⟨rfl,_,_,HP.out,HD.out,by congr 1;omega⟩)⟩,by decide⟩
     ·have HD:Hid (dgF y.toNat=none):=by rw[HDX.out,if_neg (by omega)];exact rfl
      clear HDX
      by_cases d3:L≤122
      iterate 2
       ·go_wp2_with (go_at_call 195;refine(HZ.out _).mono ?_;rintro e w9 ⟨rfl,hw⟩;rw[hw];clear hw w9)
        all_goals (go_ret2;exact⟨.inr ⟨.inr HD.out,rfl⟩,HG.out⟩)
    ·have HD:Hid (dgF y.toNat=none):=by rw[HDX.out,if_neg (by omega)];exact rfl
     clear HDX
     go_wp2_with (go_at_call 195;refine(HZ.out _).mono ?_;rintro e w9 ⟨rfl,hw⟩;rw[hw];clear hw w9)
     all_goals (go_ret2;exact⟨.inr ⟨.inr HD.out,rfl⟩,HG.out⟩)
  ·have HP:Hid _:=hp
   have HQ:Hid _:=hq;clear hp hq
   go_wp2
   go_ret2
   exact⟨.inl ⟨p,q,HP.out,HQ.out,rfl⟩,HG.out⟩
end
end Go.Proofs.YthmdjhfbhbheeaaGreatDoor
namespace Go.Proofs
open Go.Shelf
def Tryz.laysToError_ren:Go.Shelf.Ren:=⟨fun|245=>177|279=>187|280=>188|281=>189|282=>190|316=>197|171=>199|205=>198|243=>202|246=>203|283=>204|284=>205|285=>206|286=>207|129=>209|317=>208|318=>210|319=>211|320=>212|337=>213|338=>214|n=>n,fun|9=>9|3=>3|75=>184|167=>204|4=>4|168=>205|210=>213|37=>33|0=>0|127=>199|145=>221|143=>219|2=>2|171=>92|53=>134|5=>5|173=>224|212=>227|51=>208|20=>20|213=>228|46=>168|232=>231|233=>232|80=>124|n=>n,fun|15=>6|16=>7|17=>8|18=>9|19=>10|n=>n⟩
theorem Tryz.laysToError:Go.Proofs.LaysC.n245 Tryz.prog Tryz.laysToError_ren:={
 mixed:=by kernel_rfl
 f129:=Tryz.func209.trans (congrArg some (by kernel_rfl))
 f171:=Tryz.func199.trans (congrArg some (by kernel_rfl))
 f205:=Tryz.func198.trans (congrArg some (by kernel_rfl))
 f243:=Tryz.func202.trans (congrArg some (by kernel_rfl))
 f245:=Tryz.func177.trans (congrArg some (by kernel_rfl))
 f246:=Tryz.func203.trans (congrArg some (by kernel_rfl))
 f279:=Tryz.func187.trans (congrArg some (by kernel_rfl))
 f280:=Tryz.func188.trans (congrArg some (by kernel_rfl))
 f281:=Tryz.func189.trans (congrArg some (by kernel_rfl))
 f282:=Tryz.func190.trans (congrArg some (by kernel_rfl))
 f283:=Tryz.func204.trans (congrArg some (by kernel_rfl))
 f284:=Tryz.func205.trans (congrArg some (by kernel_rfl))
 f285:=Tryz.func206.trans (congrArg some (by kernel_rfl))
 f286:=Tryz.func207.trans (congrArg some (by kernel_rfl))
 f316:=Tryz.func197.trans (congrArg some (by kernel_rfl))
 f317:=Tryz.func208.trans (congrArg some (by kernel_rfl))
 f318:=Tryz.func210.trans (congrArg some (by kernel_rfl))
 f319:=Tryz.func211.trans (congrArg some (by kernel_rfl))
 f320:=Tryz.func212.trans (congrArg some (by kernel_rfl))
 f337:=Tryz.func213.trans (congrArg some (by kernel_rfl))
 f338:=Tryz.func214.trans (congrArg some (by kernel_rfl))
 t0:=Tryz.underlying0
 a0:=Tryz.isAgg0
 z0:=Tryz.sizeOf0
 v0:=Tryz.zeroValue0
 t2:=Tryz.underlying2
 a2:=Tryz.isAgg2
 z2:=Tryz.sizeOf2
 v2:=Tryz.zeroValue2
 t3:=Tryz.underlying3
 a3:=Tryz.isAgg3
 z3:=Tryz.sizeOf3
 v3:=Tryz.zeroValue3
 t4:=Tryz.underlying4
 a4:=Tryz.isAgg4
 z4:=Tryz.sizeOf4
 v4:=Tryz.zeroValue4
 t5:=Tryz.underlying5
 a5:=Tryz.isAgg5
 z5:=Tryz.sizeOf5
 v5:=Tryz.zeroValue5
 t9:=Tryz.underlying9
 a9:=Tryz.isAgg9
 z9:=Tryz.sizeOf9
 v9:=Tryz.zeroValue9
 t20:=Tryz.underlying20
 a20:=Tryz.isAgg20
 z20:=Tryz.sizeOf20
 v20:=Tryz.zeroValue20
 t37:=Tryz.underlying33
 a37:=Tryz.isAgg33
 z37:=Tryz.sizeOf33
 v37:=Tryz.zeroValue33
 t46:=Tryz.underlying168
 a46:=Tryz.isAgg168
 z46:=Tryz.sizeOf168
 v46:=Tryz.zeroValue168
 t51:=Tryz.underlying208
 a51:=Tryz.isAgg208
 z51:=Tryz.sizeOf208
 v51:=Tryz.zeroValue208
 t53:=Tryz.underlying134
 a53:=Tryz.isAgg134
 z53:=Tryz.sizeOf134
 v53:=Tryz.zeroValue134
 t75:=Tryz.underlying184
 a75:=Tryz.isAgg184
 z75:=Tryz.sizeOf184
 v75:=Tryz.zeroValue184
 t127:=Tryz.underlying199
 a127:=Tryz.isAgg199
 z127:=Tryz.sizeOf199
 v127:=Tryz.zeroValue199
 t143:=Tryz.underlying219
 a143:=Tryz.isAgg219
 z143:=Tryz.sizeOf219
 v143:=Tryz.zeroValue219
 t145:=Tryz.underlying221
 a145:=Tryz.isAgg221
 z145:=Tryz.sizeOf221
 v145:=Tryz.zeroValue221
 t167:=Tryz.underlying204
 a167:=Tryz.isAgg204
 z167:=Tryz.sizeOf204
 v167:=Tryz.zeroValue204
 t168:=Tryz.underlying205
 a168:=Tryz.isAgg205
 z168:=Tryz.sizeOf205
 v168:=Tryz.zeroValue205
 t171:=Tryz.underlying92
 a171:=Tryz.isAgg92
 z171:=Tryz.sizeOf92
 v171:=Tryz.zeroValue92
 t173:=Tryz.underlying224
 a173:=Tryz.isAgg224
 z173:=Tryz.sizeOf224
 v173:=Tryz.zeroValue224
 t210:=Tryz.underlying213
 a210:=Tryz.isAgg213
 z210:=Tryz.sizeOf213
 v210:=Tryz.zeroValue213
 t212:=Tryz.underlying227
 a212:=Tryz.isAgg227
 z212:=Tryz.sizeOf227
 v212:=Tryz.zeroValue227
 t213:=Tryz.underlying228
 a213:=Tryz.isAgg228
 z213:=Tryz.sizeOf228
 t232:=Tryz.underlying231
 a232:=Tryz.isAgg231
 z232:=Tryz.sizeOf231
 v232:=Tryz.zeroValue231
 t233:=Tryz.underlying232
 a233:=Tryz.isAgg232
 z233:=Tryz.sizeOf232
 v233:=Tryz.zeroValue232
 g15:=by kernel_rfl
 g16:=by kernel_rfl
 g17:=by kernel_rfl
 g18:=by kernel_rfl
 g19:=by kernel_rfl
 t80:=Tryz.underlying124
 a80:=Tryz.isAgg124
 z80:=Tryz.sizeOf124
 v80:=Tryz.zeroValue124
 i0:=by kernel_rfl
 i2:=by kernel_rfl
 i3:=by kernel_rfl
 i4:=by kernel_rfl
 i5:=by kernel_rfl
 i9:=by kernel_rfl
 i20:=by kernel_rfl
 i37:=by kernel_rfl
 i46:=by kernel_rfl
 i51:=by kernel_rfl
 i53:=by kernel_rfl
 i75:=by kernel_rfl
 i80:=by kernel_rfl
 i127:=by kernel_rfl
 i143:=by kernel_rfl
 i145:=by kernel_rfl
 i167:=by kernel_rfl
 i168:=by kernel_rfl
 i171:=by kernel_rfl
 i173:=by kernel_rfl
 i210:=by kernel_rfl
 i212:=by kernel_rfl
 i232:=by kernel_rfl
 i233:=by kernel_rfl
 m15:=by kernel_rfl
 m16:=by kernel_rfl
 m17:=by kernel_rfl
 m18:=by kernel_rfl
 m19:=by kernel_rfl
 c0:=by kernel_rfl
 c2:=by kernel_rfl
 c3:=by kernel_rfl
 c4:=by kernel_rfl
 c5:=by kernel_rfl
 c9:=by kernel_rfl
 c20:=by kernel_rfl
 c37:=by kernel_rfl
 c46:=by kernel_rfl
 c51:=by kernel_rfl
 c53:=by kernel_rfl
 c75:=by kernel_rfl
 c80:=by kernel_rfl
 c127:=by kernel_rfl
 c143:=by kernel_rfl
 c145:=by kernel_rfl
 c167:=by kernel_rfl
 c168:=by kernel_rfl
 c171:=by kernel_rfl
 c173:=by kernel_rfl
 c210:=by kernel_rfl
 c212:=by kernel_rfl
 c213:=by kernel_rfl
 c232:=by kernel_rfl
 c233:=by kernel_rfl}
end Go.Proofs
