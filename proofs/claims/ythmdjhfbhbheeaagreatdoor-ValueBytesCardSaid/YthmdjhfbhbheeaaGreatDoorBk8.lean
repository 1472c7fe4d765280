import Derived.Test.YthmdjhfbhbheeaaGreatDoorShB11
namespace Go.Proofs.YthmdjhfbhbheeaaGreatDoor
open Go.Proofs.Tryz
set_option maxHeartbeats 4000000
set_option maxRecDepth 100000
section
open Go.RowKit Go.Lib Go.Shelf
theorem zVI(x y:UInt8)(w:World)(hE:Env w):Calls prog 174 #[.string (strU [x,y]),.int .i64 16,.int .i64 8] w fun e w'=>∃(u:Int) (ev:Value),e=.returned (.tuple #[.int .u64 u,ev])∧(0≤u∧u<256)∧(∀p q,dgF x.toNat=some p→dgF y.toNat=some q→u=16*p+q)∧G w w':=by
 have HP:Hid _:=zVE x y;have HE:Hid _:=hE;clear hE
 go_enter func174,ntmps174
 go_wp2_with fail
 refine(HP.out w).mono ?_;rintro e w1 ⟨hc,hg⟩
 rcases hc with ⟨p,q,hp,hq,rfl⟩|⟨hn,rfl⟩
 ·have hb1:=zNK hp
  have hb2:=zNK hq
  have HA:Hid (∀p' q',dgF x.toNat=some p'→dgF y.toNat=some q'→16*p+q=16*p'+q'):=fun p' q' h h'=>by
   rw[hp] at h;rw[hq] at h';cases h;cases h';rfl
  have HB:Hid (0≤16*p+q∧16*p+q<256):=by unfold Hid;omega
  have HG:Hid _:=hg;clear hp hq hb1 hb2 hg
  go_wp2
  go_ret2
  exact⟨_,_,rfl,HB.out,HA.out,HG.out⟩
 ·obtain⟨tp,pp,hv⟩:=(HE.out.G hg).s
  have hcell:w1.cell? ⟨6,0,none⟩=some (.iface tp pp):=by
   have hgn:prog.globalNamed "strconv.ErrSyntax"=some 6:=by kernel_rfl
   have:=World.var?_cell hgn hv 0
   simpa using this
  have HT:Hid (Calls prog 177 #[.string ⟨#[80,97,114,115,101,85,105,110,116]⟩,.string (strU [x,y]),.int .i64 16,.int .i64 8,.iface 204 (.int .i64 2)] w1 fun e w'=>∃ev,e=.returned ev∧G w1 w'):=by
   refine(Any.strconv_toError_syntax Tryz.laysToError ⟨#[80,97,114,115,101,85,105,110,116]⟩ (strU [x,y]) 16 8 (.iface tp pp) w1 (by show 2≤_;decide) hcell (.inr ⟨tp,pp,rfl⟩)).mono ?_;rintro e w' ⟨N,rfl,_,_,hb⟩;exact⟨_,rfl,hb⟩
  have HA:Hid (∀p' q',dgF x.toNat=some p'→dgF y.toNat=some q'→(0:Int)=16*p'+q'):=fun p' q' h h'=>by
   rcases hn with hn|hn
   ·rw[hn] at h;cases h
   ·rw[hn] at h';cases h'
  have HG:Hid (G w w1):=hg;clear hn hg hcell hv
  go_wp2_with fail
  refine HT.out.mono ?_;rintro e w2 ⟨ev,rfl,hg2⟩;have HG2:Hid (G w w2):=HG.out.trans hg2;clear hg2
  go_wp2
  go_ret2
  exact⟨_,_,rfl,by decide,HA.out,HG2.out⟩
theorem bat(s:ByteArray)(i:Nat)(c:UInt8)(h:s.data.toList[i]?=some c)(hl:i<s.size):s[i]'hl=c:=by
 have:=(List.getElem?_eq_some_iff.1 h).2;rw[Array.getElem_toList] at this;exact this
def ltr:Nat→UInt8|0=>92|1=>39|2=>110|3=>116|_=>114
theorem zWI(s:ByteArray)(hs:s.size≤140737488355328)(hne:0<s.size)(w:World)(hE:Env w):Calls prog 160 #[.string s] w fun e w'=>∃(c:UInt8) (n:Nat),e=.returned (.tuple #[.int .u8 c.toNat,.int .i64 n])∧FB s.data.toList c n∧G w w':=by
 have hlen:s.data.toList.length=s.size:=by rw[Array.length_toList];rfl
 obtain⟨c0,r,hl⟩:∃c r,s.data.toList=c::r:=by
  cases h:s.data.toList with
  | nil=>rw[h] at hlen;simp at hlen;omega
  | cons c r=>exact⟨c,r,rfl⟩
 have hi0:∀h:0<s.size,s[0]'h=c0:=fun h=>bat s 0 c0 (by rw[hl];rfl) h
 by_cases hc0:c0=92
 ·subst hc0
  cases r with
  | nil=>
   have hsz:s.size=1:=by rw[←hlen,hl];rfl
   have HS:Hid _:=hl;clear hl hlen hE
   go_enter func160,ntmps160
   go_wp2
   go_ret2
   exact⟨92,1,rfl,by rw[HS.out];exact zPT,G.refl _⟩
  | cons l r'=>
   have hsz:2≤s.size:=by rw[←hlen,hl];simp
   have hI2:¬(s.size:Int)<2:=by omega
   have hi1:∀h:1<s.size,s[1]'h=l:=fun h=>bat s 1 l (by rw[hl];rfl) h;have hcc:=zGV hE;have HE:Hid _:=hE;have HS:Hid (s.data.toList=92::l::r'):=hl;have HLn:Hid _:=hlen;clear hl hlen hE
   go_enter func160,ntmps160
   go_wp2
   go_loopw [19] (fun i W=>∃k:Nat,k≤5∧i=.int .i64 k∧G w W∧∀j,j<k→l≠ltr j) (fun i _=>5-(RowKit.intOf i).toNat)
   case atStart=>exact⟨0,by decide,rfl,G.refl _,fun j hj=>absurd hj (Nat.not_lt_zero j)⟩
   case round=>
    obtain⟨k,hk,rfl,hG,hn⟩:=hrel;have HG:Hid (G w wr):=hG;have HN:Hid _:=hn;clear hG hn
    have hk':k=0∨k=1∨k=2∨k=3∨k=4∨k=5:=by omega
    rcases hk' with rfl|rfl|rfl|rfl|rfl|rfl
    ·have hix:=ix_0
     by_cases hr:l=92
     ·subst hr
      go_wp2
      go_quiet (fail)
      go_wp2
      go_ret2
      exact⟨92,2,rfl,by rw[HS.out];exact zCK 92 92 (.inl ⟨rfl,rfl⟩) r',by repeat(first|exact HG.out|refine G.drewM ?_ _|refine G.drew ?_|refine G.alloc ?_ _)⟩
     ·have hrb:((l.toNat:Int)==92)=false:=beq_false_of_ne (fun e=>hr (UInt8.toNat_inj.1 (by show l.toNat=92;omega)))
      go_wp2
      go_quiet (fail)
      go_wp2
      exact⟨⟨1,by decide,rfl,by repeat(first|exact HG.out|refine G.drewM ?_ _|refine G.drew ?_|refine G.alloc ?_ _),fun j hj=>by
       rcases Nat.lt_succ_iff_lt_or_eq.1 hj with h|h
       ·exact HN.out j h
       ·subst h;exact hr⟩,by decide⟩
    ·have hix:=ix_1
     by_cases hr:l=39
     ·subst hr
      go_wp2
      go_quiet (fail)
      go_wp2
      go_ret2
      exact⟨39,2,rfl,by rw[HS.out];exact zCK 39 39 (.inr (.inl ⟨rfl,rfl⟩)) r',by repeat(first|exact HG.out|refine G.drewM ?_ _|refine G.drew ?_|refine G.alloc ?_ _)⟩
     ·have hrb:((l.toNat:Int)==39)=false:=beq_false_of_ne (fun e=>hr (UInt8.toNat_inj.1 (by show l.toNat=39;omega)))
      go_wp2
      go_quiet (fail)
      go_wp2
      exact⟨⟨2,by decide,rfl,by repeat(first|exact HG.out|refine G.drewM ?_ _|refine G.drew ?_|refine G.alloc ?_ _),fun j hj=>by
       rcases Nat.lt_succ_iff_lt_or_eq.1 hj with h|h
       ·exact HN.out j h
       ·subst h;exact hr⟩,by decide⟩
    ·have hix:=ix_2
     by_cases hr:l=110
     ·subst hr
      go_wp2
      go_quiet (fail)
      go_wp2
      go_ret2
      exact⟨10,2,rfl,by rw[HS.out];exact zCK 10 110 (.inr (.inr (.inl ⟨rfl,rfl⟩))) r',by repeat(first|exact HG.out|refine G.drewM ?_ _|refine G.drew ?_|refine G.alloc ?_ _)⟩
     ·have hrb:((l.toNat:Int)==110)=false:=beq_false_of_ne (fun e=>hr (UInt8.toNat_inj.1 (by show l.toNat=110;omega)))
      go_wp2
      go_quiet (fail)
      go_wp2
      exact⟨⟨3,by decide,rfl,by repeat(first|exact HG.out|refine G.drewM ?_ _|refine G.drew ?_|refine G.alloc ?_ _),fun j hj=>by
       rcases Nat.lt_succ_iff_lt_or_eq.1 hj with h|h
       ·exact HN.out j h
       ·subst h;exact hr⟩,by decide⟩
    ·have hix:=ix_3
     by_cases hr:l=116
     ·subst hr
      go_wp2
      go_quiet (fail)
      go_wp2
      go_ret2
      exact⟨9,2,rfl,by rw[HS.out];exact zCK 9 116 (.inr (.inr (.inr (.inl ⟨rfl,rfl⟩)))) r',by repeat(first|exact HG.out|refine G.drewM ?_ _|refine G.drew ?_|refine G.alloc ?_ _)⟩
     ·have hrb:((l.toNat:Int)==116)=false:=beq_false_of_ne (fun e=>hr (UInt8.toNat_inj.1 (by show l.toNat=116;omega)))
      go_wp2
      go_quiet (fail)
      go_wp2
      exact⟨⟨4,by decide,rfl,by repeat(first|exact HG.out|refine G.drewM ?_ _|refine G.drew ?_|refine G.alloc ?_ _),fun j hj=>by
       rcases Nat.lt_succ_iff_lt_or_eq.1 hj with h|h
       ·exact HN.out j h
       ·subst h;exact hr⟩,by decide⟩
    ·have hix:=ix_4
     by_cases hr:l=114
     ·subst hr
      go_wp2
      go_quiet (fail)
      go_wp2
      go_ret2
      exact⟨13,2,rfl,by rw[HS.out];exact zCK 13 114 (.inr (.inr (.inr (.inr ⟨rfl,rfl⟩)))) r',by repeat(first|exact HG.out|refine G.drewM ?_ _|refine G.drew ?_|refine G.alloc ?_ _)⟩
     ·have hrb:((l.toNat:Int)==114)=false:=beq_false_of_ne (fun e=>hr (UInt8.toNat_inj.1 (by show l.toNat=114;omega)))
      go_wp2
      go_quiet (fail)
      go_wp2
      exact⟨⟨5,by decide,rfl,by repeat(first|exact HG.out|refine G.drewM ?_ _|refine G.drew ?_|refine G.alloc ?_ _),fun j hj=>by
       rcases Nat.lt_succ_iff_lt_or_eq.1 hj with h|h
       ·exact HN.out j h
       ·subst h;exact hr⟩,by decide⟩
    ·have HLE:Hid (l≠92∧l≠39∧l≠110∧l≠116∧l≠114):=⟨HN.out 0 (by decide),HN.out 1 (by decide),HN.out 2 (by decide),HN.out 3 (by decide),HN.out 4 (by decide)⟩
     clear HN
     by_cases h120:l=120
     ·subst h120
      by_cases h4:s.size<4
      ·have hI4:(s.size:Int)<4:=by omega
       have HR:Hid (r'.length<2):=by
        have:=HLn.out;rw[HS.out] at this;simp at this;unfold Hid;omega
       go_wp2
       go_ret2
       exact⟨92,1,rfl,by rw[HS.out];exact zNA 120 r' HLE.out (.inr HR.out),HG.out⟩
      ·have hI4:¬(s.size:Int)<4:=by omega
       obtain⟨x,y,r2,rfl⟩:∃x y r2,r'=x::y::r2:=by
        have:=HLn.out;rw[HS.out] at this
        match r',this with
        | [],h=>simp at h;omega
        | [a],h=>simp at h;omega
        | a::b::t,_=>exact⟨a,b,t,rfl⟩
       have hex:s.extract 2 4=strU [x,y]:=by
        apply ByteArray.ext;rw[ByteArray.data_extract];apply Array.ext';rw[Array.toList_extract,HS.out];rfl
       have HPU:Hid _:=zVI x y wr (HE.out.G HG.out)
       go_wp2_with fail
       refine Calls.mono HPU.out ?_;rintro e w2 ⟨u,ev,rfl,⟨hu0,hu1⟩,hval,hg⟩;have HGX:Hid (G w w2):=G.trans HG.out hg
       have HFB:Hid (FB (92::120::x::y::r2) (UInt8.ofNat u.toNat) 4):=zWH x y r2 _ (fun p q hp hq e1 e2=>by
        have:=hval p q (by rw[e1];exact zRq p hp) (by rw[e2];exact zRq q hq)
        congr 1;omega)
       have hun:((UInt8.ofNat u.toNat).toNat:Int)=u:=by rw[UInt8.toNat_ofNat'];omega
       have HUN:Hid _:=hun;clear hval hg hun
       go_wp2
       go_ret2
       refine⟨UInt8.ofNat u.toNat,4,?_,by rw[HS.out];exact HFB.out,HGX.out⟩;rw[HUN.out];rfl
     ·have k120:((l.toNat:Int)==120)=false:=beq_false_of_ne (fun e=>h120 (UInt8.toNat_inj.1 (by show l.toNat=120;omega)))
      have k2:¬(l.toNat:Int)=120:=fun e=>h120 (UInt8.toNat_inj.1 (by show l.toNat=120;omega))
      have k3:¬l.toNat=120:=by omega
      have k4:((l.toNat:Int) != 120)=true:=by simp[bne,k120]
      go_wp2
      go_ret2
      exact⟨92,1,rfl,by rw[HS.out];exact zNA l r' HLE.out (.inl h120),HG.out⟩
 ·have k1:((c0.toNat:Int)==92)=false:=beq_false_of_ne (fun e=>hc0 (UInt8.toNat_inj.1 (by show c0.toNat=92;omega)))
  have k2:¬(c0.toNat:Int)=92:=fun e=>hc0 (UInt8.toNat_inj.1 (by show c0.toNat=92;omega))
  have k3:¬c0.toNat=92:=by omega
  have k4:((c0.toNat:Int) != 92)=true:=by simp[bne,k1]
  have HS:Hid _:=hl;clear hl hlen hE
  go_enter func160,ntmps160
  go_wp2
  go_ret2
  exact⟨c0,1,rfl,by rw[HS.out];exact zPU hc0,G.refl _⟩
end
section
open Go.RowKit Go.Lib Go.Shelf
theorem zTV(c:UInt8):esc1 c≠[]:=by
 rcases zBR c with ⟨_,e⟩|⟨_,e⟩|⟨_,e⟩|⟨_,e⟩|⟨_,e⟩|e|⟨_,e⟩<;>rw[e]<;>simp
theorem zPY{l:List UInt8}(h:escS l=[]):l=[]:=by
 cases l with
 | nil=>rfl
 | cons c l=>
  have e:escS (c::l)=esc1 c++escS l:=by simp[escS]
  rw[e] at h;exact absurd (List.append_eq_nil_iff.1 h).1 (zTV c)
theorem zJm(s:ByteArray)(n:Nat):(s.extract n s.size).data.toList=s.data.toList.drop n:=by
 rw[ByteArray.data_extract,Array.toList_extract,List.extract_eq_take_drop];refine List.take_of_length_le ?_;rw[List.length_drop,Array.length_toList];exact Nat.le_refl _
def UB(w:World)(l:List UInt8)(W:World):Prop:=(l=[]∧BuilderAt 180 5 w.heap.size w.heap.size (.pointer none) [] W)∨(l≠[]∧BuilderAtF 180 5 w.heap.size w.heap.size (.pointer (some ⟨w.heap.size,0,none⟩)) (byteCells l) W)
theorem UB.F{w W:World}{l:List UInt8}(h:UB w l W):IsBuilderF 180 5 w.heap.size w.heap.size (byteCells l) W:=by
 rcases h with ⟨rfl,h⟩|⟨_,h⟩
 ·exact .inl (BuilderAtF.of h)
 ·exact .inr h
theorem UB.G{w W W':World}{l:List UInt8}(h:UB w l W)(g:G W W'):UB w l W':=by
 rcases h with ⟨rfl,hB,u,hb,hown,hne⟩|⟨h0,h⟩
 ·refine .inl ⟨rfl,hB,u,by rw[g.block _ (Array.getElem?_eq_some_iff.1 hb).1];exact hb,?_,hne⟩
  refine⟨hown.1,?_⟩
  rcases hown.2 with h|⟨q,cap,cur,h1,h2,h3,h4⟩
  ·exact .inl h
  ·exact .inr ⟨q,cap,cur,h1,h2,by rw[g.block _ (Array.getElem?_eq_some_iff.1 h3).1];exact h3,h4⟩
 ·exact .inr ⟨h0,zWU h g⟩
theorem zLb(s:ByteArray)(hs:s.size≤140737488351232)(w:World)(hE:Env w):Calls prog 131 #[.string s] w fun e w'=>∃t:ByteArray,e=.returned (.string t)∧(∀l0,s.data.toList=escS l0→t.data.toList=l0)∧t.size≤s.size∧G w w':=by
 have HE:Hid _:=hE;have HB0:Hid (UB w [] (w.alloc (.cells #[.pointer none,.slice none 0 0] 180))):=.inl ⟨rfl,Nat.le_refl _,.slice none 0 0,by show(w.heap.push _)[w.heap.size]?=_;simp,World.ownsRow_nil _ _ _ _,by simp[Value.ownBlock]⟩;clear hE
 go_enter func131,ntmps131
 go_wp2
 go_loopw [0] (fun t W=>∃(s':ByteArray) (l:List UInt8),t=.string s'∧l.length+s'.size≤s.size∧UB w l W∧G w W∧∀l0,s.data.toList=escS l0→∃l1,l0=l++l1∧s'.data.toList=escS l1) (fun t _=>match t with|.string s'=>s'.size|_=>0)
 case atStart=>exact⟨s,[],rfl,by simp,HB0.out,(G.refl w).alloc _,fun l0 h=>⟨l0,rfl,h⟩⟩
 case round=>
  obtain⟨s',l,rfl,hle,hU,hG,hL⟩:=hrel;have HU:Hid (UB w l wr):=hU;have HG:Hid (G w wr):=hG;have HL:Hid _:=hL;clear hU hG hL
  have hlen:s'.data.toList.length=s'.size:=by rw[Array.length_toList];rfl
  by_cases h0:s'.size=0
  ·have hnil:s'.data.toList=[]:=List.eq_nil_of_length_eq_zero (by omega)
   have hem:s'.toList.isEmpty=true:=by rw[ByteArray.toList_eq,hnil];rfl
   have HR:Hid (∀l0,s.data.toList=escS l0→l=l0):=fun l0 h=>by
    obtain⟨l1,h1,h2⟩:=HL.out l0 h;rw[hnil] at h2;rw[h1,zPY h2.symm,List.append_nil]
   have HST:Hid (Calls prog 162 #[.pointer (some ⟨w.heap.size,0,none⟩)] wr fun e w'=>e=.returned (.string (strU l))∧G w w'):=by
    rcases HU.out with ⟨rfl,hb⟩|⟨hn,hb⟩
    ·refine(Any.Builder_String_empty Tryz.laysBuilderString xBS w.heap.size w.heap.size wr (.inl hb) HG.out.size).mono ?_
     rintro e w' ⟨rfl,hbe⟩;exact⟨rfl,Below.trans HG.out hbe⟩
    ·refine(Any.Builder_String_k Tryz.laysBuilderString xBS w.heap.size w.heap.size l wr (.inr hb) hn).mono ?_
     rintro e w' ⟨rfl,_,hbe,_⟩;exact⟨rfl,Below.trans HG.out hbe⟩
   clear hnil HU HL hlen
   go_wp2_with fail
   refine Calls.mono HST.out ?_;rintro e w2 ⟨rfl,hg2⟩;have HG2:Hid _:=hg2;clear hg2
   go_wp2
   go_ret;exact⟨strU l,rfl,fun l0 h=>by rw[zAK];exact HR.out l0 h,by rw[zCw];omega,HG2.out⟩
  ·have hem:s'.toList.isEmpty=false:=by
    rw[ByteArray.toList_eq]
    cases h:s'.data.toList with
    | nil=>rw[h] at hlen;simp at hlen;omega
    | cons c r=>rfl
   have HFB:Hid (Calls prog 160 #[.string s'] wr fun e w'=>∃(c:UInt8) (n:Nat),e=.returned (.tuple #[.int .u8 c.toNat,.int .i64 n])∧FB s'.data.toList c n∧G wr w'):=zWI s' (by omega) (by omega) wr (HE.out.G HG.out)
   go_wp2_with fail
   refine Calls.mono HFB.out ?_;rintro e w2 ⟨c,n,rfl,hfb,hg2⟩;have HG2:Hid (G w w2):=G.trans HG.out hg2;have HU2:Hid (UB w l w2):=HU.out.G hg2;have hn1:=hfb.1
   have hn2:n≤s'.size:=by have:=hfb.2.1;omega
   have hnI:(n:Int)≤(s'.size:Int):=by omega
   have HF:Hid _:=hfb
   have hll:(byteCells l).length+1≤140737488355328:=by rw[byteCells_length];omega
   have HWB:Hid (Calls prog 161 #[.pointer (some ⟨w.heap.size,0,none⟩),.int .u8 c.toNat] w2 fun e w'=>e=.returned .nilIface∧(UB w (l++[c]) w'∧G w w')):=by
    refine(Any.Builder_WriteByte_k Tryz.laysWriteByte xWB w.heap.size w.heap.size (byteCells l) c.toNat w2 HU2.out.F hll HG2.out.size).mono ?_;rintro e w' ⟨rfl,hb,hbe,_⟩;refine⟨rfl,.inr ⟨by simp,?_⟩,Below.trans HG2.out hbe⟩;rw[show byteCells (l++[c])=byteCells l++[.int .u8 c.toNat] by simp[byteCells]];exact hb
   clear hfb hg2 HG HU HFB hll
   go_wp2_with fail
   refine Calls.mono HWB.out ?_;rintro e w3 ⟨rfl,hu3,hg3⟩;have HU3:Hid _:=hu3;have HG3:Hid _:=hg3;clear hu3 hg3 HU2 HG2 HWB
   have hxs:(s'.extract n s'.size).size=s'.size-n:=by rw[ByteArray.size_extract];omega
   have HXL:Hid ((s'.extract n s'.size).data.toList=s'.data.toList.drop n):=zJm s' n
   have HNE:Hid (s'.data.toList≠[]):=fun h=>by rw[h] at hlen;simp at hlen;omega
   have HXS:Hid _:=hxs;clear hxs hlen
   go_wp2
   exact⟨⟨s'.extract n s'.size,l++[c],rfl,by rw[HXS.out,List.length_append,List.length_singleton];omega,HU3.out,HG3.out,fun l0 h=>by
    obtain⟨l1,h1,h2⟩:=HL.out l0 h;obtain⟨l2,h3,h4⟩:=FB.step HF.out h2 HNE.out
    exact⟨l2,by rw[h1,h3];simp,by rw[HXL.out];exact h4⟩⟩,by show(s'.extract n s'.size).size<s'.size;rw[HXS.out];omega⟩
end
end Go.Proofs.YthmdjhfbhbheeaaGreatDoor
